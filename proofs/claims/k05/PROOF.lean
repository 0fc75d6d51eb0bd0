import PyProof.Rows.All
import Wide.All
import OpenK.AllK
import Wide.FinOn
import Lean
import PyProof.EqAt
import PyProof.EqKinds
import PyProof.TupleCall
import PyProof.CompFree
import PyProof.AttrMissHeap
import PyProof.ListNew
import PyProof.DictUpdate
import PyProof.DictList
import PyProof.FactsAll.dict_1
import PyProof.Rows.DictSet
import PyProof.Seq
import PyProof.TupleIter
import KE.KDictOf
import PyProof.NeKinds
import PyProof.ZipIter
import PyProof.EnumIter
import PyProof.EnumFor
import PyProof.EnumMake
import KE.KRevIter
import KE.KDictLaws
import PyProof.DictRoadsH
import KE.KDictList
import PyProof.ConsumeWalk
import PyProof.DictTruth
import PyProof.MinMaxWalk
import PyProof.WalkInts
import PyProof.WalksMore
import KE.KMinKey
import PyProof.Rows.CallKwBuiltin
import PyProof.Draws
import OpenK.KRaise
import OpenK.KOwn
import KE.KTryMore
import PyProof.StationsW
import PyProof.DictValues
import PyProof.FactsAll.dict_4
import PyProof.DictWalks
import PySem.Challenge.RW_factloom_k05_ways
set_option Elab.async false
set_option linter.all false
set_option maxRecDepth 100000
open List (mem_cons_of_mem mem_cons_self length_map getElem?_eq_getElem getElem?_set_ne mem_filter mem_map mem_cons getElem?_map mem_of_getElem? mem_append getElem?_set_self mem_append_right mem_append_left map_append map_map length_append length_cons length_take not_mem_nil take_of_length_le mem_singleton append_nil append_assoc map_cons filter_cons getElem?_append_left getElem?_append_right mem_flatten mem_reverse mem_flatMap length_set length_nil length_singleton filter_append getElem?_eq_none take_add_one map_congr_left filter_eq_self length_filter_le nodup_cons flatMap_cons getElem_mem filter_congr nodup_nil nodup_append all_eq_true any_eq_true mem_iff_getElem? nil_append mem_of_mem_take length_range all_cons zipIdx_cons set_set foldl_append flatMap_append)
set_option maxHeartbeats 4000000
namespace L2
open PySem PySem.Spec PyProof.Rows
abbrev Key:=Sum Int Str
def zuj:Key->Value->Bool
 |.inl k,v=>Value.isInt k v
 |.inr x,v=>Value.isStrOf x v
def keyH (w:World):Key->Int
 |.inl k=>hashInt k
 |.inr x=>hashStr w x
theorem zcx:∀{k:Key} {v:Value},zuj k v=true->(∃i t,k=Sum.inl i/\v=Value.int i t)\/(∃x t,k=Sum.inr x/\v=Value.str x t)
 |.inl i,v,h=>by
  obtain ⟨t,e⟩:=Value.isInt_shape (k:=i) (v:=v) h
  exact .inl ⟨i,t,rfl,e⟩
 |.inr x,v,h=>by
  obtain ⟨t,e⟩:=Value.isStrOf_shape (x:=x) (v:=v) h
  exact .inr ⟨x,t,rfl,e⟩
theorem keyIs_int (i:Int)(t:Tok):zuj (.inl i) (.int i t)=true:=by simp [zuj,Value.isInt]
theorem keyIs_str (x:Str)(t:Tok):zuj (.inr x) (.str x t)=true:=by simp [zuj,Value.isStrOf]
theorem key_ll (a b:Int):decide ((Sum.inl a:Key)=Sum.inl b)=(a==b):=by
 by_cases e:a=b
 ·subst e;simp
 ·have h:¬(Sum.inl a:Key)=Sum.inl b:=fun q=>e (Sum.inl.inj q)
  rw [decide_eq_false h]
  exact (beq_eq_false_iff_ne.mpr e).symm
theorem key_rr (a b:Str):decide ((Sum.inr a:Key)=Sum.inr b)=decide (a=b):=by
 by_cases e:a=b
 ·subst e;simp
 ·have h:¬(Sum.inr a:Key)=Sum.inr b:=fun q=>e (Sum.inr.inj q)
  rw [decide_eq_false h,decide_eq_false e]
theorem key_lr (a:Int)(b:Str):decide ((Sum.inl a:Key)=Sum.inr b)=false:=decide_eq_false (fun q=>nomatch q)
theorem key_rl (a:Str)(b:Int):decide ((Sum.inr a:Key)=Sum.inl b)=false:=decide_eq_false (fun q=>nomatch q)
def zc9 (prog:Program)(w:World):PySem.KeyKind prog w Key where
 is:=zuj
 hash:=keyH w
 inj:=fun v a b ha hb=>by
  rcases zcx ha with ⟨i,t,rfl,rfl⟩|⟨x,t,rfl,rfl⟩
  ·rcases zcx hb with ⟨j,u,rfl,e⟩|⟨y,u,rfl,e⟩
   ·injection e with e1 _;rw [e1]
   ·exact nomatch e
  ·rcases zcx hb with ⟨j,u,rfl,e⟩|⟨y,u,rfl,e⟩
   ·exact nomatch e
   ·injection e with e1 _;rw [e1]
 byValue:=fun k v h=>by
  rcases zcx h with ⟨i,t,rfl,rfl⟩|⟨x,t,rfl,rfl⟩<;>rfl
 pyHash:=fun hv h=>by
  rcases zcx hv with ⟨i,t,rfl,rfl⟩|⟨x,t,rfl,rfl⟩
  ·exact wpAny_pyHash_int h
  ·exact wpAny_pyHash_str h
 eqBool:=fun hu hv h=>by
  rcases zcx hu with ⟨i,t,rfl,rfl⟩|⟨x,t,rfl,rfl⟩
  ·rcases zcx hv with ⟨j,u,rfl,rfl⟩|⟨y,u,rfl,rfl⟩
   ·rw [key_ll] at h;exact wpAny_eqBool_int h
   ·rw [key_lr] at h;exact SeqAt.EqAt.int_str i t y u _ _ _ _ h
  ·rcases zcx hv with ⟨j,u,rfl,rfl⟩|⟨y,u,rfl,rfl⟩
   ·rw [key_rl] at h;exact SeqAt.EqAt.str_int x t j u _ _ _ _ h
   ·rw [key_rr] at h;exact wpAny_eqBool_str h
 «strs»:=fun k x t v h=>by
  rcases zcx h with ⟨i,u,rfl,e⟩|⟨y,u,rfl,e⟩
  ·exact nomatch e
  ·injection e with e1 _
   subst e1
   cases v<;>rfl
theorem zxj (prog:Program)(w:World)(k:Key)(v:Value):(zc9 prog w).is k v=zuj k v:=rfl
theorem zuc (prog:Program)(w:World)(i:Int)(t:Tok):(zc9 prog w).is (.inl i) (.int i t)=true:=keyIs_int i t
theorem zub (prog:Program)(w:World)(x:Str)(t:Tok):(zc9 prog w).is (.inr x) (.str x t)=true:=keyIs_str x t
end L2
namespace L2
open PySem PySem.Spec PyProof.Rows
inductive V where
 |non|bl (b:Bool)|int (i:Int)|str (x:Str)|byt (b:Array UInt8)|flt (b:UInt64)|ref (a:Addr)|ty (n:String)
 deriving DecidableEq
def RelV:V->Value->Prop
 |.non,u=>u=Value.none
 |.bl b,u=>u=Value.bool b
 |.int i,u=>∃t,u=Value.int i t
 |.str x,u=>∃t,u=Value.str x t
 |.byt b,u=>∃t,u=Value.bytes b t
 |.flt b,u=>∃t,u=Value.float b t
 |.ref a,u=>u=Value.ref a
 |.ty n,u=>u=Value.type n
abbrev Vals:List V->List Value->Prop:=Paired RelV
theorem Vals.length {xs:List V}{us:List Value}(r:Vals xs us):xs.length=us.length:=Paired.length r
theorem Vals.get:∀{xs:List V} {us:List Value} {i:Nat} {x:V},Vals xs us->xs[i]?=some x->∃u,us[i]?=some u/\RelV x u
 |_,_,_,_,.nil,e=>by simp at e
 |_,_,0,_,.cons r _,e=>by simp at e;subst e;exact ⟨_,rfl,r⟩
 |_,_,i+1,x,.cons _ t,e=>by
  obtain ⟨u,h1,h2⟩:=Vals.get (i:=i) (x:=x) t (by simpa using e)
  exact ⟨u,by simpa using h1,h2⟩
theorem Vals.append:∀{xs ys:List V} {us ws:List Value},Vals xs us->Vals ys ws->Vals (xs++ys) (us++ws)
 |_,_,_,_,.nil,s=>s
 |_,_,_,_,.cons r t,s=>.cons r (Vals.append t s)
theorem Vals.take:∀{xs:List V} {us:List Value} (n:Nat),Vals xs us->Vals (xs.take n) (us.take n)
 |_,_,0,_=>.nil
 |_,_,_+1,.nil=>.nil
 |_,_,n+1,.cons r t=>.cons r (Vals.take n t)
theorem Vals.drop:∀{xs:List V} {us:List Value} (n:Nat),Vals xs us->Vals (xs.drop n) (us.drop n)
 |_,_,0,r=>r
 |_,_,_+1,.nil=>.nil
 |_,_,n+1,.cons _ t=>Vals.drop n t
def RelO:Option V->Option Value->Prop
 |some v,some u=>RelV v u
 |none,none=>True
 |_,_=>False
def KV {κ:Type}:List (κ×V)->List (κ×Value)->Prop:=Paired fun (p:κ×V) (q:κ×Value)=>p.1=q.1/\RelV p.2 q.2
def kV:Key->V
 |.inl i=>.int i
 |.inr x=>.str x
inductive HO where
 /--a list-/
 |lst (xs:List V)
 /--a tuple (never changes)-/
 |tup (xs:List V)
 /--a dict whose keys are ints and texts;one whose keys are tuples of ints and texts (the empty one is both)-/
 |dK (kvs:List (Key×V))|dT (kvs:List (List Key×V))
 /--a set of ints:its members,its size-/
 |set (S:Int->Bool) (n:Nat)
 /--an instance of the class at C,its dict at dx,its attributes-/
 |ins (C dx:Addr) (fs:List (Str×V))
 /--the dict of the instance at x-/
 |own (x:Addr)
 /--the dict of an exception-/
 |xd (fs:List (Str×V))
 /--a bound method,f of x-/
 |met (f x:Addr)
 /--a range object lo,lo+1,.. below hi-/
 |rng (lo hi:Int)
 /--a thing that is known to the object (the script;a dict while a loop walks it):read,never written while it is so-/
 |frz (o:Obj) (u:HO)
 /--a code object's table-/
 |tbl (ps:Array Value)
 /--any other thing,by what is true of its one object (a def of one's own:SetO a S n:=HO.ext fun h=>..)-/
 |ext (φ:Heap->Prop)
abbrev Hp:=Addr->Option HO
def upd (H:Hp)(a:Addr)(o:HO):Hp:=fun b=>if b=a then some o else H b
theorem zae {H:Hp}{a:Addr}{o:HO}:upd H a o a=some o:=by unfold upd;rw [if_pos rfl]
theorem zal {H:Hp}{a b:Addr}{o:HO}(h:b≠a):upd H a o b=H b:=by unfold upd;rw [if_neg h]
theorem ne_of {H:Hp}{a b:Addr}{o u:HO}(h:H a=some o)(h':H b=some u)(d:o≠u):a≠b:=by
 intro e;subst e;rw [h] at h';exact d (Option.some.inj h')
theorem zax {H:Hp}{a b:Addr}{o:HO}(h:H a=some o)(h':H b=none):a≠b:=by
 intro e;subst e;rw [h] at h';cases h'
section
variable (P:Program)(w:World)
def ObjOk (H:Hp)(h:Heap)(a:Addr):HO->Prop
 |.lst xs=>xs.length<=sizeLine/\∃(its:List Value) (n:Nat),Vals xs its/\h.get? a=some {cls:=.type "list",data:=.seq its.toArray n}
 |.tup xs=>xs.length<=sizeLine/\∃its:List Value,Vals xs its/\IsTup h a its.toArray
 |.dK kvs=>kvs.length<=sizeLine/\(a==sysModules)=false/\∃vs,KV kvs vs/\h.DictOf (zc9 P w) a vs
 |.dT kvs=>kvs.length<=sizeLine/\(a==sysModules)=false/\∃xs:List (List Key×Addr×Value),
   Paired (fun (p:List Key×V) (q:List Key×Addr×Value)=>p.1=q.1/\H q.2.1=some (.tup (p.1.map kV))/\RelV p.2 q.2.2) kvs xs/\
   ∃o es ep,h.get? a=some o/\o.ExactDict/\o.data=.dict es ep/\es.toList=xs.map (entryOfKey (tupleKind (zc9 P w)))/\(xs.map (·.1)).Nodup
 |.set S n=>h.SetOf (intKind P w) a S n
 |.ins C dx fs=>H dx=some (.own a)/\fs.length<=1000/\dx≠a/\h.get? a=some (PySem.W.instObj C dx)/\
   ∃mA,h.Ns1 dx mA/\(∀f,RelO (fs.lookup f) (mA f))/\PySem.Within mA (fs.map (·.1))
 |.own _=>∃o,h.get? a=some o
 |.xd fs=>∃mA,h.Ns1 a mA/\∀f,RelO (fs.lookup f) (mA f)
 |.rng lo hi=>∃t u v,h.get? a=some {cls:=.type "range",data:=.fields #[.int lo t,.int hi u,.int 1 v]}
 |.frz o u=>h.get? a=some o/\ObjOk H h a u
 |.tbl ps=>h.get? a=some {cls:=.none,data:=.fields ps}
 |.met f x=>h.get? a=some (PySem.W.methodObj (.ref f) (.ref x))
 |.ext φ=>φ h/\(∃o,h.get? a=some o)/\∀h1 h2:Heap,φ h1->(∀o,h1.get? a=some o->h2.get? a=some o)->φ h2
def HOk (H:Hp)(h:Heap):Prop:=∀a o,H a=some o->ObjOk P w H h a o
end
section
variable {P:Program}{w:World}{H H':Hp}{h h':Heap}{a:Addr}{o:HO}
theorem ObjOk.lt (x:ObjOk P w H h a o):a<h.objs.size:=by
 cases o with
 |lst xs=>obtain ⟨_,_,_,_,e⟩:=x;exact Heap.lt_size e
 |tup xs=>obtain ⟨_,_,_,p⟩:=x;exact p.lt
 |dK kvs=>obtain ⟨_,_,_,_,o,_,_,e,_⟩:=x;exact Heap.lt_size e
 |dT kvs=>obtain ⟨_,_,_,_,o,_,_,e,_⟩:=x;exact Heap.lt_size e
 |set S n=>obtain ⟨o,_,_,_,e,_⟩:=x;exact Heap.lt_size e
 |ins C dx fs=>obtain ⟨_,_,_,e,_⟩:=x;exact Heap.lt_size e
 |own y=>obtain ⟨_,e⟩:=x;exact Heap.lt_size e
 |xd fs=>obtain ⟨_,⟨_,_,_,e,_⟩,_⟩:=x;exact Heap.lt_size e
 |rng lo hi=>obtain ⟨_,_,_,e⟩:=x;exact Heap.lt_size e
 |frz ob u=>obtain ⟨e,_⟩:=x;exact Heap.lt_size e
 |tbl ps=>exact Heap.lt_size (show h.get? a=some _ from x)
 |met f y=>exact Heap.lt_size (show h.get? a=some _ from x)
 |ext φ=>obtain ⟨_,⟨_,e⟩,_⟩:=x;exact Heap.lt_size e
theorem Paired.mapP {α β:Type}{F G:α->β->Prop}:∀{l₁:List α} {l₂:List β},Paired F l₁ l₂->(∀a b,F a b->G a b)->Paired G l₁ l₂
 |_,_,.nil,_=>.nil
 |_,_,.cons r t,f=>.cons (f _ _ r) (Paired.mapP t f)
theorem ObjOk.stay (x:ObjOk P w H h a o)(k:∀b u,(b=a\/H b=some (.own a))->h.get? b=some u->h'.get? b=some u)
  (ho:∀b,H b=some (.own a)->H' b=some (.own a)) (ht:∀b xs,H b=some (.tup xs)->H' b=some (.tup xs)):ObjOk P w H' h' a o:=by
 induction o with
 |lst xs=>obtain ⟨z,its,n,r,e⟩:=x;exact ⟨z,its,n,r,k _ _ (.inl rfl) e⟩
 |tup xs=>obtain ⟨z,its,r,ob,e,c⟩:=x;exact ⟨z,its,r,ob,k _ _ (.inl rfl) e,c⟩
 |dK kvs=>obtain ⟨z,y,vs,r,ob,es,ep,e,c⟩:=x;exact ⟨z,y,vs,r,ob,es,ep,k _ _ (.inl rfl) e,c⟩
 |dT kvs=>
  obtain ⟨z,y,xs,r,ob,es,ep,e,c⟩:=x
  exact ⟨z,y,xs,Paired.mapP r fun p q z=>⟨z.1,ht _ _ z.2.1,z.2.2⟩,ob,es,ep,k _ _ (.inl rfl) e,c⟩
 |set S n=>obtain ⟨ob,es,ep,t,e,c⟩:=x;exact ⟨ob,es,ep,t,k _ _ (.inl rfl) e,c⟩
 |ins C dx fs=>
  obtain ⟨d,z,ne,e,mA,⟨od,es,ep,e2,c⟩,r⟩:=x
  exact ⟨ho _ d,z,ne,k _ _ (.inl rfl) e,mA,⟨od,es,ep,k _ _ (.inr d) e2,c⟩,r⟩
 |own y=>obtain ⟨ob,e⟩:=x;exact ⟨ob,k _ _ (.inl rfl) e⟩
 |xd fs=>obtain ⟨mA,⟨od,es,ep,e,c⟩,r⟩:=x;exact ⟨mA,⟨od,es,ep,k _ _ (.inl rfl) e,c⟩,r⟩
 |rng lo hi=>obtain ⟨t,u,v,e⟩:=x;exact ⟨t,u,v,k _ _ (.inl rfl) e⟩
 |frz ob u ih=>obtain ⟨e,q⟩:=x;exact ⟨k _ _ (.inl rfl) e,ih q⟩
 |tbl ps=>
  have e:h.get? a=some {cls:=.none,data:=.fields ps}:=x
  show h'.get? a=some {cls:=.none,data:=.fields ps}
  exact k a _ (.inl rfl) e
 |met f y=>
  have e:h.get? a=some (PySem.W.methodObj (.ref f) (.ref y)):=x
  show h'.get? a=some (PySem.W.methodObj (.ref f) (.ref y))
  exact k a _ (.inl rfl) e
 |ext φ=>obtain ⟨p,⟨o,e⟩,st⟩:=x;exact ⟨st _ _ p fun o q=>k _ _ (.inl rfl) q,⟨o,k _ _ (.inl rfl) e⟩,st⟩
theorem HOk.lt (x:HOk P w H h)(e:H a=some o):a<h.objs.size:=(x a o e).lt
theorem HOk.fresh (x:HOk P w H h)(e:h.objs.size<=a):H a=none:=by
 cases q:H a with
 |none=>rfl
 |some u=>exact absurd (Nat.lt_of_lt_of_le (x.lt q) e) (Nat.lt_irrefl _)
theorem HOk.kept (x:HOk P w H h)(k:∀b u,h.get? b=some u->h'.get? b=some u):HOk P w H h':=fun a o e=>
 (x a o e).stay (fun b u _ q=>k b u q) (fun _ q=>q) fun _ _ q=>q
theorem HOk.laid (x:HOk P w H h)(k:∀b u,h.get? b=some u->h'.get? b=some u)(hp:h.objs.size<=a)(new:ObjOk P w (upd H a o) h' a o):HOk P w (upd H a o) h':=fun b u e=>by
 have hn:=x.fresh hp
 by_cases hb:b=a
 ·subst hb;rw [zae] at e;cases e;exact new
 ·rw [zal hb] at e
  exact (x b u e).stay (fun c v _ q=>k c v q) (fun c q=>by rw [zal (zax q hn)];exact q) fun c xs q=>by rw [zal (zax q hn)];exact q
end
def Rd (H:Hp)(a:Addr)(u:HO):Prop:=H a=some u\/∃o,H a=some (.frz o u)
theorem Rd.ok {P:Program}{w:World}{H:Hp}{h:Heap}{a:Addr}{u:HO}(r:Rd H a u)(x:HOk P w H h):ObjOk P w H h a u:=by
 rcases r with r|⟨o,r⟩
 ·exact x a u r
 ·obtain ⟨_,q⟩:=x a _ r
  exact q
def Mut:Option HO->Prop
 |some (.lst _)=>True
 |some (.dK _)=>True
 |some (.dT _)=>True
 |some (.set _ _)=>True
 |some (.ins _ _ _)=>True
 |some (.ext _)=>True
 |_=>False
section
variable {P:Program}{w:World}{H:Hp}{h h':Heap}{x e:Addr}{o':HO}
theorem HOk.write (ok:HOk P w H h)(mu:Mut (H x))(he:e=x\/H e=some (.own x))(k:∀b u,b≠e->h.get? b=some u->h'.get? b=some u)(heo:∃u,h'.get? e=some u)
  (new:ObjOk P w (upd H x o') h' x o'):HOk P w (upd H x o') h':=fun b u q=>by
 have nown:∀c y,H c=some (.own y)->c≠x:=fun c y r z=>by subst z;rw [r] at mu;exact mu
 have ntup:∀c xs,H c=some (.tup xs)->c≠x:=fun c xs r z=>by subst z;rw [r] at mu;exact mu
 by_cases hb:b=x
 ·subst hb;rw [zae] at q;cases q;exact new
 ·rw [zal hb] at q
  by_cases hbe:b=e
  ·have q':H b=some (.own x):=by
    rcases he with z|z
    ·exact absurd (hbe.trans z) hb
    ·rw [hbe];exact z
   rw [q] at q';cases q'
   obtain ⟨v,hv⟩:=heo
   exact ⟨v,by rw [hbe];exact hv⟩
  ·refine (ok b u q).stay (fun c v hc r=>k c v ?_ r) (fun c r=>by rw [zal (nown c b r)];exact r) fun c xs r=>by rw [zal (ntup c xs r)];exact r
   rcases hc with rfl|hc
   ·exact hbe
   ·rintro rfl
    rcases he with z|z
    ·exact nown c b hc z
    ·rw [hc] at z;cases z;exact hb rfl
end
structure Un (fs ex:List Addr)(H H':Hp)(h h':Heap):Prop where
 keep:∀b o,h.get? b=some o->H b=none->b∉fs->b∉ex->h'.get? b=some o
 slot:∀b o,h.get? b=some o->H b=none->b∈fs->b∉ex->∃sl,h'.get? b=some {o with slots:=sl}
 free:∀b o,h.get? b=some o->H b=none->b∉ex->H' b=none
 there:∀b o,h.get? b=some o->b∉ex->∃o',h'.get? b=some o'
 tups:∀b xs,H b=some (.tup xs)->H' b=some (.tup xs)
 frzs:∀b o u,H b=some (.frz o u)->H' b=some (.frz o u)
 tbls:∀b ps,H b=some (.tbl ps)->∃more,H' b=some (.tbl (ps++more))
section
variable {fs fs' ex ex':List Addr}{H H1 H2:Hp}{h h1 h2 h':Heap}{a x e:Addr}{o:HO}
theorem Un.any (u:Un fs ex H H1 h h1){b:Addr}{ob:Obj}(q:h.get? b=some ob)(n:H b=none)(hx:b∉ex):∃sl,h1.get? b=some {ob with slots:=sl}:=by
 by_cases hb:b∈fs
 ·exact u.slot b ob q n hb hx
 ·exact ⟨ob.slots,u.keep b ob q n hb hx⟩
theorem Un.kept (k:∀b u,h.get? b=some u->h'.get? b=some u):Un fs ex H H h h':=
 ⟨fun b ob q _ _ _=>k b ob q,fun b ob q _ _ _=>⟨ob.slots,k b ob q⟩,fun _ _ _ n _=>n,fun b ob q _=>⟨ob,k b ob q⟩,fun _ _ q=>q,fun _ _ _ q=>q,fun _ ps q=>⟨#[],by rw [q];simp⟩⟩
theorem Un.refl:Un fs ex H H h h:=Un.kept fun _ _ q=>q
theorem Un.laid (k:∀b u,h.get? b=some u->h'.get? b=some u)(hp:h.objs.size<=a)(hn:H a=none):Un fs ex H (upd H a o) h h' where
 keep:=fun b u q _ _ _=>k b u q
 slot:=fun b u q _ _ _=>⟨u.slots,k b u q⟩
 free:=fun b u q n _=>by rw [zal (Nat.ne_of_lt (Nat.lt_of_lt_of_le (Heap.lt_size q) hp))];exact n
 there:=fun b u q _=>⟨u,k b u q⟩
 tups:=fun b xs q=>by rw [zal (zax q hn)];exact q
 frzs:=fun b u xs q=>by rw [zal (zax q hn)];exact q
 tbls:=fun b ps q=>⟨#[],by rw [zal (zax q hn),q];simp⟩
theorem Un.write (mu:Mut (H x))(he:e=x\/H e=some (.own x))(k:∀b u,b≠e->h.get? b=some u->h'.get? b=some u)(heo:∃u,h'.get? e=some u):Un fs ex H (upd H x o) h h':=by
 have hx:∀b,H b=none->b≠x:=fun b n z=>by subst z;rw [n] at mu;exact mu
 have hb:∀b,H b=none->b≠e:=fun b n z=>by
  subst z
  rcases he with r|r
  ·exact hx b n r
  ·rw [n] at r;cases r
 have hm:∀b u,H b=some u->¬Mut (some u)->b≠x:=fun b u q nm z=>by subst z;rw [q] at mu;exact nm mu
 refine ⟨fun b u q n _ _=>k b u (hb b n) q,fun b u q n _ _=>⟨u.slots,k b u (hb b n) q⟩,fun b u q n _=>by rw [zal (hx b n)];exact n,fun b u q _=>?_,
  fun b xs q=>by rw [zal (hm b _ q fun z=>z)];exact q,fun b u xs q=>by rw [zal (hm b _ q fun z=>z)];exact q,fun b ps q=>⟨#[],by rw [zal (hm b _ q fun z=>z),q];simp⟩⟩
 by_cases hbe:b=e
 ·subst hbe;exact heo
 ·exact ⟨u,k b u hbe q⟩
end
def trk (h:Heap)(H:Hp):List Addr:=(List.range h.objs.size).filter fun a=>(H a).isSome
def hidT (h:Heap)(H:Hp):Heap:=PySem.W.hideAll h (trk h H)
theorem hidT_size (h:Heap)(H:Hp):(hidT h H).objs.size=h.objs.size:=PySem.W.hideAll_size _ _
theorem hidT_get {h:Heap}{H:Hp}{b:Addr}{o:Obj}(e:h.get? b=some o)(n:H b=none):(hidT h H).get? b=some o:=
 PySem.W.hideAll_get _ e fun hm=>by
  have q:(H b).isSome=true:=(mem_filter.mp hm).2
  rw [n] at q;simp at q
theorem of_hidT {h:Heap}{H:Hp}{b:Addr}{o:Obj}(e:(hidT h H).get? b=some o):h.get? b=some o/\H b=none:=by
 have e':h.get? b=some o:=PySem.W.of_hideAll (trk h H) e
 refine ⟨e',?_⟩
 cases q:H b with
 |none=>rfl
 |some x=>
  have hm:b∈trk h H:=mem_filter.mpr ⟨List.mem_range.mpr (Heap.lt_size e'),by simp [q]⟩
  have z:(hidT h H).get? b=none:=PySem.W.hideAll_none (trk h H) hm
  rw [z] at e;cases e
end L2
namespace L2
open PySem PySem.Spec PyProof.Rows
structure Mod (K:PySem.W.Frag)(mg:Str->Option Value)(base:Heap):Prop where
 kin:K.In base
 glob:base.Ns mainGlobals mg
 blt:∃mb,base.Ns builtinsNs mb/\∀x:Str,x≠"__name__"->mb x=bootBuiltins x
 nolimit:base.NoLimit
structure Cx where
 prog:Program
 w:World
 K:PySem.W.Frag
 mg:Str->Option Value
 base:Heap
 A:Around
 N:List Str
 s₀:Shared
 H₀:Hp
 env:Env
 outer:List Env
 stack:List Env
 ex:List Addr
 fn:Str->Bool
 calm:Bool
 pn:List (Addr×Obj)
 xe:Value->Shared->Prop
def frs (l:List Env):List Addr:=l.filterMap (·.frame)
abbrev Cx.fs (X:Cx):List Addr:=frs X.outer
def Vis (sc:Scope)(x:Str):Prop:=sc.names.lookup x=some .local\/sc.names.lookup x=some .cell\/sc.names.lookup x=some .free
def Loc (sc:Scope)(x:Str):Prop:=sc.names.lookup x=some .local\/sc.names.lookup x=some .cell
def Look (env:Env)(h:Heap)(m:Str->Option Value)(x:Str)(u:Value):Prop:=
 (env.kindOf x=some .local/\m x=some u)\/((env.kindOf x=some .cell\/env.kindOf x=some .free)/\∃c,env.cells.lookup x=some c/\h.IsCell c (some u))
structure Cx.Ok (X:Cx):Prop where
 mod:Mod X.K X.mg X.base
 kind:X.env.scope.kind=.function
 glob:X.env.globals=mainGlobals
 blt:X.env.builtins=builtinsNs
 above:X.s₀.heap.objs.size<=X.env.locals
 inj:∀x y c,X.env.cells.lookup x=some c->X.env.cells.lookup y=some c->x=y
 has:∀x,(X.env.kindOf x=some .cell\/X.env.kindOf x=some .free)->∃c,X.env.cells.lookup x=some c
 cab:∀x c,X.fn x=true->X.env.cells.lookup x=some c->X.s₀.heap.objs.size<=c
 hd:X.calm=true->X.A.handled=none
 frames:X.A.frames=some X.stack
 stk:X.stack=X.outer\/(X.stack=X.env::X.outer/\X.env.frame=some X.env.locals)
 exf:∀b∈X.ex,b≠X.env.locals/\∀x c,X.env.cells.lookup x=some c->c≠b
 bs:∀b o,X.base.get? b=some o->X.s₀.heap.get? b=some o/\X.H₀ b=none
 bsz:X.base.objs.size<=X.s₀.heap.objs.size
 noex:∀b o,X.base.get? b=some o->b∉X.ex
 exfs:∀b∈X.ex,b∉X.fs
 funs:X.s₀.heap.FunFrames X.base X.outer
 frf:∀b∈X.fs,X.H₀ b=none
structure Inv (X:Cx)(pins:List (Addr×Obj))(σ:List (Option V))(H:Hp)(s:Shared):Prop where
 ok:X.Ok
 os:s.os=X.s₀.os
 bare:AllBare s.gens
 base:Un X.fs X.ex X.H₀ H X.s₀.heap s.heap
 loc:∃m,s.heap.Ns X.env.locals m/\∀(i:Nat) (x:Str) (v:V),X.N[i]?=some x->σ[i]?=some (some v)->Vis X.env.scope x->∃u,RelV v u/\Look X.env s.heap m x u
 cell:∀x c,X.env.cells.lookup x=some c->∃v,s.heap.IsCell c v
 free:H X.env.locals=none
 freeC:∀x c,X.env.cells.lookup x=some c->H c=none
 pin:∀p∈X.pn++pins,s.heap.get? p.1=some p.2/\H p.1=none/\p.1≠X.env.locals/\p.1∉X.fs/\∀v,p.2.data≠.cell v
 hok:HOk X.prog X.w H s.heap
 len:σ.length=X.N.length
section
variable {X:Cx}{pins:List (Addr×Obj)}{σ:List (Option V)}{H H':Hp}{s:Shared}{h':Heap}
theorem Cx.Ok.nofr (ok:X.Ok){b:Addr}{o:Obj}(e:X.base.get? b=some o):b∉X.fs:=fun hb=>by
 have:=(ok.funs.mem hb).1
 rw [e] at this;cases this
theorem Inv.bs (I:Inv X pins σ H s):∀b o,X.base.get? b=some o->s.heap.get? b=some o/\H b=none:=fun b o e=>
 ⟨I.base.keep b o (I.ok.bs b o e).1 (I.ok.bs b o e).2 (I.ok.nofr e) (I.ok.noex b o e),I.base.free b o (I.ok.bs b o e).1 (I.ok.bs b o e).2 (I.ok.noex b o e)⟩
theorem Inv.bk (I:Inv X pins σ H s):∀b o,X.base.get? b=some o->s.heap.get? b=some o:=fun b o e=>(I.bs b o e).1
theorem Inv.mod (I:Inv X pins σ H s):Mod X.K X.mg X.base:=I.ok.mod
theorem Inv.kIn (I:Inv X pins σ H s):X.K.In s.heap:=I.ok.mod.kin.keeps I.bk
theorem Inv.lt (I:Inv X pins σ H s):X.env.locals<s.heap.objs.size:=let ⟨_,hn,_⟩:=I.loc;hn.lt
theorem Inv.sz (I:Inv X pins σ H s):X.s₀.heap.objs.size<=s.heap.objs.size:=Nat.le_trans I.ok.above (Nat.le_of_lt I.lt)
theorem Inv.nofs (I:Inv X pins σ H s){a:Addr}(h:s.heap.objs.size<=a):a∉X.fs:=fun hb=>by
 obtain ⟨_,o,ho,_⟩:=I.ok.funs.mem hb
 exact absurd (Nat.lt_of_lt_of_le (Heap.lt_size ho) (Nat.le_trans I.sz h)) (Nat.lt_irrefl _)
theorem Inv.cne (I:Inv X pins σ H s):∀x c,X.env.cells.lookup x=some c->c≠X.env.locals:=fun x c e z=>by
 obtain ⟨v,o,ho,hd⟩:=I.cell x c e
 obtain ⟨m,⟨o',es,ep,ho',hd',_⟩,_⟩:=I.loc
 rw [z,ho'] at ho;cases ho;rw [hd'] at hd;cases hd
theorem Inv.funs (I:Inv X pins σ H s):s.heap.FunFrames X.base X.outer:=by
 have all:∀(l:List Env),(∀b∈frs l,b∈X.fs)->X.s₀.heap.FunFrames X.base l->s.heap.FunFrames X.base l:=by
  intro l
  induction l with
  |nil=>intro _ _;trivial
  |cons env r ih=>
   intro hs hl
   obtain ⟨hk,⟨L,o,hf,hn,ho,hd⟩,hr⟩:=hl
   have hL:L∈X.fs:=hs L (by unfold frs;rw [List.filterMap_cons,hf];exact mem_cons_self)
   obtain ⟨sl,e⟩:=I.base.slot L o ho (I.ok.frf L hL) hL fun z=>I.ok.exfs L z hL
   exact ⟨hk,⟨L,_,hf,hn,e,hd⟩,ih (fun b hb=>hs b (by unfold frs;rw [List.filterMap_cons,hf];exact mem_cons_of_mem _ hb)) hr⟩
 exact all X.outer (fun _ hb=>hb) I.ok.funs
theorem Inv.stack (I:Inv X pins σ H s):s.heap.FunFrames X.base X.stack:=by
 rcases I.ok.stk with e|⟨e,hf⟩
 ·rw [e];exact I.funs
 ·rw [e]
  obtain ⟨m,hn,_⟩:=I.loc
  refine .cons (by rw [I.ok.kind];decide) hf hn ?_ I.funs
  exact Heap.get?_none_of_le (Nat.le_trans I.ok.bsz I.ok.above)
theorem Inv.stkSub (I:Inv X pins σ H s):∀b∈frs X.stack,b∈X.env.locals::X.fs:=fun b hb=>by
 rcases I.ok.stk with e|⟨e,hf⟩
 ·rw [e] at hb;exact mem_cons_of_mem _ hb
 ·rw [e] at hb
  unfold frs at hb
  rw [List.filterMap_cons,hf] at hb
  exact hb
theorem Inv.stkFree (I:Inv X pins σ H s):∀b∈frs X.stack,H b=none:=fun b hb=>by
 rcases mem_cons.mp (I.stkSub b hb) with e|hb
 ·rw [e];exact I.free
 ·obtain ⟨_,o,ho,_⟩:=I.ok.funs.mem hb
  exact I.base.free b o ho (I.ok.frf b hb) fun z=>I.ok.exfs b z hb
theorem Inv.step {g':Array GenState}{t':Nat}{d':Drawn}{ch:List Addr}(I:Inv X pins σ H s)
  (hch:∀b∈ch,(b∈X.ex\/X.s₀.heap.objs.size<=b)/\b≠X.env.locals/\(∀x c,X.env.cells.lookup x=some c->c≠b)/\∀p∈X.pn++pins,p.1≠b)
  (keep:∀b o,b≠X.env.locals->b∉X.fs->b∉ch->s.heap.get? b=some o->H b=none->h'.get? b=some o)
  (slot:∀b o,b≠X.env.locals->b∈X.fs->b∉ch->s.heap.get? b=some o->H b=none->∃sl,h'.get? b=some {o with slots:=sl}) (free:∀b o,b∉ch->s.heap.get? b=some o->H b=none->H' b=none)
  (there:∀b o,b∉ch->s.heap.get? b=some o->∃o',h'.get? b=some o')
  (tups:∀b xs,H b=some (.tup xs)->H' b=some (.tup xs)) (frzs:∀b o u,H b=some (.frz o u)->H' b=some (.frz o u)) (tbls:∀b ps,H b=some (.tbl ps)->∃more,H' b=some (.tbl (ps++more)))
  (ns:∀m,s.heap.Ns X.env.locals m->h'.Ns X.env.locals m) (hok:HOk X.prog X.w H' h') (hg:AllBare g'):
  Inv X pins σ H' {s with heap:=h',gens:=g',drawn:=d',toks:=t'}:=by
 have neL:∀b o,X.s₀.heap.get? b=some o->b≠X.env.locals:=fun b o e=>Nat.ne_of_lt (Nat.lt_of_lt_of_le (Heap.lt_size e) I.ok.above)
 have neC:∀b o,X.s₀.heap.get? b=some o->b∉X.ex->b∉ch:=fun b o e hx hb=>by
  rcases (hch b hb).1 with z|z
  ·exact hx z
  ·exact absurd (Nat.lt_of_lt_of_le (Heap.lt_size e) z) (Nat.lt_irrefl _)
 have cellK:∀x c,X.env.cells.lookup x=some c->∀v,s.heap.IsCell c v->h'.IsCell c v:=fun x c e v ⟨o,ho,hd⟩=>by
  have nch:c∉ch:=fun z=>(hch c z).2.2.1 x c e rfl
  by_cases hc:c∈X.fs
  ·obtain ⟨sl,q⟩:=slot c o (I.cne x c e) hc nch ho (I.freeC x c e)
   exact ⟨_,q,hd⟩
  ·exact ⟨o,keep c o (I.cne x c e) hc nch ho (I.freeC x c e),hd⟩
 refine ⟨I.ok,I.os,hg,⟨fun b o e n hb hx=>?_,fun b o e n hb hx=>?_,fun b o e n hx=>?_,fun b o e hx=>?_,fun b xs e=>tups b xs (I.base.tups b xs e),fun b o xs e=>frzs b o xs (I.base.frzs b o xs e),fun b ps e=>?_⟩,?_,fun x c e=>?_,?_,fun x c e=>?_,fun p hp=>?_,hok,I.len⟩
 ·exact keep b o (neL b o e) hb (neC b o e hx) (I.base.keep b o e n hb hx) (I.base.free b o e n hx)
 ·obtain ⟨sl,e1⟩:=I.base.slot b o e n hb hx
  obtain ⟨sl',e2⟩:=slot b _ (neL b o e) hb (neC b o e hx) e1 (I.base.free b o e n hx)
  exact ⟨sl',e2⟩
 ·obtain ⟨o',e1⟩:=I.base.there b o e hx
  exact free b o' (neC b o e hx) e1 (I.base.free b o e n hx)
 ·obtain ⟨o',e1⟩:=I.base.there b o e hx
  exact there b o' (neC b o e hx) e1
 ·obtain ⟨m1,e1⟩:=I.base.tbls b ps e
  obtain ⟨m2,e2⟩:=tbls b _ e1
  exact ⟨m1++m2,by rw [e2,Array.append_assoc]⟩
 ·obtain ⟨m,hn,hl⟩:=I.loc
  refine ⟨m,ns m hn,fun i x v e1 e2 e3=>?_⟩
  obtain ⟨u,r,l⟩:=hl i x v e1 e2 e3
  refine ⟨u,r,?_⟩
  rcases l with l|⟨k,c,e,z⟩
  ·exact .inl l
  ·exact .inr ⟨k,c,e,cellK x c e _ z⟩
 ·obtain ⟨v,z⟩:=I.cell x c e
  exact ⟨v,cellK x c e v z⟩
 ·obtain ⟨m,⟨o,_,_,ho,_⟩,_⟩:=I.loc
  exact free _ o (fun z=>(hch _ z).2.1 rfl) ho I.free
 ·obtain ⟨v,o,ho,hd⟩:=I.cell x c e
  exact free c o (fun z=>(hch c z).2.2.1 x c e rfl) ho (I.freeC x c e)
 ·obtain ⟨e,n,ne,nf,d⟩:=I.pin p hp
  have nch:p.1∉ch:=fun z=>(hch p.1 z).2.2.2 p hp rfl
  exact ⟨keep p.1 p.2 ne nf nch e n,free p.1 p.2 nch e n,ne,nf,d⟩
theorem Inv.un {t':Nat}(I:Inv X pins σ H s)(u:Un X.fs [] H H' s.heap h')(hok:HOk X.prog X.w H' h'):Inv X pins σ H' {s with heap:=h',toks:=t'}:=by
 obtain ⟨m,⟨o,es,ep,ho,r⟩,_⟩:=id I.loc
 obtain ⟨sl,hL⟩:=u.any ho I.free (by simp)
 exact I.step (g':=s.gens) (d':=s.drawn) (ch:=[]) (fun _ z=>nomatch z) (fun b o _ hb _ e n=>u.keep b o e n hb (by simp)) (fun b o _ hb _ e n=>u.slot b o e n hb (by simp)) (fun b o _ e n=>u.free b o e n (by simp)) (fun b o _ e=>u.there b o e (by simp)) u.tups u.frzs u.tbls (fun m' hm=>by
  obtain ⟨o',es',ep',ho',r'⟩:=hm
  rw [ho] at ho';cases ho'
  exact ⟨_,es',ep',hL,r'⟩) hok I.bare
theorem Inv.call {g':Array GenState}{t':Nat}{d':Drawn}{ch:List Addr}(I:Inv X pins σ H s)(u:Un (frs X.stack) ch H H' s.heap h')(hok:HOk X.prog X.w H' h')(hg:AllBare g')
  (hch:∀b∈ch,(b∈X.ex\/X.s₀.heap.objs.size<=b)/\b≠X.env.locals/\(∀x c,X.env.cells.lookup x=some c->c≠b)/\∀p∈X.pn++pins,p.1≠b):
  Inv X pins σ H' {s with heap:=h',gens:=g',drawn:=d',toks:=t'}:=by
 obtain ⟨m,⟨o,es,ep,ho,r⟩,_⟩:=id I.loc
 obtain ⟨sl,hL⟩:=u.any ho I.free fun z=>(hch _ z).2.1 rfl
 exact I.step (ch:=ch) hch (fun b o hL hb hc e n=>u.keep b o e n (fun z=>(mem_cons.mp (I.stkSub b z)).elim hL hb) hc) (fun b o _ _ hc e n=>u.any e n hc) (fun b o hc e n=>u.free b o e n hc) (fun b o hc e=>u.there b o e hc) u.tups u.frzs u.tbls (fun m' hm=>by
  obtain ⟨o',es',ep',ho',r'⟩:=hm
  rw [ho] at ho';cases ho'
  exact ⟨_,es',ep',hL,r'⟩) hok hg
theorem Inv.turned {t':Nat}{it:Addr}(I:Inv X pins σ H s)(k:∀b o,b≠it->s.heap.get? b=some o->h'.get? b=some o)(hn:H it=none)(hL:it≠X.env.locals)
  (h1:it∈X.ex\/X.s₀.heap.objs.size<=it) (h2:∀x c,X.env.cells.lookup x=some c->c≠it) (h3:∀p∈X.pn++pins,p.1≠it):Inv X pins σ H {s with heap:=h',toks:=t'}:=by
 have nit:∀b u,H b=some u->b≠it:=fun b u e z=>by rw [z,hn] at e;cases e
 refine I.step (g':=s.gens) (d':=s.drawn) (ch:=[it]) (fun b hb=>?_) (fun b o _ _ hc e _=>k b o (fun z=>hc (by simp [z])) e) (fun b o _ _ hc e _=>⟨o.slots,k b o (fun z=>hc (by simp [z])) e⟩) (fun _ _ _ _ n=>n)
  (fun b o hc e=>⟨o,k b o (fun z=>hc (by simp [z])) e⟩) (fun _ _ e=>e) (fun _ _ _ e=>e) (fun b ps e=>⟨#[],by rw [e];simp⟩) (fun m hm=>?_) (fun b u e=>?_) I.bare
 ·have e:b=it:=by simpa using hb
  subst e
  exact ⟨h1,hL,h2,h3⟩
 ·obtain ⟨o,es,ep,ho,r⟩:=hm
  exact ⟨o,es,ep,k _ o (Ne.symm hL) ho,r⟩
 ·refine (I.hok b u e).stay (fun c v hc q=>k c v ?_ q) (fun _ q=>q) fun _ _ q=>q
  rcases hc with z|z
  ·rw [z];exact nit b u e
  ·exact nit c _ z
theorem Inv.tok (I:Inv X pins σ H s)(t:Nat):Inv X pins σ H {s with toks:=t}:=I.un (h':=s.heap) (t':=t) Un.refl I.hok
theorem Inv.kept {t':Nat}(I:Inv X pins σ H s)(k:∀b u,s.heap.get? b=some u->h'.get? b=some u):Inv X pins σ H {s with heap:=h',toks:=t'}:=I.un (Un.kept k) (I.hok.kept k)
theorem Inv.laid {a:Addr}{o:HO}{t':Nat}(I:Inv X pins σ H s)(k:∀b u,s.heap.get? b=some u->h'.get? b=some u)(hp:s.heap.objs.size<=a)(new:ObjOk X.prog X.w (upd H a o) h' a o):
  Inv X pins σ (upd H a o) {s with heap:=h',toks:=t'}:=I.un (Un.laid k hp (I.hok.fresh hp)) (I.hok.laid k hp new)
theorem Inv.write {x e:Addr}{o:HO}{t':Nat}(I:Inv X pins σ H s)(mu:Mut (H x))(he:e=x\/H e=some (.own x))(k:∀b u,b≠e->s.heap.get? b=some u->h'.get? b=some u)(heo:∃u,h'.get? e=some u)
  (new:ObjOk X.prog X.w (upd H x o) h' x o):Inv X pins σ (upd H x o) {s with heap:=h',toks:=t'}:=I.un (Un.write mu he k heo) (I.hok.write mu he k heo new)
theorem Inv.pins_of {pins':List (Addr×Obj)}(I:Inv X pins σ H s)(h:∀p∈pins',s.heap.get? p.1=some p.2/\H p.1=none/\p.1≠X.env.locals/\p.1∉X.fs/\∀v,p.2.data≠.cell v):Inv X pins' σ H s:=
 ⟨I.ok,I.os,I.bare,I.base,I.loc,I.cell,I.free,I.freeC,fun p hp=>(mem_append.mp hp).elim (fun z=>I.pin p (mem_append_left _ z)) (h p),I.hok,I.len⟩
theorem zvs {N:List Str}(hN:N.Nodup){i j:Nat}{x:Str}(a:N[i]?=some x)(b:N[j]?=some x):i=j:=by
 obtain ⟨h1,e1⟩:=List.getElem?_eq_some_iff.mp a
 obtain ⟨h2,e2⟩:=List.getElem?_eq_some_iff.mp b
 exact (List.getElem_inj hN).mp (e1.trans e2.symm)
theorem zqq {M:Model}{A:Around}{E:Value->Shared->Prop}{i:Nat}{x:Str}{v:V}{u:Value}{Q:Unit->Shared->Prop}(I:Inv X pins σ H s)(hN:X.N.Nodup)(hi:X.N[i]?=some x)(hx:Loc X.env.scope x)(r:RelV v u)
  (h:∀s',Inv X pins (σ.set i (some v)) H s'->(∃a,Heap.SameBut a s.heap s'.heap/\(a=X.env.locals\/X.env.cells.lookup x=some a))->Q () s') (hf:X.fn x=true\/X.env.scope.names.lookup x=some .local:=by first|exact .inl rfl|exact .inr rfl|assumption):wpAny M A (storeName X.env x u) Q E s:=by
 obtain ⟨m,hn,hl⟩:=id I.loc
 have hcls:(X.env.scope.kind==.class||(X.env.scope.kind==.module&&X.env.locals !=X.env.globals))=false:=by rw [I.ok.kind];rfl
 have hiσ:i<σ.length:=by rw [I.len];exact (List.getElem?_eq_some_iff.mp hi).1
 have cne:=I.cne
 have tracked:∀{a:Addr} {h':Heap},(∃o,s.heap.get? a=some o/\H a=none)->Heap.SameBut a s.heap h'->HOk X.prog X.w H h':=fun {a h'} ha hs b ob e=>by
  obtain ⟨_,_,hfree⟩:=ha
  refine (I.hok b ob e).stay (fun c w' hc q=>(hs.2 c ?_).trans q) (fun _ q=>q) fun _ _ q=>q
  rintro rfl
  rcases hc with rfl|hc
  ·rw [hfree] at e;cases e
  ·rw [hfree] at hc;cases hc
 rcases hx with hk|hk
 ·refine wpAny_storeName_local hk hn (fun h' hn' hs=>?_) hcls
  obtain ⟨oL,_,_,hoL,_⟩:=id hn
  refine h _ ⟨I.ok,I.os,I.bare,⟨fun b o e n hb hx=>?_,fun b o e n hb hx=>?_,I.base.free,fun b o e hx=>?_,I.base.tups,I.base.frzs,I.base.tbls⟩,⟨_,hn',fun j y v' e1 e2 e3=>?_⟩,fun y c e=>?_,I.free,I.freeC,fun p hp=>?_,tracked ⟨oL,hoL,I.free⟩ hs,by simpa using I.len⟩ ⟨_,hs,.inl rfl⟩
  ·exact (hs.2 b (Nat.ne_of_lt (Nat.lt_of_lt_of_le (Heap.lt_size e) I.ok.above))).trans (I.base.keep b o e n hb hx)
  ·obtain ⟨sl,e1⟩:=I.base.slot b o e n hb hx
   exact ⟨sl,(hs.2 b (Nat.ne_of_lt (Nat.lt_of_lt_of_le (Heap.lt_size e) I.ok.above))).trans e1⟩
  ·obtain ⟨o',e1⟩:=I.base.there b o e hx
   exact ⟨o',(hs.2 b (Nat.ne_of_lt (Nat.lt_of_lt_of_le (Heap.lt_size e) I.ok.above))).trans e1⟩
  ·by_cases hj:j=i
   ·subst hj
    rw [hi] at e1;cases e1
    rw [getElem?_set_self hiσ] at e2
    cases e2
    exact ⟨u,r,.inl ⟨hk,by simp⟩⟩
   ·rw [getElem?_set_ne (Ne.symm hj)] at e2
    obtain ⟨u',r',q⟩:=hl j y v' e1 e2 e3
    refine ⟨u',r',?_⟩
    rcases q with ⟨k,e⟩|⟨k,c,e,z⟩
    ·refine .inl ⟨k,?_⟩
     have:y≠x:=fun e=>hj (zvs hN e1 (e▸hi))
     simp [this,e]
    ·exact .inr ⟨k,c,e,z.sameBut hs (cne y c e)⟩
  ·obtain ⟨w',z⟩:=I.cell y c e
   exact ⟨w',z.sameBut hs (cne y c e)⟩
  ·obtain ⟨e,n,ne,nf,d⟩:=I.pin p hp
   exact ⟨(hs.2 p.1 ne).trans e,n,ne,nf,d⟩
 ·have hfn:X.fn x=true:=by
   rcases hf with z|z
   ·exact z
   ·rw [z] at hk;cases hk
  obtain ⟨c,hc⟩:=I.ok.has x (.inl hk)
  obtain ⟨w',z⟩:=I.cell x c hc
  refine wpAny_storeName_cell I.ok.kind hk hc z (fun h' hc' hs=>?_)
  obtain ⟨oc,hoc,hocd⟩:=id z
  refine h {s with heap:=h'} ⟨I.ok,I.os,I.bare,⟨fun b o e n hb hx=>?_,fun b o e n hb hx=>?_,I.base.free,fun b o e hx=>?_,I.base.tups,I.base.frzs,I.base.tbls⟩,⟨m,hn.sameBut hs (Ne.symm (cne x c hc)),fun j y v' e1 e2 e3=>?_⟩,fun y c' e=>?_,I.free,I.freeC,fun p hp=>?_,tracked ⟨oc,hoc,I.freeC x c hc⟩ hs,by simpa using I.len⟩ ⟨c,hs,.inr hc⟩
  ·exact (hs.2 b (Nat.ne_of_lt (Nat.lt_of_lt_of_le (Heap.lt_size e) (I.ok.cab x c hfn hc)))).trans (I.base.keep b o e n hb hx)
  ·obtain ⟨sl,e1⟩:=I.base.slot b o e n hb hx
   exact ⟨sl,(hs.2 b (Nat.ne_of_lt (Nat.lt_of_lt_of_le (Heap.lt_size e) (I.ok.cab x c hfn hc)))).trans e1⟩
  ·obtain ⟨o',e1⟩:=I.base.there b o e hx
   exact ⟨o',(hs.2 b (Nat.ne_of_lt (Nat.lt_of_lt_of_le (Heap.lt_size e) (I.ok.cab x c hfn hc)))).trans e1⟩
  ·by_cases hj:j=i
   ·subst hj
    rw [hi] at e1;cases e1
    rw [getElem?_set_self hiσ] at e2
    cases e2
    exact ⟨u,r,.inr ⟨.inl hk,c,hc,hc'⟩⟩
   ·rw [getElem?_set_ne (Ne.symm hj)] at e2
    obtain ⟨u',r',q⟩:=hl j y v' e1 e2 e3
    refine ⟨u',r',?_⟩
    rcases q with q|⟨k,c',e,z'⟩
    ·exact .inl q
    ·refine .inr ⟨k,c',e,z'.sameBut hs ?_⟩
     rintro rfl
     exact hj (zvs hN e1 (I.ok.inj _ _ _ e hc▸hi))
  ·by_cases hcc:c'=c
   ·subst hcc;exact ⟨_,hc'⟩
   ·obtain ⟨w2,z2⟩:=I.cell y c' e
    exact ⟨w2,z2.sameBut hs hcc⟩
  ·obtain ⟨e,n,ne,nf,d⟩:=I.pin p hp
   refine ⟨(hs.2 p.1 ?_).trans e,n,ne,nf,d⟩
   intro q
   rw [q,hoc] at e
   have q':oc=p.2:=Option.some.inj e
   exact d w' (by rw [<-q'];exact hocd)
theorem zvf {M:Model}{A:Around}{E:Value->Shared->Prop}{i:Nat}{x:Str}{v:V}{u:Value}{Q:Unit->Shared->Prop}(I:Inv X pins σ H s)(hN:X.N.Nodup)(hi:X.N[i]?=some x)(hx:Loc X.env.scope x)(r:RelV v u)
  (h:∀s',Inv X pins (σ.set i (some v)) H s'->Q () s') (hf:X.fn x=true\/X.env.scope.names.lookup x=some .local:=by first|exact .inl rfl|exact .inr rfl|assumption):wpAny M A (storeName X.env x u) Q E s:=
 zqq I hN hi hx r (fun s' I' _=>h s' I') hf
theorem Inv.call' {s':Shared}{ch:List Addr}(I:Inv X pins σ H s)(ho:s'.os=s.os)(u:Un (frs X.stack) ch H H' s.heap s'.heap)(hok:HOk X.prog X.w H' s'.heap)(hg:AllBare s'.gens)
  (hch:∀b∈ch,(b∈X.ex\/X.s₀.heap.objs.size<=b)/\b≠X.env.locals/\(∀x c,X.env.cells.lookup x=some c->c≠b)/\∀p∈X.pn++pins,p.1≠b):Inv X pins σ H' s':=by
 obtain ⟨h',g',d',t',o'⟩:=s'
 have e:o'=s.os:=ho
 subst e
 exact I.call (g':=g') (t':=t') (d':=d') u hok hg hch
end
abbrev XK:=Value->Option Addr->Hp->Prop
abbrev St:=List (Option V)
abbrev VK:=V->Hp->Prop
abbrev TE:=St->Hp->VK->Prop
abbrev TT:=St->Hp->(Bool->Hp->Prop)->Prop
abbrev TA:=St->Hp->(List V->Hp->Prop)->Prop
structure zka where
 nx:St->Hp->Prop
 rt:VK
 bk:St->Hp->Prop:=fun _ _=>False
 ct:St->Hp->Prop:=fun _ _=>False
abbrev TS:=zka->St->Hp->Prop
def EP (X:Cx)(pins:List (Addr×Obj))(σ:St)(Q:VK)(u:Value)(s':Shared):Prop:=∃v H',Inv X pins σ H' s'/\RelV v u/\Q v H'
def TP (X:Cx)(pins:List (Addr×Obj))(σ:St)(Q:Bool->Hp->Prop)(b:Bool)(s':Shared):Prop:=∃H',Inv X pins σ H' s'/\Q b H'
def AP (X:Cx)(pins:List (Addr×Obj))(σ:St)(Q:List V->Hp->Prop)(us:List Value)(s':Shared):Prop:=∃vs H',Inv X pins σ H' s'/\Vals vs us/\Q vs H'
def SP (X:Cx)(pins:List (Addr×Obj))(D:zka)(f:Flow)(s':Shared):Prop:=
 match f with
 |.next=>∃σ' H',Inv X pins σ' H' s'/\D.nx σ' H'
 |.brk=>∃σ' H',Inv X pins σ' H' s'/\D.bk σ' H'
 |.cont=>∃σ' H',Inv X pins σ' H' s'/\D.ct σ' H'
 |.ret u=>∃v σ' H',Inv X pins σ' H' s'/\RelV v u/\D.rt v H'
def PE (X:Cx)(e:Expr)(t:TE):Prop:=
 ∀(pins:List (Addr×Obj)) (s:Shared) (σ:St) (H:Hp) (Q:VK),Inv X pins σ H s->t σ H Q->wpAny (model X.prog X.w) X.A (eval e X.env) (EP X pins σ Q) X.xe s
def PT (X:Cx)(e:Expr)(t:TT):Prop:=
 ∀(pins:List (Addr×Obj)) (s:Shared) (σ:St) (H:Hp) (Q:Bool->Hp->Prop),Inv X pins σ H s->t σ H Q->wpAny (model X.prog X.w) X.A (isTrue e X.env (eval e X.env)) (TP X pins σ Q) X.xe s
def PW (X:Cx)(e:Expr)(t:TT):Prop:=
 ∀(zht:Sem Value) (pins:List (Addr×Obj)) (s:Shared) (σ:St) (H:Hp) (Q:Bool->Hp->Prop),Inv X pins σ H s->t σ H Q->wpAny (model X.prog X.w) X.A (isTrue e X.env zht) (TP X pins σ Q) X.xe s
theorem PW.pt {X:Cx}{e:Expr}{t:TT}(h:PW X e t):PT X e t:=h _
def PA (X:Cx)(es:List Expr)(t:TA):Prop:=
 ∀(pos:Pos) (pins:List (Addr×Obj)) (s:Shared) (σ:St) (H:Hp) (Q:List V->Hp->Prop),Inv X pins σ H s->t σ H Q->wpAny (model X.prog X.w) X.A (spliced (backTo pos (starEach es X.env))) (AP X pins σ Q) X.xe s
def PS (X:Cx)(st:Stmt)(t:TS):Prop:=
 ∀(pins:List (Addr×Obj)) (s:Shared) (σ:St) (H:Hp) (D:zka),Inv X pins σ H s->t D σ H->wpAny (model X.prog X.w) X.A (exec st X.env) (SP X pins D) X.xe s
def PSs (X:Cx)(st:List Stmt)(t:TS):Prop:=
 ∀(pins:List (Addr×Obj)) (s:Shared) (σ:St) (H:Hp) (D:zka),Inv X pins σ H s->t D σ H->wpAny (model X.prog X.w) X.A (execs st X.env) (SP X pins D) X.xe s
theorem thn {α:Type}{t:Sem α}{Q Q':α->Shared->Prop}{M:Model}{A:Around}{E:Value->Shared->Prop}{s:Shared}(h:wpAny M A t Q E s)(hQ:∀a s,Q a s->Q' a s):wpAny M A t Q' E s:=wpAny_mono h hQ fun _ _ x=>x
end L2
namespace L2
open PySem PySem.Spec PyProof.Rows
section
variable {X:Cx}
def zdk (i:Nat):TE:=fun σ H Q=>∃v,σ[i]?=some (some v)/\Q v H
def tC (v:V):TE:=fun _ H Q=>Q v H
theorem pe_var {i:Nat}{x:Str}{pos:Pos}(hN:X.N[i]?=some x)(hv:Vis X.env.scope x)(hd:(x==("__debug__":Str))=false:=by decide)(hcd:(x==("__classdict__":Str))=false:=by decide):PE X (.Name x pos) (zdk i):=by
 intro pins s σ H Q I h
 obtain ⟨v,e,h⟩:=h
 obtain ⟨m,hn,hl⟩:=I.loc
 obtain ⟨u,r,l⟩:=hl i x v hN e hv
 have fin:EP X pins σ Q u s:=⟨v,H,I,r,h⟩
 rcases l with ⟨hk,hm⟩|⟨hk,c,hc,hcell⟩
 ·exact wpAny_Name (wpAny_loadName_local I.ok.kind hk hn hm fin) hd
 ·rcases hk with hk|hk
  ·exact wpAny_Name (wpAny_loadName_cell I.ok.kind hk hc hcell fin) hd
  ·exact wpAny_Name (wpAny_loadName_free I.ok.kind hk hc hcell fin hcd) hd
theorem zai {i j pos}:PE X (.Constant (.int i) j pos) (tC (.int i)):=fun _ _ _ H _ I h=>wpAny_Constant_int ⟨.int i,H,I.tok _,⟨_,rfl⟩,h⟩
theorem zfv {b j pos}:PE X (.Constant (.bool b) j pos) (tC (.bl b)):=fun _ _ _ H _ I h=>Constant_bool ⟨.bl b,H,I,rfl,h⟩
theorem zrh {j pos}:PE X (.Constant .none j pos) (tC .non):=fun _ _ _ H _ I h=>Constant_none ⟨.non,H,I,rfl,h⟩
theorem zds {x j pos}:PE X (.Constant (.str x) j pos) (tC (.str x)):=fun _ _ _ H _ I h=>Calls.Constant_str ⟨.str x,H,I.tok _,⟨_,rfl⟩,h⟩
def Gl (X:Cx)(x:Str):Prop:=X.env.kindOf x=some .globalImplicit
theorem zuh {E:Value->Shared->Prop}{pins:List (Addr×Obj)}{s:Shared}{σ:St}{H:Hp}{x:Str}{u:Value}{pos:Pos}{Q:Value->Shared->Prop}(I:Inv X pins σ H s)(hg:Gl X x)(hm:X.mg x=some u)(h:Q u s)
  (hd:(x==("__debug__":Str))=false:=by decide):wpAny (model X.prog X.w) X.A (eval (.Name x pos) X.env) Q E s:=
 Calls.Name_function_global I.ok.kind hg (Calls.loadGlobal_global (by rw [I.ok.glob];exact I.mod.glob.keeps I.bk) hm h) hd
theorem zjo {E:Value->Shared->Prop}{pins:List (Addr×Obj)}{s:Shared}{σ:St}{H:Hp}{x:Str}{u:Value}{pos:Pos}{Q:Value->Shared->Prop}(I:Inv X pins σ H s)(hg:Gl X x)(hm:X.mg x=none)(hv:bootBuiltins x=some u)(h:Q u s)
  (hn:x≠"__name__":=by decide) (hd:(x==("__debug__":Str))=false:=by decide):wpAny (model X.prog X.w) X.A (eval (.Name x pos) X.env) Q E s:=by
 obtain ⟨mb,h1,h2⟩:=I.mod.blt
 exact Calls.Name_function_global I.ok.kind hg (Calls.loadGlobal_builtin (by rw [I.ok.glob];exact I.mod.glob.keeps I.bk) hm (by rw [I.ok.blt];exact h1.keeps I.bk) ((h2 x hn).trans hv) h) hd
theorem ztv {x:Str}{v:V}{u:Value}{pos:Pos}(hg:Gl X x)(hm:X.mg x=some u)(r:RelV v u)(hd:(x==("__debug__":Str))=false:=by decide):PE X (.Name x pos) (tC v):=
 fun _ _ _ H _ I h=>zuh I hg hm ⟨v,H,I,r,h⟩ hd
theorem pe_bltn {x:Str}{v:V}{u:Value}{pos:Pos}(hg:Gl X x)(hm:X.mg x=none)(hv:bootBuiltins x=some u)(r:RelV v u)(hn:x≠"__name__":=by decide)(hd:(x==("__debug__":Str))=false:=by decide):PE X (.Name x pos) (tC v):=
 fun _ _ _ H _ I h=>zjo I hg hm hv ⟨v,H,I,r,h⟩ hn hd
variable {a b:Expr}{ta tb:TE}{pos:Pos}
def PC (X:Cx)(op:CmpOp)(a b:Expr)(t:TE):Prop:=
 ∀(pins:List (Addr×Obj)) (s:Shared) (σ:St) (H:Hp) (Q:VK),Inv X pins σ H s->t σ H Q->
  wpAny (model X.prog X.w) X.A (eval a X.env) (fun v s₁=>wpAny (model X.prog X.w) X.A (eval b X.env) (fun u s₂=>wpAny (model X.prog X.w) X.A (compareOp op v u) (EP X pins σ Q) X.xe s₂) X.xe s₁) X.xe s
def tB (t:TE):TT:=fun σ H Q=>t σ H fun x H1=>∃c,x=.bl c/\Q c H1
theorem zrd {op:CmpOp}{t:TE}(h:PC X op a b t)(h1:behindInMarks op b=false:=by first|exact nobehind _ (by decide) (by decide)|rfl):PT X (.Compare a [op] [b] pos) (tB t):=by
 intro pins s σ H Q I hw
 refine wpAny_isTrue_Compare1 (thn (h pins s σ H _ I hw) fun v s1 h1=>thn h1 fun u s2 h2=>thn h2 fun c s3 ⟨x,H1,I1,r1,q1⟩=>?_) h1
 obtain ⟨d,rfl,q⟩:=q1
 cases r1
 exact wpAny_truthy_bool ⟨H1,I1,q⟩
theorem zcl {e:Expr}{t:TE}(h:PE X e t)(he:∀zht,isTrue e X.env zht=(do let v<-zht;standAt e.pos;holding [v] (truthy v)):=by intro _;rfl):PT X e (tB t):=by
 intro pins s σ H Q I hw
 refine isTrue_plain (thn (h pins s σ H _ I hw) fun v s1 ⟨x,H1,I1,r1,q1⟩=>?_) (he _)
 obtain ⟨d,rfl,q⟩:=q1
 cases r1
 exact wpAny_truthy_bool ⟨H1,I1,q⟩
variable {tA tB':TT}{rest:List Expr}
def tAnd (t u:TT):TT:=fun σ H Q=>t σ H fun c H1=>if c=true then u σ H1 Q else Q false H1
def tOr (t u:TT):TT:=fun σ H Q=>t σ H fun c H1=>if c=true then Q true H1 else u σ H1 Q
def tNot (t:TT):TT:=fun σ H Q=>t σ H fun c H1=>Q (!c) H1
theorem zfm (ha:PT X a tA):PW X (.BoolOp .And [a] pos) tA:=by
 intro wh pins s σ H Q I h
 refine isTrue_and (thn (ha pins s σ H Q I h) fun c s1 e=>?_)
 cases c with
 |true=>exact isTrue_and_nil e
 |false=>exact e
theorem zit (ha:PT X a tA):PW X (.BoolOp .Or [a] pos) tA:=by
 intro wh pins s σ H Q I h
 refine isTrue_or (thn (ha pins s σ H Q I h) fun c s1 e=>?_)
 cases c with
 |false=>exact isTrue_or_nil e
 |true=>exact e
theorem zha (ha:PT X a tA)(hb:PW X (.BoolOp .And (b::rest) pos) tB'):PW X (.BoolOp .And (a::b::rest) pos) (tAnd tA tB'):=by
 intro wh pins s σ H Q I h
 refine isTrue_and (thn (ha pins s σ H _ I h) fun c s1 ⟨H1,I1,q1⟩=>?_)
 cases c with
 |true=>exact hb wh pins s1 σ H1 Q I1 q1
 |false=>exact ⟨H1,I1,q1⟩
theorem zjj (ha:PT X a tA)(hb:PW X (.BoolOp .Or (b::rest) pos) tB'):PW X (.BoolOp .Or (a::b::rest) pos) (tOr tA tB'):=by
 intro wh pins s σ H Q I h
 refine isTrue_or (thn (ha pins s σ H _ I h) fun c s1 ⟨H1,I1,q1⟩=>?_)
 cases c with
 |true=>exact ⟨H1,I1,q1⟩
 |false=>exact hb wh pins s1 σ H1 Q I1 q1
theorem zdp (ha:PT X a tA):PT X (.UnaryOp .Not a pos) (tNot tA):=by
 intro pins s σ H Q I h
 exact isTrue_not (ha pins s σ H (fun c H1=>Q (!c) H1) I h)
def tAndV (ta tb:TE):TE:=fun σ H Q=>ta σ H fun x H1=>∃c,x=.bl c/\if c=true then tb σ H1 Q else Q (.bl false) H1
def tOrV (ta tb:TE):TE:=fun σ H Q=>ta σ H fun x H1=>∃c,x=.bl c/\if c=true then Q (.bl true) H1 else tb σ H1 Q
def tNotV (ta:TE):TE:=fun σ H Q=>ta σ H fun x H1=>∃c,x=.bl c/\Q (.bl (!c)) H1
theorem zrg {op}{t:TE}(h:PE X a t):PE X (.BoolOp op [a] pos) t:=fun pins s σ H Q I hw=>BoolOp_one (h pins s σ H Q I hw)
theorem znu (ha:PE X a ta)(hb:PE X (.BoolOp .And (b::rest) pos) tb):PE X (.BoolOp .And (a::b::rest) pos) (tAndV ta tb):=by
 intro pins s σ H Q I h
 refine BoolOp_and (thn (ha pins s σ H _ I h) fun v s1 ⟨x,H1,I1,r1,q1⟩=>?_)
 obtain ⟨c,rfl,q1⟩:=q1
 cases r1
 refine wpAny_truthy_bool ?_
 cases c with
 |true=>exact hb pins s1 σ H1 Q I1 q1
 |false=>exact ⟨.bl false,H1,I1,rfl,q1⟩
theorem pe_or (ha:PE X a ta)(hb:PE X (.BoolOp .Or (b::rest) pos) tb):PE X (.BoolOp .Or (a::b::rest) pos) (tOrV ta tb):=by
 intro pins s σ H Q I h
 refine BoolOp_or (thn (ha pins s σ H _ I h) fun v s1 ⟨x,H1,I1,r1,q1⟩=>?_)
 obtain ⟨c,rfl,q1⟩:=q1
 cases r1
 refine wpAny_truthy_bool ?_
 cases c with
 |false=>exact hb pins s1 σ H1 Q I1 q1
 |true=>exact ⟨.bl true,H1,I1,rfl,q1⟩
theorem pe_not (ha:PE X a ta):PE X (.UnaryOp .Not a pos) (tNotV ta):=by
 intro pins s σ H Q I h
 refine UnaryOp_ (thn (ha pins s σ H _ I h) fun v s1 ⟨x,H1,I1,r1,q1⟩=>?_)
 obtain ⟨c,rfl,q1⟩:=q1
 cases r1
 exact not_of (wpAny_truthy_bool ⟨.bl (!c),H1,I1,rfl,q1⟩)
end
end L2
namespace L2
open PySem PySem.Spec PyProof.Rows
def SqL (K:PySem.W.Frag)(H:Hp)(a:Addr)(xs:List V):Prop:=
 Rd H a (.lst xs)\/
  ∃(o:Obj) (its:Array Value) (n:Nat),K.lookup a=some o/\o.cls=.type "list"/\o.dict=none/\o.data=.seq its n/\its.size<=sizeLine/\Vals xs its.toList
def SqT (K:PySem.W.Frag)(H:Hp)(a:Addr)(xs:List V):Prop:=
 Rd H a (.tup xs)\/
  ∃(o:Obj) (its:Array Value) (n:Nat),K.lookup a=some o/\o.cls=.type "tuple"/\o.data=.seq its n/\its.size<=sizeLine/\Vals xs its.toList
def absV:Value->Option V
 |.none=>some .non
 |.bool b=>some (.bl b)
 |.int i _=>some (.int i)
 |.str x _=>some (.str x)
 |.bytes b _=>some (.byt b)
 |.float b _=>some (.flt b)
 |.ref a=>some (.ref a)
 |.type n=>some (.ty n)
 |_=>none
theorem RelV.abs {x:V}{u:Value}(r:RelV x u):absV u=some x:=by
 cases x with
 |non=>cases r;rfl
 |bl _=>cases r;rfl
 |int _=>obtain ⟨t,rfl⟩:=r;rfl
 |str _=>obtain ⟨t,rfl⟩:=r;rfl
 |byt _=>obtain ⟨t,rfl⟩:=r;rfl
 |flt _=>obtain ⟨t,rfl⟩:=r;rfl
 |ref _=>cases r;rfl
 |ty _=>cases r;rfl
theorem RelV.inj {x y:V}{u:Value}(r:RelV x u)(q:RelV y u):x=y:=Option.some.inj (r.abs.symm.trans q.abs)
theorem Vals.inj:∀{xs ys:List V} {us:List Value},Vals xs us->Vals ys us->xs=ys
 |_,_,_,.nil,.nil=>rfl
 |_,_,_,.cons r t,.cons r' t'=>by rw [r.inj r',Vals.inj t t']
section
variable {X:Cx}{pins:List (Addr×Obj)}{σ:St}{H:Hp}{s:Shared}{a:Addr}{xs ys:List V}
theorem SqL.of {K:PySem.W.Frag}(h:H a=some (.lst xs)):SqL K H a xs:=.inl (.inl h)
theorem SqT.of {K:PySem.W.Frag}(h:H a=some (.tup xs)):SqT K H a xs:=.inl (.inl h)
theorem Inv.list (I:Inv X pins σ H s)(h:SqL X.K H a xs):∃its:List Value,Vals xs its/\PlainL s.heap a its.toArray/\xs.length<=sizeLine:=by
 rcases h with h|⟨o,its,n,hk,hc,hd,hs,hz,r⟩
 ·obtain ⟨z,its,n,r,e⟩:=h.ok I.hok
  exact ⟨its,r,⟨_,n,e,rfl,rfl,rfl⟩,z⟩
 ·refine ⟨its.toList,r,⟨o,n,I.kIn a o hk,hc,hd,by simpa using hs⟩,?_⟩
  have e:=r.length
  simp only [Array.length_toList] at e
  omega
theorem Inv.tuple (I:Inv X pins σ H s)(h:SqT X.K H a xs):∃its:List Value,Vals xs its/\IsTup s.heap a its.toArray/\xs.length<=sizeLine:=by
 rcases h with h|⟨o,its,n,hk,hc,hs,hz,r⟩
 ·obtain ⟨z,its,r,p⟩:=h.ok I.hok
  exact ⟨its,r,p,z⟩
 ·refine ⟨its.toList,r,⟨o,I.kIn a o hk,hc,n,by simpa using hs⟩,?_⟩
  have e:=r.length
  simp only [Array.length_toList] at e
  omega
theorem Inv.list_inj (I:Inv X pins σ H s)(h:SqL X.K H a xs)(h':SqL X.K H a ys):xs=ys:=by
 obtain ⟨its,r,⟨o,n,e,_,_,d⟩,_⟩:=I.list h
 obtain ⟨its',r',⟨o',n',e',_,_,d'⟩,_⟩:=I.list h'
 rw [e] at e';cases e'
 rw [d] at d'
 injection d' with d1 _
 have:its=its':=by simpa using congrArg Array.toList d1
 subst this
 exact r.inj r'
theorem Inv.tuple_inj (I:Inv X pins σ H s)(h:SqT X.K H a xs)(h':SqT X.K H a ys):xs=ys:=by
 obtain ⟨its,r,⟨o,e,_,n,d⟩,_⟩:=I.tuple h
 obtain ⟨its',r',⟨o',e',_,n',d'⟩,_⟩:=I.tuple h'
 rw [e] at e';cases e'
 rw [d] at d'
 injection d' with d1 _
 have:its=its':=by simpa using congrArg Array.toList d1
 subst this
 exact r.inj r'
end
abbrev Cx.wish (X:Cx)(E:Value->Shared->Prop):Cx:={X with xe:=E}
abbrev Cx.nox (X:Cx):Cx:=X.wish fun _ _=>False
theorem Cx.Ok.wish {X:Cx}(ok:X.Ok)(E:Value->Shared->Prop):(X.wish E).Ok:=
 ⟨ok.mod,ok.kind,ok.glob,ok.blt,ok.above,ok.inj,ok.has,ok.cab,ok.hd,ok.frames,ok.stk,ok.exf,ok.bs,ok.bsz,ok.noex,ok.exfs,ok.funs,ok.frf⟩
theorem Cx.Ok.unwish {X:Cx}{E:Value->Shared->Prop}(ok:(X.wish E).Ok):X.Ok:=
 ⟨ok.mod,ok.kind,ok.glob,ok.blt,ok.above,ok.inj,ok.has,ok.cab,ok.hd,ok.frames,ok.stk,ok.exf,ok.bs,ok.bsz,ok.noex,ok.exfs,ok.funs,ok.frf⟩
section
variable {X:Cx}{pins:List (Addr×Obj)}{σ:St}{H:Hp}{s:Shared}{E:Value->Shared->Prop}
theorem Inv.wish (I:Inv X pins σ H s)(E:Value->Shared->Prop):Inv (X.wish E) pins σ H s:=⟨I.ok.wish E,I.os,I.bare,I.base,I.loc,I.cell,I.free,I.freeC,I.pin,I.hok,I.len⟩
theorem Inv.unwish (I:Inv (X.wish E) pins σ H s):Inv X pins σ H s:=⟨I.ok.unwish,I.os,I.bare,I.base,I.loc,I.cell,I.free,I.freeC,I.pin,I.hok,I.len⟩
theorem SP.unwish {D:zka}{f:Flow}{s':Shared}(h:SP (X.wish E) pins D f s'):SP X pins D f s':=by
 cases f with
 |next=>obtain ⟨σ',H',I,q⟩:=h;exact ⟨σ',H',I.unwish,q⟩
 |brk=>obtain ⟨σ',H',I,q⟩:=h;exact ⟨σ',H',I.unwish,q⟩
 |cont=>obtain ⟨σ',H',I,q⟩:=h;exact ⟨σ',H',I.unwish,q⟩
 |ret u=>obtain ⟨v,σ',H',I,r,q⟩:=h;exact ⟨v,σ',H',I.unwish,r,q⟩
theorem PSs.nox {st:List Stmt}{t:TS}(h:PSs X.nox st t):PSs X st t:=fun pins s σ H D I hw=>
 wpAny_mono (h pins s σ H D (I.wish _) hw) (fun _ _ q=>q.unwish) fun _ _ z=>False.elim z
end
section
variable {X:Cx}{st:Stmt}{rest:List Stmt}{t u:TS}{e:Expr}{te:TE}{pos:Pos}
def tNext:TS:=fun D σ H=>D.nx σ H
def tSeq (t u:TS):TS:=fun D σ H=>t {D with nx:=u D} σ H
theorem zbh:PSs X [] tNext:=fun _ _ σ H _ I h=>wpAny_execs_nil ⟨σ,H,I,h⟩
theorem zad (h1:PS X st t)(h2:PSs X rest u):PSs X (st::rest) (tSeq t u):=by
 intro pins s σ H D I h
 refine wpAny_execs_cons (thn (h1 pins s σ H {D with nx:=u D} I h) fun f s1 q=>?_)
 cases f with
 |next=>
  obtain ⟨σ',H',I',q⟩:=q
  exact h2 pins s1 σ' H' D I' q
 |ret v=>exact q
 |brk=>exact q
 |cont=>exact q
theorem zag (h1:PS X st t):PSs X [st] t:=by
 intro pins s σ H D I h
 refine wpAny_execs_cons (thn (h1 pins s σ H D I h) fun f s1 q=>?_)
 cases f with
 |next=>exact wpAny_execs_nil q
 |ret v=>exact q
 |brk=>exact q
 |cont=>exact q
def tBreak:TS:=fun D σ H=>D.bk σ H
theorem ps_break:PS X (.Break pos) tBreak:=fun _ _ σ H _ I h=>wpAny_Break ⟨σ,H,I,h⟩
theorem Inv.quiet {pins:List (Addr×Obj)}{σ:St}{H:Hp}{s:Shared}(I:Inv X pins σ H s):interactive X.env=false:=by simp [interactive,I.ok.kind]
def zop (te:TE):TS:=fun D σ H=>te σ H fun _ H1=>D.nx σ H1
theorem ziy (he:PE X e te)(hs:swapsWith e none pos.line X.env=pure false:=by rfl):PS X (.Expr e pos) (zop te):=by
 intro pins s σ H D I h
 exact wpAny_Expr_any (thn (he pins s σ H _ I h) fun v s1 ⟨x,H1,I1,r1,q1⟩=>⟨σ,H1,I1,q1⟩) I.quiet hs
def tRet (te:TE):TS:=fun D σ H=>te σ H D.rt
theorem zaz (he:PE X e te):PS X (.Return (some e) pos) (tRet te):=by
 intro pins s σ H D I h
 exact wpAny_Return_some (thn (he pins s σ H _ I h) fun v s1 ⟨x,H1,I1,r1,q1⟩=>⟨x,σ,H1,I1,r1,q1⟩)
def tIfS (c:TT)(t u:TS):TS:=fun D σ H=>c σ H fun b H1=>if b=true then t D σ H1 else u D σ H1
theorem zdl {c:Expr}{a b:List Stmt}{tc:TT}(hc:PT X c tc)(ha:PSs X a t)(hb:PSs X b u):PS X (.If c a b pos) (tIfS tc t u):=by
 intro pins s σ H D I h
 refine wpAny_If (thn (hc pins s σ H _ I h) fun d s1 ⟨H1,I1,q1⟩=>?_)
 cases d with
 |true=>exact ha pins s1 σ H1 D I1 q1
 |false=>exact hb pins s1 σ H1 D I1 q1
end
abbrev TG:=V->St->Hp->(St->Hp->Prop)->Prop
abbrev TGs:=List V->St->Hp->(St->Hp->Prop)->Prop
def PG (X:Cx)(target:Expr)(t:TG):Prop:=
 ∀(pins:List (Addr×Obj)) (s:Shared) (σ:St) (H:Hp) (v:V) (u:Value) (Q:St->Hp->Prop),Inv X pins σ H s->RelV v u->t v σ H Q->
  wpAny (model X.prog X.w) X.A (assign target X.env u) (fun _ s'=>∃σ' H',Inv X pins σ' H' s'/\Q σ' H') X.xe s
def PGs (X:Cx)(ts:List Expr)(t:TGs):Prop:=
 ∀(pins:List (Addr×Obj)) (s:Shared) (σ:St) (H:Hp) (vs:List V) (us:List Value) (Q:St->Hp->Prop),Inv X pins σ H s->Vals vs us->t vs σ H Q->
  wpAny (model X.prog X.w) X.A (assignInOrder ((assignEach ts X.env).map (·.2)) us) (fun _ s'=>∃σ' H',Inv X pins σ' H' s'/\Q σ' H') X.xe s
section
variable {X:Cx}{pos:Pos}
def zdz (i:Nat):TG:=fun v σ H Q=>Q (σ.set i (some v)) H
theorem zau {i:Nat}{x:Str}(hN:X.N.Nodup)(hi:X.N[i]?=some x)(hx:Loc X.env.scope x)(hf:X.fn x=true\/X.env.scope.names.lookup x=some .local:=by first|exact .inl rfl|exact .inr rfl|assumption):PG X (.Name x pos) (zdz i):=by
 intro pins s σ H v u Q I r h
 exact wpAny_assign_Name (zvf I hN hi hx r (fun s' I'=>⟨_,H,I',h⟩) hf)
def gNil:TGs:=fun vs σ H Q=>vs=[]/\Q σ H
def zpq (t:TG)(u:TGs):TGs:=fun vs σ H Q=>∃v r,vs=v::r/\t v σ H fun σ' H'=>u r σ' H' Q
theorem zhw:PGs X [] gNil:=by
 intro pins s σ H vs us Q I r h
 obtain ⟨e,h⟩:=h
 subst e
 cases r
 exact assignInOrder_nil ⟨σ,H,I,h⟩
theorem zde {e:Expr}{es:List Expr}{t:TG}{u:TGs}(h1:PG X e t)(h2:PGs X es u)
  (hs:(assignEach (e::es) X.env).map (·.2)=assign e X.env::(assignEach es X.env).map (·.2):=by rfl):PGs X (e::es) (zpq t u):=by
 intro pins s σ H vs us Q I r h
 obtain ⟨v,vr,e1,h⟩:=h
 subst e1
 cases r with
 |cons r rr=>
  rw [hs]
  refine assignInOrder_cons (thn (h1 pins s σ H _ _ _ I r h) fun _ s1 ⟨σ1,H1,I1,q1⟩=>?_)
  exact h2 pins s1 σ1 H1 _ _ Q I1 rr q1
def gTup (K:PySem.W.Frag)(n:Nat)(t:TGs):TG:=fun v σ H Q=>∃a xs,v=.ref a/\SqT K H a xs/\xs.length=n/\t xs σ H Q
theorem znt {es:List Expr}{k:Nat}{t:TGs}{n:Nat}(hc:X.calm=true)(h:PGs X es t)
  (hn:(assignEach es X.env).length=n:=by rfl) (hst:(assignEach es X.env).findIdx? (·.1)=none:=by rfl):PG X (.Tuple es k pos) (gTup X.K n t):=by
 intro pins s σ H v u Q I r hw
 obtain ⟨a,xs,e1,hq,hl,hw⟩:=hw
 subst e1
 cases r
 obtain ⟨its,rv,ht,hz⟩:=I.tuple hq
 refine assign_Tuple_tuple (I.ok.hd hc) ht (by simp [hn,<-hl,rv.length]) hst fun h' hx=>?_
 have I1:Inv X pins σ H {s with heap:=h'}:=I.kept (t':=s.toks) fun b o e=>hx b o (Nat.ne_of_lt (Heap.lt_size e)) e
 exact h pins _ σ H xs _ Q I1 (by simpa using rv) hw
def zqi (te:TE)(g:TG):TS:=fun D σ H=>te σ H fun x H1=>g x σ H1 D.nx
theorem zbe {i:Nat}{x:Str}{e:Expr}{te:TE}{pos':Pos}(hN:X.N.Nodup)(hi:X.N[i]?=some x)(hx:Loc X.env.scope x)(he:PE X e te)(hs:swapsWith e (some (.Name x pos')) pos.line X.env=pure false:=by rfl)(hf:X.fn x=true\/X.env.scope.names.lookup x=some .local:=by first|exact .inl rfl|exact .inr rfl|assumption):
  PS X (.Assign [.Name x pos'] e pos) (zqi te (zdz i)):=by
 intro pins s σ H D I h
 refine wpAny_Assign_Name (thn (he pins s σ H _ I h) fun v s1 ⟨y,H1,I1,r1,q1⟩=>?_) hs
 exact zvf I1 hN hi hx r1 (fun s2 I2=>⟨_,H1,I2,q1⟩) hf
end
section
variable {X:Cx}{pos:Pos}
def tWhile (c:TT)(tb:TS):TS:=fun D σ H=>∃W:Nat->St->Hp->Prop,(∃m,W m σ H)/\∀m σ H,W m σ H->
 c σ H fun b H1=>if b=true then∃N:St->Hp->Prop,(∀σ' H',N σ' H'->∃m',m'<m/\W m' σ' H')/\tb {D with nx:=N,ct:=N,bk:=D.nx} σ H1 else D.nx σ H1
theorem ps_while {c:Expr}{body:List Stmt}{tc:TT}{tb:TS}(hp:PassesOwn (model X.prog X.w) X.A X.env X.xe)(hc:PT X c tc)(hb:PSs X body tb):PS X (.While c body [] pos) (tWhile tc tb):=by
 intro pins s σ H D I h
 obtain ⟨W,⟨m0,w0⟩,turn⟩:=h
 refine wpAny_While (codeAny_whileLoop (fun n s'=>∃σ' H',Inv X pins σ' H' s'/\W n σ' H') ?_ m0 ⟨σ,H,I,w0⟩)
 rintro n s1 ⟨σ1,H1,I1,w1⟩
 refine wpAny_passesOwn hp (thn (hc pins s1 σ1 H1 _ I1 (turn n σ1 H1 w1)) fun b s2 ⟨H2,I2,q2⟩=>?_)
 cases b with
 |true=>
  obtain ⟨N,hN,q2⟩:=q2
  rw [if_pos rfl]
  refine wpAny_passesOwn hp (thn (hb pins s2 σ1 H2 _ I2 q2) fun f s3 q3=>?_)
  cases f with
  |next=>
   obtain ⟨σ3,H3,I3,n3⟩:=q3
   obtain ⟨m',hm,w3⟩:=hN σ3 H3 n3
   exact ⟨m',hm,σ3,H3,I3,w3⟩
  |cont=>
   obtain ⟨σ3,H3,I3,n3⟩:=q3
   obtain ⟨m',hm,w3⟩:=hN σ3 H3 n3
   exact ⟨m',hm,σ3,H3,I3,w3⟩
  |brk=>exact q3
  |ret v=>exact q3
 |false=>
  rw [if_neg Bool.false_ne_true]
  exact wpAny_execs_nil ⟨σ1,H2,I2,q2⟩
end
structure It where
 go:Nat->Hp->Prop
 yld:Nat->Hp->V->Hp->Prop
 stop:Nat->Hp->Prop
def FpOk (X:Cx)(pins:List (Addr×Obj))(H:Hp)(b:Addr):Prop:=
 H b=none/\b≠X.env.locals/\b∉X.fs/\(b∈X.ex\/X.s₀.heap.objs.size<=b)/\(∀x c,X.env.cells.lookup x=some c->c≠b)/\∀p∈X.pn++pins,p.1≠b
theorem Inv.fpOk {X:Cx}{pins:List (Addr×Obj)}{σ:St}{H H':Hp}{s:Shared}{b:Addr}(I:Inv X pins σ H s)(hb:s.heap.objs.size<=b)(hn:H' b=none):FpOk X pins H' b:=by
 refine ⟨hn,Nat.ne_of_gt (Nat.lt_of_lt_of_le I.lt hb),I.nofs hb,.inr (Nat.le_trans I.sz hb),fun x c e z=>?_,fun p hp z=>?_⟩
 ·obtain ⟨v,q⟩:=I.cell x c e
  exact absurd (Nat.lt_of_lt_of_le q.lt (by rw [z];exact hb)) (Nat.lt_irrefl _)
 ·exact absurd (Nat.lt_of_lt_of_le (Heap.lt_size (I.pin p hp).1) (by rw [z];exact hb)) (Nat.lt_irrefl _)
structure Turn (P:Program)(w:World)(K:PySem.W.Frag)(tg:Expr)(J:It)(fp:List Addr)(it:Addr)(tn:Nat->Heap->Prop):Prop where
 mem:it∈fp
 obj:∀i h,tn i h->∀b∈fp,∃o,h.get? b=some o/\∀v,o.data≠.cell v
 keep:∀i h h',tn i h->(∀b∈fp,∀o,h.get? b=some o->h'.get? b=some o)->tn i h'
 item:∀(X:Cx),X.prog=P->X.w=w->X.K=K->X.calm=true->∀(i:Nat) (pins:List (Addr×Obj)) (s:Shared) (σ:St) (H:Hp) (E:Value->Shared->Prop),Inv X pins σ H s->(∀b∈fp,FpOk X pins H b)->tn i s.heap->J.go i H->
  wpAny (model P w) X.A (pyNext (.ref it)) (fun r s1=>∃u,r=some u/\
   wpAny (model P w) X.A (letOwnedTupleGo tg (.ref it) u) (fun _ s2=>∃x H',Inv X pins σ H' s2/\RelV x u/\J.yld i H x H'/\tn (i+1) s2.heap/\∀b∈fp,H' b=none) E s1) E s
 done:∀(X:Cx),X.prog=P->X.w=w->X.K=K->X.calm=true->∀(i:Nat) (pins:List (Addr×Obj)) (s:Shared) (σ:St) (H:Hp) (E:Value->Shared->Prop),Inv X pins σ H s->(∀b∈fp,FpOk X pins H b)->tn i s.heap->J.stop i H->
  wpAny (model P w) X.A (pyNext (.ref it)) (fun r s1=>r=none/\Inv X pins σ H s1) E s
 self:∀(A:Around) (i:Nat) (s:Shared) (Q:Value->Shared->Prop) (E:Value->Shared->Prop),tn i s.heap->Q (.ref it) s->wpAny (model P w) A (pyIter (.ref it)) Q E s
abbrev TI:=St->Hp->(It->Hp->Prop)->Prop
def PIE (X:Cx)(pins:List (Addr×Obj))(σ:St)(tg:Expr)(R:It->Hp->Prop)(itv:Value)(s2:Shared):Prop:=
 ∃(it:Addr) (fp:List Addr) (tn:Nat->Heap->Prop) (J:It) (H':Hp),itv=.ref it/\Inv X pins σ H' s2/\Turn X.prog X.w X.K tg J fp it tn/\tn 0 s2.heap/\(∀b∈fp,FpOk X pins H' b)/\R J H'
def PI (X:Cx)(tg iter:Expr)(wi:TI):Prop:=
 ∀(pins:List (Addr×Obj)) (s:Shared) (σ:St) (H:Hp) (R:It->Hp->Prop),Inv X pins σ H s->wi σ H R->
  wpAny (model X.prog X.w) X.A (eval iter X.env) (fun v s1=>wpAny (model X.prog X.w) X.A (pyIter v) (PIE X pins σ tg R) X.xe s1) X.xe s
theorem go_of {M:Model}{A:Around}{E:Value->Shared->Prop}{s:Shared}{tg:Expr}{it:Addr}{u:Value}{o:Obj}{n:String}{vs:Array Value}{Q:Unit->Shared->Prop}(ho:s.heap.get? it=some o)(hc:o.cls=.type n)(hd:o.data=.fields vs)
  (hn:["enumerate","zip","dict_itemiterator","dict_reverseitemiterator","odict_iterator","itertools.zip_longest","itertools.pairwise"].contains n=false) (hQ:Q () s):wpAny M A (letOwnedTupleGo tg (.ref it) u) Q E s:=by
 unfold letOwnedTupleGo
 cases tg<;>first
  |exact wpAny_pure hQ
  |(cases u<;>first
    |exact wpAny_pure hQ
    |(refine wpAny_bind (wpAny_load ho ?_)
      rw [hc,hd]
      show wpAny M A (if (["enumerate","zip","dict_itemiterator","dict_reverseitemiterator","odict_iterator","itertools.zip_longest","itertools.pairwise"].contains n&&vs[0]?==some (rawInt _))=true then _ else _) Q E s
      rw [if_neg (by intro h;rw [hn,Bool.false_and] at h;cases h)]
      exact wpAny_pure hQ))
def Itl (K:PySem.W.Frag)(a:Addr):It:=
 ⟨fun i H=>∃xs x,SqL K H a xs/\xs[i]?=some x,fun i H x H'=>H'=H/\∀xs,SqL K H a xs->xs[i]?=some x,fun i H=>∃xs,SqL K H a xs/\xs.length<=i⟩
def Itt (K:PySem.W.Frag)(a:Addr):It:=
 ⟨fun i H=>∃xs x,SqT K H a xs/\xs[i]?=some x,fun i H x H'=>H'=H/\∀xs,SqT K H a xs->xs[i]?=some x,fun i H=>∃xs,SqT K H a xs/\xs.length<=i⟩
def Itr (lo:Int)(n:Nat):It:=⟨fun i _=>i<n,fun i H x H'=>H'=H/\x=.int (lo+i),fun i _=>n<=i⟩
theorem turn_list {P:Program}{w:World}{K:PySem.W.Frag}{tg:Expr}(a it:Addr):Turn P w K tg (Itl K a) [it] it (fun i h=>h.IsListIter it a i) where
 mem:=by simp
 obj:=fun i h st b hb=>by
  have e:b=it:=by simpa using hb
  subst e
  obtain ⟨o,e,c,d⟩:=st
  exact ⟨o,e,fun v z=>by rw [d] at z;cases z⟩
 keep:=fun i h h' st k=>st.at fun o e=>k it (by simp) o e
 item:=by
  intro X hP hw hK hc i pins s σ H E I hf st hg
  subst hP hw hK
  obtain ⟨xs,x,hq,hx⟩:=hg
  obtain ⟨its,rv,p,hz⟩:=I.list hq
  obtain ⟨u,hu,ru⟩:=rv.get hx
  obtain ⟨f0,f1,f2,f3,f4,f5⟩:=hf it (by simp)
  refine wpAny_pyNext_list_item st p.isList (x:=u) (by simpa using hu) fun h' st' sb=>?_
  have I1:Inv X pins σ H {s with heap:=h'}:=I.turned (t':=s.toks) (fun b o hb e=>(sb.2 b hb).trans e) f0 f1 f3 f4 f5
  obtain ⟨o,e,c,d⟩:=id st'
  exact ⟨u,rfl,go_of (s:={s with heap:=h'}) e c d (by decide) ⟨x,H,I1,ru,⟨rfl,fun ys hy=>by rw [I.list_inj hy hq];exact hx⟩,st',fun b hb=>(hf b hb).1⟩⟩
 done:=by
  intro X hP hw hK hc i pins s σ H E I hf st hg
  subst hP hw hK
  obtain ⟨xs,hq,hx⟩:=hg
  obtain ⟨its,rv,p,hz⟩:=I.list hq
  obtain ⟨f0,f1,f2,f3,f4,f5⟩:=hf it (by simp)
  have hl:=rv.length
  exact wpAny_pyNext_list_end (I.ok.hd hc) st p.isList (by simp;omega) fun h' eb=>⟨rfl,I.turned (t':=s.toks) (fun b o hb e=>eb b o hb e) f0 f1 f3 f4 f5⟩
 self:=fun _ _ _ _ _ st h=>wpAny_pyIter_listiter st h
theorem zws {P:Program}{w:World}{K:PySem.W.Frag}{tg:Expr}(a it:Addr):Turn P w K tg (Itt K a) [it] it (fun i h=>h.IsTupleIter it a i) where
 mem:=by simp
 obj:=fun i h st b hb=>by
  have e:b=it:=by simpa using hb
  subst e
  obtain ⟨o,e,c,d⟩:=st
  exact ⟨o,e,fun v z=>by rw [d] at z;cases z⟩
 keep:=fun i h h' st k=>st.at fun o e=>k it (by simp) o e
 item:=by
  intro X hP hw hK hc i pins s σ H E I hf st hg
  subst hP hw hK
  obtain ⟨xs,x,hq,hx⟩:=hg
  obtain ⟨its,rv,p,hz⟩:=I.tuple hq
  obtain ⟨u,hu,ru⟩:=rv.get hx
  obtain ⟨f0,f1,f2,f3,f4,f5⟩:=hf it (by simp)
  refine wpAny_pyNext_tuple_item st (show s.heap.IsTuple a its.toArray from p) (x:=u) (by simpa using hu) fun h' st' sb=>?_
  have I1:Inv X pins σ H {s with heap:=h'}:=I.turned (t':=s.toks) (fun b o hb e=>(sb.2 b hb).trans e) f0 f1 f3 f4 f5
  obtain ⟨o,e,c,d⟩:=id st'
  exact ⟨u,rfl,go_of (s:={s with heap:=h'}) e c d (by decide) ⟨x,H,I1,ru,⟨rfl,fun ys hy=>by rw [I.tuple_inj hy hq];exact hx⟩,st',fun b hb=>(hf b hb).1⟩⟩
 done:=by
  intro X hP hw hK hc i pins s σ H E I hf st hg
  subst hP hw hK
  obtain ⟨xs,hq,hx⟩:=hg
  obtain ⟨its,rv,p,hz⟩:=I.tuple hq
  obtain ⟨f0,f1,f2,f3,f4,f5⟩:=hf it (by simp)
  have hl:=rv.length
  exact wpAny_pyNext_tuple_end (I.ok.hd hc) st (show s.heap.IsTuple a its.toArray from p) (by simp;omega) fun h' eb=>⟨rfl,I.turned (t':=s.toks) (fun b o hb e=>eb b o hb e) f0 f1 f3 f4 f5⟩
 self:=fun _ _ _ _ _ st h=>wpAny_pyIter_tupleiter st h
theorem zwt {P:Program}{w:World}{K:PySem.W.Frag}{tg:Expr}(it:Addr)(lo:Int)(n:Nat):Turn P w K tg (Itr lo n) [it] it (fun i h=>IsRangeIter h it (lo+(i:Nat)*1) ((n:Int)-(i:Nat)) 1) where
 mem:=by simp
 obj:=fun i h st b hb=>by
  have e:b=it:=by simpa using hb
  subst e
  exact ⟨_,st,fun v z=>by
   have z':Data.fields _=Data.cell v:=z
   cases z'⟩
 keep:=fun i h h' st k=>k it (by simp) _ st
 item:=by
  intro X hP hw hK hc i pins s σ H E I hf st hg
  subst hP hw hK
  obtain ⟨f0,f1,f2,f3,f4,f5⟩:=hf it (by simp)
  have W:=Walks.range (prog:=X.prog) (w:=X.w) (I.ok.hd hc) it lo 1 n
  refine W.item i s _ _ hg st fun v h' tk hv st' kk=>?_
  obtain ⟨t,rfl⟩:=hv
  have I1:Inv X pins σ H {s with heap:=h',toks:=tk}:=I.turned (fun b o hb e=>kk b o (by simpa using hb) e) f0 f1 f3 f4 f5
  refine ⟨_,rfl,go_of (s:={s with heap:=h',toks:=tk}) (n:="range_iterator") st' rfl rfl (by decide) ⟨.int (lo+i),H,I1,⟨t,?_⟩,⟨rfl,rfl⟩,st',fun b hb=>(hf b hb).1⟩⟩
  rw [Int.mul_one]
 done:=by
  intro X hP hw hK hc i pins s σ H E I hf st hg
  subst hP hw hK
  obtain ⟨f0,f1,f2,f3,f4,f5⟩:=hf it (by simp)
  exact wpAny_pyNext_range_end (I.ok.hd hc) st (by have:n<=i:=hg;omega) fun h' eb=>⟨rfl,I.turned (t':=s.toks) (fun b o hb e=>eb b o hb e) f0 f1 f3 f4 f5⟩
 self:=fun _ _ _ _ _ st h=>wpAny_pyIter_rangeiter st h
end L2
namespace L2
open PySem PySem.Spec PyProof.Rows
section
variable {X:Cx}{tg:Expr}
def zum (K:PySem.W.Frag)(tl:TE):TI:=fun σ H R=>tl σ H fun x H1=>∃a,x=.ref a/\(∃xs,SqL K H1 a xs)/\R (Itl K a) H1
def iTup (K:PySem.W.Frag)(tl:TE):TI:=fun σ H R=>tl σ H fun x H1=>∃a,x=.ref a/\(∃xs,SqT K H1 a xs)/\R (Itt K a) H1
theorem pi_list {l:Expr}{tl:TE}(hl:PE X l tl):PI X tg l (zum X.K tl):=by
 intro pins s σ H R I h
 refine thn (hl pins s σ H _ I h) fun v s1 ⟨x,H1,I1,r1,q1⟩=>?_
 obtain ⟨a,e,⟨xs,hq⟩,q⟩:=q1
 subst e
 cases r1
 obtain ⟨its,rv,p,hz⟩:=I1.list hq
 refine wpAny_pyIter_list p.isList ?_
 refine ⟨s1.heap.objs.size,[s1.heap.objs.size],_,_,H1,rfl,I1.kept (t':=s1.toks) fun b o e=>Heap.get?_push_of_some _ e,turn_list a _,⟨_,Heap.get?_push_size _ rfl,rfl,rfl⟩,fun b hb=>?_,q⟩
 have e:b=s1.heap.objs.size:=by simpa using hb
 subst e
 exact I1.fpOk (Nat.le_refl _) (I1.hok.fresh (Nat.le_refl _))
theorem pi_tup {l:Expr}{tl:TE}(hl:PE X l tl):PI X tg l (iTup X.K tl):=by
 intro pins s σ H R I h
 refine thn (hl pins s σ H _ I h) fun v s1 ⟨x,H1,I1,r1,q1⟩=>?_
 obtain ⟨a,e,⟨xs,hq⟩,q⟩:=q1
 subst e
 cases r1
 obtain ⟨its,rv,p,hz⟩:=I1.tuple hq
 refine wpAny_pyIter_tuple (show s1.heap.IsTuple a its.toArray from p) ?_
 refine ⟨s1.heap.objs.size,[s1.heap.objs.size],_,_,H1,rfl,I1.kept (t':=s1.toks) fun b o e=>Heap.get?_push_of_some _ e,zws a _,⟨_,Heap.get?_push_size _ rfl,rfl,rfl⟩,fun b hb=>?_,q⟩
 have e:b=s1.heap.objs.size:=by simpa using hb
 subst e
 exact I1.fpOk (Nat.le_refl _) (I1.hok.fresh (Nat.le_refl _))
theorem range_it {pins:List (Addr×Obj)}{σ:St}{H:Hp}{s:Shared}{R:It->Hp->Prop}{E:Value->Shared->Prop}{lo hi:Int}{t u v:Tok}{tk:Nat}(I:Inv X pins σ H s)(h1:-(2^62)<=lo)(h2:lo<2^62)(h3:-(2^62)<=hi)(h4:hi<2^62)
  (q:R (Itr lo (hi-lo).toNat) H):wpAny (model X.prog X.w) X.A (pyIter (.ref s.heap.objs.size)) (PIE X pins σ tg R) E {s with heap:=s.heap.push {cls:=.type "range",data:=.fields #[.int lo t,.int hi u,.int 1 v]},toks:=tk}:=by
 refine wpAny_pyIter_range (IsRange.new ..) (small_one h1 h2 h3 h4) ?_
 have I1:Inv X pins σ H {s with heap:=s.heap.push {cls:=.type "range",data:=.fields #[.int lo t,.int hi u,.int 1 v]},toks:=tk}:=I.kept fun b o e=>Heap.get?_push_of_some _ e
 refine ⟨(s.heap.push {cls:=.type "range",data:=.fields #[.int lo t,.int hi u,.int 1 v]}).objs.size,[(s.heap.push {cls:=.type "range",data:=.fields #[.int lo t,.int hi u,.int 1 v]}).objs.size],_,_,H,rfl,
  I1.kept (t':=tk) fun b o e=>Heap.get?_push_of_some _ e,zwt _ lo (hi-lo).toNat,?_,fun b hb=>?_,q⟩
 ·have e1:lo+((0:Nat):Int)*1=lo:=by simp
  have e2:(((hi-lo).toNat:Nat):Int)-((0:Nat):Int)=Builtin.Range.rangeSize lo hi 1:=by rw [rangeSize_one];split<;>omega
  show IsRangeIter _ _ (lo+((0:Nat):Int)*1) ((((hi-lo).toNat:Nat):Int)-((0:Nat):Int)) 1
  rw [e1,e2]
  exact Heap.get?_push_size _ rfl
 ·have e:b=(s.heap.push {cls:=.type "range",data:=.fields #[.int lo t,.int hi u,.int 1 v]}).objs.size:=by simpa using hb
  subst e
  exact I1.fpOk (Nat.le_refl _) (I1.hok.fresh (Nat.le_refl _))
def iRng1 (ta:TA):TI:=fun σ H R=>ta σ H fun vs H1=>∃j:Int,vs=[.int j]/\-(2^62)<=j/\j<2^62/\R (Itr 0 j.toNat) H1
theorem zhb {a:Expr}{ta:TA}{p pos:Pos}(hg:Gl X "range")(hm:X.mg "range"=none)(ha:PA X [a] ta)(hs:starEach [a] X.env=[(false,eval a X.env)]:=by rfl):PI X tg (.Call (.Name "range" p) [a] [] pos) (iRng1 ta):=by
 intro pins s σ H R I h
 refine Call_ (zjo I hg hm boot_range (PyProof.Rows.callWith_type1 (thn (ha pos pins s σ H _ I h) fun us s1 ⟨vs,H1,I1,r1,q1⟩=>?_) hs rfl))
 obtain ⟨j,e,q1,q2,q⟩:=q1
 subst e
 cases r1 with
 |cons r rr=>
  cases rr
  obtain ⟨t,rfl⟩:=r
  exact call_range_1 (range_it I1 (by omega) (by omega) q1 q2 (by simpa using q))
def tFor (wi:TI)(g:TG)(tb:TS):TS:=fun D σ H=>wi σ H fun J H1=>∃W:Nat->Nat->St->Hp->Prop,(∃m,W 0 m σ H1)/\∀i m σ H,W i m σ H->
 (J.stop i H/\D.nx σ H)\/(J.go i H/\∃N:St->Hp->Prop,(∀σ' H',N σ' H'->∃m',m'<m/\W (i+1) m' σ' H')/\∀x H',J.yld i H x H'->g x σ H' fun σ2 H2=>tb {D with nx:=N,ct:=N,bk:=D.nx} σ2 H2)
def zrf (fp:List Addr)(h:Heap):List (Addr×Obj):=fp.filterMap fun b=>(h.get? b).map fun o=>(b,o)
theorem zik {fp:List Addr}{h:Heap}{b:Addr}{o:Obj}(hb:b∈fp)(e:h.get? b=some o):(b,o)∈zrf fp h:=List.mem_filterMap.mpr ⟨b,hb,by rw [e];rfl⟩
theorem of_pinsAt {fp:List Addr}{h:Heap}{p:Addr×Obj}(hp:p∈zrf fp h):p.1∈fp/\h.get? p.1=some p.2:=by
 obtain ⟨b,hb,e⟩:=List.mem_filterMap.mp hp
 cases q:h.get? b with
 |none=>rw [q] at e;cases e
 |some o=>
  rw [q] at e
  have e':(b,o)=p:=Option.some.inj e
  subst e'
  exact ⟨hb,q⟩
theorem Inv.pinned {pins:List (Addr×Obj)}{σ:St}{H:Hp}{s:Shared}{fp:List Addr}(I:Inv X pins σ H s)(hf:∀b∈fp,FpOk X pins H b)(ho:∀b∈fp,∃o,s.heap.get? b=some o/\∀v,o.data≠.cell v):Inv X (pins++zrf fp s.heap) σ H s:=
 I.pins_of fun p hp=>(mem_append.mp hp).elim (fun z=>I.pin p (mem_append_right _ z)) fun z=>by
  obtain ⟨hb,e⟩:=of_pinsAt z
  obtain ⟨f0,f1,f2,_⟩:=hf p.1 hb
  obtain ⟨o,e',d⟩:=ho p.1 hb
  rw [e] at e';cases e'
  exact ⟨e,f0,f1,f2,d⟩
theorem Inv.unpinned {pins pl:List (Addr×Obj)}{σ:St}{H:Hp}{s:Shared}(I:Inv X (pins++pl) σ H s):Inv X pins σ H s:=I.pins_of fun p hp=>I.pin p (mem_append_right _ (mem_append_left _ hp))
theorem zdr {iter:Expr}{body:List Stmt}{wi:TI}{g:TG}{tb:TS}{pos:Pos}(hp:PassesOwn (model X.prog X.w) X.A X.env X.xe)(hc:X.calm=true)(hi:PI X tg iter wi)(hg:PG X tg g)(hb:PSs X body tb)
  (hs:∀x,foldedSetIterable iter X.env x=pure x:=by intro _;rfl):PS X (.For tg iter body [] pos) (tFor wi g tb):=by
 intro pins s σ H D I h
 refine wpAny_For (thn (hi pins s σ H _ I h) fun v s1 h1=>thn h1 fun itv s2 h2=>?_) hs
 obtain ⟨it,fp,tn,J,H2,e,I2,T,st2,f2,W,⟨m0,w0⟩,turn⟩:=h2
 subst e
 have stat:∀{H':Hp},(∀b∈fp,H' b=none)->∀b∈fp,FpOk X pins H' b:=fun hn b hb=>⟨hn b hb,(f2 b hb).2⟩
 refine codeAny_forLoop_any (fun n s'=>∃i σ' H',Inv X pins σ' H' s'/\tn i s'.heap/\(∀b∈fp,H' b=none)/\W i n σ' H') ?_ m0 ⟨0,σ,H2,I2,st2,fun b hb=>(f2 b hb).1,w0⟩
 rintro n s3 ⟨i,σ3,H3,I3,st3,fr3,w3⟩
 rcases turn i n σ3 H3 w3 with ⟨stop,qn⟩|⟨go,N,hN,step⟩
 ·refine wpAny_passesOwn hp (thn (T.done X rfl rfl rfl hc i pins s3 σ3 H3 X.xe I3 (stat fr3) st3 stop) fun r s4 ⟨hr,I4⟩=>?_)
  subst hr
  exact wpAny_execs_nil ⟨σ3,H3,I4,qn⟩
 ·refine wpAny_passesOwn hp (thn (T.item X rfl rfl rfl hc i pins s3 σ3 H3 X.xe I3 (stat fr3) st3 go) fun r s4 ⟨u,hr,h4⟩=>?_)
  subst hr
  refine wpAny_passesOwn hp (thn h4 fun _ s5 ⟨x,H5,I5,r5,y5,st5,fr5⟩=>?_)
  have I5':=I5.pinned (stat fr5) (T.obj _ _ st5)
  refine wpAny_passesOwn hp (thn (hg _ s5 σ3 H5 x u _ I5' r5 (step x H5 y5)) fun _ s6 ⟨σ6,H6,I6,q6⟩=>?_)
  refine wpAny_passesOwn hp (thn (hb _ s6 σ6 H6 _ I6 q6) fun f s7 q7=>?_)
  have again:∀{σ7:St} {H7:Hp},Inv X (pins++zrf fp s5.heap) σ7 H7 s7->N σ7 H7->∃m,m<n/\∃i σ' H',Inv X pins σ' H' s7/\tn i s7.heap/\(∀b∈fp,H' b=none)/\W i m σ' H':=fun {σ7 H7} I7 n7=>by
   obtain ⟨m',hm,w7⟩:=hN σ7 H7 n7
   refine ⟨m',hm,i+1,σ7,H7,I7.unpinned,T.keep _ _ _ st5 fun b hb o e=>(I7.pin (b,o) (mem_append_right _ (mem_append_right _ (zik hb e)))).1,fun b hb=>?_,w7⟩
   obtain ⟨o,e,d⟩:=T.obj _ _ st5 b hb
   exact (I7.pin (b,o) (mem_append_right _ (mem_append_right _ (zik hb e)))).2.1
  cases f with
  |next=>obtain ⟨σ7,H7,I7,n7⟩:=q7;exact again I7 n7
  |cont=>obtain ⟨σ7,H7,I7,n7⟩:=q7;exact again I7 n7
  |brk=>obtain ⟨σ7,H7,I7,q7⟩:=q7;exact ⟨σ7,H7,I7.unpinned,q7⟩
  |ret v=>obtain ⟨x7,σ7,H7,I7,r7,q7⟩:=q7;exact ⟨x7,σ7,H7,I7.unpinned,r7,q7⟩
end
end L2
namespace L2
open PySem PySem.Spec PyProof.Rows
abbrev R2:=V->V->Hp->VK->Prop
def OpR (X:Cx)(f:Value->Value->Sem Value)(r:R2):Prop:=
 ∀(pins:List (Addr×Obj)) (s:Shared) (σ:St) (H:Hp) (x y:V) (v u:Value) (Q:VK),Inv X pins σ H s->RelV x v->RelV y u->r x y H Q->
  wpAny (model X.prog X.w) X.A (f v u) (EP X pins σ Q) X.xe s
def UnR (X:Cx)(f:Value->Sem Value)(r:V->Hp->VK->Prop):Prop:=
 ∀(pins:List (Addr×Obj)) (s:Shared) (σ:St) (H:Hp) (x:V) (v:Value) (Q:VK),Inv X pins σ H s->RelV x v->r x H Q->
  wpAny (model X.prog X.w) X.A (f v) (EP X pins σ Q) X.xe s
def zmy (X:Cx)(f:Value)(r:List V->Hp->VK->Prop):Prop:=
 ∀(pins:List (Addr×Obj)) (s:Shared) (σ:St) (H:Hp) (xs:List V) (us:List Value) (Q:VK),Inv X pins σ H s->Vals xs us->r xs H Q->
  wpAny (model X.prog X.w) X.A (call f us) (EP X pins σ Q) X.xe s
def TruR (X:Cx)(r:V->Hp->(Bool->Hp->Prop)->Prop):Prop:=
 ∀(pins:List (Addr×Obj)) (s:Shared) (σ:St) (H:Hp) (x:V) (v:Value) (Q:Bool->Hp->Prop),Inv X pins σ H s->RelV x v->r x H Q->
  wpAny (model X.prog X.w) X.A (truthy v) (TP X pins σ Q) X.xe s
def tOp (r:R2)(ta tb:TE):TE:=fun σ H Q=>ta σ H fun x H1=>tb σ H1 fun y H2=>r x y H2 Q
def tUn (r:V->Hp->VK->Prop)(ta:TE):TE:=fun σ H Q=>ta σ H fun x H1=>r x H1 Q
def rI (C:Int->Int->Prop)(g:Int->Int->V):R2:=fun x y H Q=>∃i j,x=.int i/\y=.int j/\C i j/\Q (g i j) H
def rI0 (g:Int->Int->V):R2:=fun x y H Q=>∃i j,x=.int i/\y=.int j/\Q (g i j) H
def rU (g:Int->V):V->Hp->VK->Prop:=fun x H Q=>∃i,x=.int i/\Q (g i) H
section
variable {X:Cx}{a b c:Expr}{ta tb tc:TE}{pos:Pos}
theorem binT (ha:PE X a ta)(hb:PE X b tb){pins:List (Addr×Obj)}{s:Shared}{σ:St}{H:Hp}{R:V->V->Hp->Prop}(I:Inv X pins σ H s)
  (h:ta σ H fun x H1=>tb σ H1 fun y H2=>R x y H2) {Q:Value->Shared->Prop} {f:Value->Value->Sem Value}
  (hf:∀v u s2 x y H2,Inv X pins σ H2 s2->RelV x v->RelV y u->R x y H2->wpAny (model X.prog X.w) X.A (f v u) Q X.xe s2):
  wpAny (model X.prog X.w) X.A (eval a X.env) (fun v s₁=>wpAny (model X.prog X.w) X.A (eval b X.env) (fun u s₂=>wpAny (model X.prog X.w) X.A (f v u) Q X.xe s₂) X.xe s₁) X.xe s:=by
 refine thn (ha pins s σ H _ I h) fun v s1 ⟨x,H1,I1,r1,q1⟩=>?_
 refine thn (hb pins s1 σ H1 _ I1 q1) fun u s2 ⟨y,H2,I2,r2,q2⟩=>?_
 exact hf v u s2 x y H2 I2 r1 r2 q2
theorem zcd {op:Operator}{r:R2}(ho:OpR X (binaryOp op) r)(ha:PE X a ta)(hb:PE X b tb):PE X (.BinOp a op b pos) (tOp r ta tb):=by
 intro pins s σ H Q I h
 exact wpAny_BinOp (binT ha hb I h fun v u s2 x y H2 I2 rx ry q=>ho pins s2 σ H2 x y v u Q I2 rx ry q)
theorem zpa {op:UnaryOp}{r:V->Hp->VK->Prop}(ho:UnR X (unaryOp op) r)(ha:PE X a ta):PE X (.UnaryOp op a pos) (tUn r ta):=by
 intro pins s σ H Q I h
 exact UnaryOp_ (thn (ha pins s σ H _ I h) fun v s1 ⟨x,H1,I1,r1,q1⟩=>ho pins s1 σ H1 x v Q I1 r1 q1)
theorem opI {f:Value->Value->Sem Value}{C:Int->Int->Prop}{g:Int->Int->Int}
  (rule:∀(i j:Int) (t u:Tok) (s:Shared) (Q:Value->Shared->Prop) (E:Value->Shared->Prop),C i j->Q (.int (g i j) s.toks) {s with toks:=s.toks+1}->wpAny (model X.prog X.w) X.A (f (.int i t) (.int j u)) Q E s):
  OpR X f (rI C fun i j=>.int (g i j)):=by
 intro pins s σ H x y v u Q I rx ry h
 obtain ⟨i,j,rfl,rfl,hc,q⟩:=h
 obtain ⟨t,rfl⟩:=rx
 obtain ⟨t',rfl⟩:=ry
 exact rule i j t t' s _ _ hc ⟨.int (g i j),H,I.tok _,⟨_,rfl⟩,q⟩
theorem opI0 {f:Value->Value->Sem Value}{g:Int->Int->Int}
  (rule:∀(i j:Int) (t u:Tok) (s:Shared) (Q:Value->Shared->Prop) (E:Value->Shared->Prop),Q (.int (g i j) s.toks) {s with toks:=s.toks+1}->wpAny (model X.prog X.w) X.A (f (.int i t) (.int j u)) Q E s):
  OpR X f (rI0 fun i j=>.int (g i j)):=by
 intro pins s σ H x y v u Q I rx ry h
 obtain ⟨i,j,rfl,rfl,q⟩:=h
 obtain ⟨t,rfl⟩:=rx
 obtain ⟨t',rfl⟩:=ry
 exact rule i j t t' s _ _ ⟨.int (g i j),H,I.tok _,⟨_,rfl⟩,q⟩
theorem opB0 {f:Value->Value->Sem Value}{g:Int->Int->Bool}
  (rule:∀(i j:Int) (t u:Tok) (s:Shared) (Q:Value->Shared->Prop) (E:Value->Shared->Prop),Q (.bool (g i j)) s->wpAny (model X.prog X.w) X.A (f (.int i t) (.int j u)) Q E s):
  OpR X f (rI0 fun i j=>.bl (g i j)):=by
 intro pins s σ H x y v u Q I rx ry h
 obtain ⟨i,j,rfl,rfl,q⟩:=h
 obtain ⟨t,rfl⟩:=rx
 obtain ⟨t',rfl⟩:=ry
 exact rule i j t t' s _ _ ⟨.bl (g i j),H,I,rfl,q⟩
def CDiv (i j:Int):Prop:=0<j/\j<1073741824
def CPow (i j:Int):Prop:=0<=j/\j<=1000000/\i.natAbs<2^64
def CMul (i j:Int):Prop:=(-(2^64)<i/\i<2^64)\/(-(2^64)<j/\j<2^64)
theorem CMul.ok {i j:Int}(h:CMul i j):IntMulOk i j:=by
 rcases h with ⟨h1,h2⟩|⟨h1,h2⟩
 ·exact .of_left (intBits_le_64 h1 h2)
 ·exact .of_right (intBits_le_64 h1 h2)
theorem zi9:OpR X (binaryOp .Add) (rI0 fun i j=>.int (i+j)):=opI0 fun _ _ _ _ _ _ _ q=>add_int q
theorem op_sub:OpR X (binaryOp .Sub) (rI0 fun i j=>.int (i-j)):=opI0 fun _ _ _ _ _ _ _ q=>sub_int q
theorem op_mul:OpR X (binaryOp .Mult) (rI CMul fun i j=>.int (i*j)):=opI fun _ _ _ _ _ _ _ hc q=>mul_int q hc.ok
theorem zf9:OpR X (binaryOp .FloorDiv) (rI CDiv fun i j=>.int (i/j)):=opI fun i j _ _ _ _ _ hc q=>by
 have h1:(0:Int)<j:=hc.1
 have h2:j<1073741824:=hc.2
 exact floordiv_int (by omega) (by rw [Int.fdiv_eq_ediv_of_nonneg i (by omega)];exact q) (.inl (PyProof.noPylong_small (by omega)))
theorem zei:OpR X (binaryOp .Mod) (rI (fun _ j=>0<j) fun i j=>.int (i%j)):=opI fun i j _ _ _ _ _ hc q=>by
 have h1:(0:Int)<j:=hc
 exact mod_int' (by omega) (by rw [Int.fmod_eq_emod_of_nonneg i (by omega)];exact q)
theorem op_pow:OpR X (binaryOp .Pow) (rI CPow fun i j=>.int (i^j.toNat)):=opI fun _ _ _ _ _ _ _ hc q=>pow_int_small hc.1 hc.2.1 hc.2.2 q
theorem unI {f:Value->Sem Value}{g:Int->Int}
  (rule:∀(i:Int) (t:Tok) (s:Shared) (Q:Value->Shared->Prop) (E:Value->Shared->Prop),Q (.int (g i) s.toks) {s with toks:=s.toks+1}->wpAny (model X.prog X.w) X.A (f (.int i t)) Q E s):
  UnR X f (rU fun i=>.int (g i)):=by
 intro pins s σ H x v Q I rx h
 obtain ⟨i,rfl,q⟩:=h
 obtain ⟨t,rfl⟩:=rx
 exact rule i t s _ _ ⟨.int (g i),H,I.tok _,⟨_,rfl⟩,q⟩
theorem zja:UnR X (unaryOp .USub) (rU fun i=>.int (-i)):=unI fun _ _ _ _ _ q=>neg_int q
end
def scal:V->V->Bool
 |.non,.non=>true|.non,.int _=>true|.int _,.non=>true|.non,.bl _=>true|.bl _,.non=>true|.non,.str _=>true|.str _,.non=>true
 |.int _,.int _=>true|.bl _,.bl _=>true|.str _,.str _=>true|.byt _,.byt _=>true
 |.int _,.str _=>true|.str _,.int _=>true|.bl _,.str _=>true|.str _,.bl _=>true
 |_,_=>false
def rEq:R2:=fun x y H Q=>scal x y=true/\Q (.bl (decide (x=y))) H
def rNe:R2:=fun x y H Q=>scal x y=true/\Q (.bl (!decide (x=y))) H
theorem dec_int {i j:Int}:decide (V.int i=V.int j)=(i==j):=by
 rw [Bool.eq_iff_iff]
 simp
theorem dec_bl {i j:Bool}:decide (V.bl i=V.bl j)=(i==j):=by
 rw [Bool.eq_iff_iff]
 simp
theorem dec_str {i j:Str}:decide (V.str i=V.str j)=(i==j):=by
 rw [Bool.eq_iff_iff]
 simp
theorem dec_byt {i j:Array UInt8}:decide (V.byt i=V.byt j)=(i.toList==j.toList):=by
 rw [Bool.eq_iff_iff]
 cases i
 cases j
 simp
section
variable {X:Cx}{a b c:Expr}{ta tb tc:TE}{pos:Pos}
theorem zco {pins:List (Addr×Obj)}{σ:St}{H:Hp}{s:Shared}{Q:VK}{k k':Bool}(I:Inv X pins σ H s)(q:Q (.bl k) H)(e:k=k'):EP X pins σ Q (.bool k') s:=by
 subst e
 exact ⟨.bl k,H,I,rfl,q⟩
theorem op_eq:OpR X (compareOp .Eq) rEq:=by
 intro pins s σ H x y v u Q I rx ry h
 obtain ⟨hs,q⟩:=h
 cases x with
 |non=>
  cases rx
  cases y with
  |non=>cases ry;exact PySem.EqNone.eq_none_none (zco I q (by simp))
  |bl j=>cases ry;exact PySem.EqNone.eq_none_bool (zco I q (by simp))
  |int j=>obtain ⟨t',rfl⟩:=ry;exact PySem.EqNone.eq_none_int (zco I q (by simp))
  |str j=>obtain ⟨t',rfl⟩:=ry;exact PySem.EqNone.eq_none_str (zco I q (by simp))
  |_=>exact absurd (show false=true from hs) Bool.false_ne_true
 |bl i=>
  cases rx
  cases y with
  |non=>cases ry;exact PySem.EqNone.eq_bool_none (zco I q (by simp))
  |bl j=>cases ry;exact eq_bool (zco I q dec_bl)
  |str j=>obtain ⟨t',rfl⟩:=ry;exact PySem.EqMixed.eq_bool_str (zco I q (by simp))
  |_=>exact absurd (show false=true from hs) Bool.false_ne_true
 |int i=>
  obtain ⟨t,rfl⟩:=rx
  cases y with
  |non=>cases ry;exact PySem.EqNone.eq_int_none (zco I q (by simp))
  |int j=>obtain ⟨t',rfl⟩:=ry;exact eq_int (zco I q dec_int)
  |str j=>obtain ⟨t',rfl⟩:=ry;exact PySem.EqMixed.eq_int_str (zco I q (by simp))
  |_=>exact absurd (show false=true from hs) Bool.false_ne_true
 |str i=>
  obtain ⟨t,rfl⟩:=rx
  cases y with
  |non=>cases ry;exact PySem.EqNone.eq_str_none (zco I q (by simp))
  |bl j=>cases ry;exact PySem.EqMixed.eq_str_bool (zco I q (by simp))
  |int j=>obtain ⟨t',rfl⟩:=ry;exact PySem.EqMixed.eq_str_int (zco I q (by simp))
  |str j=>obtain ⟨t',rfl⟩:=ry;exact eq_str (zco I q dec_str)
  |_=>exact absurd (show false=true from hs) Bool.false_ne_true
 |byt i=>
  obtain ⟨t,rfl⟩:=rx
  cases y with
  |byt j=>obtain ⟨t',rfl⟩:=ry;exact PySem.W.eq_bytes (zco I q dec_byt)
  |_=>exact absurd (show false=true from hs) Bool.false_ne_true
 |_=>cases y<;>exact absurd (show false=true from hs) Bool.false_ne_true
theorem op_ne:OpR X (compareOp .NotEq) rNe:=by
 intro pins s σ H x y v u Q I rx ry h
 obtain ⟨hs,q⟩:=h
 cases x with
 |non=>
  cases rx
  cases y with
  |non=>cases ry;exact PySem.EqNone.ne_none_none (zco I q (by simp))
  |bl j=>cases ry;exact PySem.EqNone.ne_none_bool (zco I q (by simp))
  |int j=>obtain ⟨t',rfl⟩:=ry;exact PySem.EqNone.ne_none_int (zco I q (by simp))
  |str j=>obtain ⟨t',rfl⟩:=ry;exact PySem.EqNone.ne_none_str (zco I q (by simp))
  |_=>exact absurd (show false=true from hs) Bool.false_ne_true
 |bl i=>
  cases rx
  cases y with
  |non=>cases ry;exact PySem.EqNone.ne_bool_none (zco I q (by simp))
  |bl j=>cases ry;exact ne_bool (zco I q (congrArg not dec_bl))
  |str j=>obtain ⟨t',rfl⟩:=ry;exact PySem.EqMixed.ne_bool_str (zco I q (by simp))
  |_=>exact absurd (show false=true from hs) Bool.false_ne_true
 |int i=>
  obtain ⟨t,rfl⟩:=rx
  cases y with
  |non=>cases ry;exact PySem.EqNone.ne_int_none (zco I q (by simp))
  |int j=>obtain ⟨t',rfl⟩:=ry;exact ne_int (zco I q (congrArg not dec_int))
  |str j=>obtain ⟨t',rfl⟩:=ry;exact PySem.EqMixed.ne_int_str (zco I q (by simp))
  |_=>exact absurd (show false=true from hs) Bool.false_ne_true
 |str i=>
  obtain ⟨t,rfl⟩:=rx
  cases y with
  |non=>cases ry;exact PySem.EqNone.ne_str_none (zco I q (by simp))
  |bl j=>cases ry;exact PySem.EqMixed.ne_str_bool (zco I q (by simp))
  |int j=>obtain ⟨t',rfl⟩:=ry;exact PySem.EqMixed.ne_str_int (zco I q (by simp))
  |str j=>obtain ⟨t',rfl⟩:=ry;exact ne_str (zco I q (congrArg not dec_str))
  |_=>exact absurd (show false=true from hs) Bool.false_ne_true
 |byt i=>
  obtain ⟨t,rfl⟩:=rx
  cases y with
  |byt j=>obtain ⟨t',rfl⟩:=ry;exact PySem.W.ne_bytes (zco I q (congrArg not dec_byt))
  |_=>exact absurd (show false=true from hs) Bool.false_ne_true
 |_=>cases y<;>exact absurd (show false=true from hs) Bool.false_ne_true
theorem zrk:OpR X (compareOp .Lt) (rI0 fun i j=>.bl (decide (i<j))):=opB0 fun _ _ _ _ _ _ _ q=>lt_int q
theorem op_gt:OpR X (compareOp .Gt) (rI0 fun i j=>.bl (decide (j<i))):=opB0 fun _ _ _ _ _ _ _ q=>gt_int q
theorem op_ge:OpR X (compareOp .GtE) (rI0 fun i j=>.bl (decide (j<=i))):=opB0 fun _ _ _ _ _ _ _ q=>ge_int q
theorem op_notN:OpR X (compareOp .IsNot) (fun x y H Q=>y=.non/\Q (.bl (!decide (x=.non))) H):=by
 intro pins s σ H x y v u Q I rx ry h
 obtain ⟨rfl,q⟩:=h
 cases ry
 refine isnot_none_gen (zco I q ?_)
 cases x<;>first
  |(cases rx;rfl)
  |(obtain ⟨t,rfl⟩:=rx;rfl)
theorem OpR.or {f:Value->Value->Sem Value}{r r':R2}(h:OpR X f r)(h':OpR X f r'):OpR X f (fun x y H Q=>r x y H Q\/r' x y H Q):=by
 intro pins s σ H x y v u Q I rx ry q
 rcases q with q|q
 ·exact h pins s σ H x y v u Q I rx ry q
 ·exact h' pins s σ H x y v u Q I rx ry q
theorem zbl (b:Expr){op:CmpOp}(h:op≠.In:=by decide)(h2:op≠.NotIn:=by decide):behindInMarks op b=false:=by
 have e1:(op==CmpOp.In)=false:=by cases op<;>first|rfl|exact absurd rfl h
 have e2:(op==CmpOp.NotIn)=false:=by cases op<;>first|rfl|exact absurd rfl h2
 cases b<;>simp [behindInMarks,e1,e2]
theorem zfo {op:CmpOp}{r:R2}(ho:OpR X (compareOp op) r)(ha:PE X a ta)(hb:PE X b tb)(hm:behindInMarks op b=false):PE X (.Compare a [op] [b] pos) (tOp r ta tb):=by
 intro pins s σ H Q I h
 exact wpAny_Compare1 (binT ha hb I h fun v u s2 x y H2 I2 rx ry q=>ho pins s2 σ H2 x y v u Q I2 rx ry q) hm
def zww (t:TE):TT:=fun σ H Q=>t σ H fun x H'=>∃k,x=.bl k/\Q k H'
theorem zbb {op:CmpOp}{r:R2}(ho:OpR X (compareOp op) r)(ha:PE X a ta)(hb:PE X b tb)(hm:behindInMarks op b=false):PT X (.Compare a [op] [b] pos) (zww (tOp r ta tb)):=by
 intro pins s σ H Q I h
 refine wpAny_isTrue_Compare1 (thn (ha pins s σ H _ I h) fun v s1 ⟨x,H1,I1,r1,q1⟩=>thn (hb pins s1 σ H1 _ I1 q1) fun u s2 ⟨y,H2,I2,r2,q2⟩=>
  thn (ho pins s2 σ H2 x y v u _ I2 r1 r2 q2) fun c s3 ⟨z,H3,I3,r3,k,e,q3⟩=>?_) hm
 subst e
 cases r3
 exact wpAny_truthy_bool ⟨H3,I3,q3⟩
def TruV (K:PySem.W.Frag)(x:V)(H:Hp)(k:Bool):Prop:=
 match x with
 |.non=>k=false
 |.bl b=>k=b
 |.int i=>k=(i !=0)
 |.str y=>y.length<=sizeLine/\k=((y.length:Int) !=0)
 |.byt y=>y.size<=sizeLine/\k=((y.size:Int) !=0)
 |.ref p=>(∃xs,SqL K H p xs/\k= !xs.isEmpty)\/(∃xs,SqT K H p xs/\k= !xs.isEmpty)\/∃kvs,H p=some (.dK kvs)/\k= !kvs.isEmpty
 |_=>False
theorem zxp {κ:Type}{kvs:List (κ×V)}{vs:List (κ×Value)}(r:KV kvs vs):(!vs.isEmpty)= !kvs.isEmpty:=by
 cases r<;>rfl
theorem zo9 {xs:List V}{its:List Value}(r:Vals xs its):(!its.toArray.isEmpty)= !xs.isEmpty:=by
 cases r<;>simp
theorem zsc:(sizeLine:Nat)<2^63:=by rw [sizeLine_eq];decide
theorem tru_ok:TruR X (fun x H Q=>∃k,TruV X.K x H k/\Q k H):=by
 intro pins s σ H x v Q I rx h
 obtain ⟨k,e,q⟩:=h
 have hl:=zsc
 have hs:sizeLine=16777216:=sizeLine_eq
 cases x with
 |non=>
  cases rx
  have e':k=false:=e
  subst e'
  exact truthy_none ⟨H,I,q⟩
 |bl b=>
  cases rx
  have e':k=b:=e
  subst e'
  exact wpAny_truthy_bool ⟨H,I,q⟩
 |int i=>
  obtain ⟨t,rfl⟩:=rx
  have e':k=(i !=0):=e
  subst e'
  exact PySem.P.truthy_int ⟨H,I,q⟩
 |str y=>
  obtain ⟨t,rfl⟩:=rx
  obtain ⟨hy,e'⟩:y.length<=sizeLine/\k=((y.length:Int) !=0):=e
  subst e'
  exact PySem.P.truthy_str (by omega) ⟨H,I.tok _,q⟩
 |byt y=>
  obtain ⟨t,rfl⟩:=rx
  obtain ⟨hy,e'⟩:y.size<=sizeLine/\k=((y.size:Int) !=0):=e
  subst e'
  exact PySem.W.truthy_bytes (by omega) ⟨H,I.tok _,q⟩
 |ref p=>
  cases rx
  have e':(∃xs,SqL X.K H p xs/\k= !xs.isEmpty)\/(∃xs,SqT X.K H p xs/\k= !xs.isEmpty)\/∃kvs,H p=some (.dK kvs)/\k= !kvs.isEmpty:=e
  rcases e' with ⟨xs,hx,e'⟩|⟨xs,hx,e'⟩|⟨kvs,hx,e'⟩
  ·subst e'
   obtain ⟨its,r,pl,hz⟩:=I.list hx
   have hlen:=r.length
   exact wpAny_truthy_list pl.isList (by simp only [List.size_toArray];omega) ⟨H,I.tok _,by rw [zo9 r];exact q⟩
  ·subst e'
   obtain ⟨its,r,pl,hz⟩:=I.tuple hx
   have hlen:=r.length
   exact truthy_tuple pl (by simp only [List.size_toArray];omega) ⟨H,I.tok _,by rw [zo9 r];exact q⟩
  ·subst e'
   obtain ⟨hz,hS,vs,r,m⟩:kvs.length<=sizeLine/\(p==sysModules)=false/\∃vs,KV kvs vs/\s.heap.DictOf (zc9 X.prog X.w) p vs:=I.hok p _ hx
   have hlen:kvs.length=vs.length:=Paired.length r
   exact wpAny_truthy_dict hS m (by omega) ⟨H,I.tok _,by rw [zxp r];exact q⟩
 |_=>exact (show False from e).elim
theorem zvn (ha:PE X a ta)(he:∀zht,isTrue a X.env zht=(do let v<-zht;standAt a.pos;holding [v] (truthy v))):
  PT X a (fun σ H Q=>ta σ H fun x H'=>∃k,TruV X.K x H' k/\Q k H'):=by
 intro pins s σ H Q I h
 exact isTrue_plain (thn (ha pins s σ H _ I h) fun v s1 ⟨x,H1,I1,r1,q1⟩=>tru_ok pins s1 σ H1 x v Q I1 r1 q1) (he _)
theorem zkc {x:V}{us:List Value}(r:Vals [x] us):∃u,us=[u]/\RelV x u:=by
 cases r with
 |cons r1 r2=>cases r2;exact ⟨_,rfl,r1⟩
theorem vals2 {x y:V}{us:List Value}(r:Vals [x,y] us):∃u w',us=[u,w']/\RelV x u/\RelV y w':=by
 cases r with
 |cons r1 r2=>
  cases r2 with
  |cons r3 r4=>cases r4;exact ⟨_,_,rfl,r1,r3⟩
end
end L2
namespace L2
open PySem PySem.Spec PyProof.Rows
structure ObjM (h:Heap)(x dx C:Addr)(mA:Str->Option Value):Prop where
 obj:h.get? x=some (PySem.W.instObj C dx)
 ns:h.Ns1 dx mA
 ne:dx≠x
theorem lookIn_ns {h:Heap}{dx:Addr}{mA:Str->Option Value}(n:h.Ns1 dx mA):∃od,h.get? dx=some od/\∀name,PySem.W.lookIn name od=some (mA name):=by
 obtain ⟨o,es,ep,ho,hd,hk,_,hm⟩:=n
 refine ⟨o,ho,fun name=>?_⟩
 have e:=hm name
 unfold nsFind findBy at e
 rw [<-Array.find?_toList] at e
 unfold PySem.W.lookIn
 rw [hd]
 dsimp only
 split
 ·rename_i y q
  rw [q] at e
  exact congrArg some e
 ·rename_i q
  rw [q] at e
  have a:es.toList.any (·.refKey)=false:=by
   rw [List.any_eq_false]
   intro y hy
   obtain ⟨z,t,hkey⟩:=hk y (Array.mem_toList_iff.mp hy)
   simp [DictEntry.refKey,hkey]
  have a':¬es.toList.any (·.refKey)=true:=by rw [a];exact Bool.false_ne_true
  rw [if_neg a']
  exact congrArg some e
theorem ObjM.look {h:Heap}{x dx C:Addr}{mA:Str->Option Value}(I:ObjM h x dx C mA):∃od,PySem.W.InstAt h x (PySem.W.instObj C dx) C (some od)/\∀name,PySem.W.lookIn name od=some (mA name):=
 let ⟨od,ho,hl⟩:=lookIn_ns I.ns
 ⟨od,⟨I.obj,rfl,rfl,ho⟩,hl⟩
section
variable {prog:Program}{w:World}{A:Around}{E:Value->Shared->Prop}{s:Shared}{K:PySem.W.Frag}{x dx C f:Addr}{mA:Str->Option Value}{name:Str}{v:Value}
theorem get_map {expr:Bool}{Q:Value->Shared->Prop}(X:K.In s.heap)(I:ObjM s.heap x dx C mA)(hg:PySem.W.plainGet K C name=true)(hh:PySem.W.hasDictIn K C=true)
  (ha:PySem.W.findIn K (.ref C) name=some none) (hv:mA name=some v) (hv':PySem.W.handedIn v=true) (h:Q v {s with toks:=s.toks+1}):
  wpAny (model prog w) A (getAttr (.ref x) name expr) Q E s:=by
 obtain ⟨od,J,hl⟩:=I.look
 exact PySem.W.get_value X J (PySem.W.plainGet_of hg).1 (PySem.W.findObj_own hh ha rfl (by rw [hl,hv])) hv' h
theorem get_meth {pl:Sem Bool}{Q:Value×List Value->Shared->Prop}(X:K.In s.heap)(I:ObjM s.heap x dx C mA)(hg:PySem.W.plainGet K C name=true)
  (hf:PySem.W.findIn K (.ref C) name=some (some (.ref f))) (ht:PySem.W.isFn K (.ref f)=true) (hv:mA name=none) (h:Q (.ref f,[.ref x]) s):
  wpAny (model prog w) A (getMethod (.ref x) name pl) Q E s:=by
 obtain ⟨od,J,hl⟩:=I.look
 exact PySem.W.method_fn X J (PySem.W.plainGet_of hg).1 (PySem.W.plainGet_of hg).2 hf (beq_iff_eq.mp ht) (by show (PySem.W.lookIn name od).map (·.isSome)=some false;rw [hl,hv];rfl) h
theorem set_map {ns:List Str}{Q:Unit->Shared->Prop}(X:K.In s.heap)(I:ObjM s.heap x dx C mA)
  (hs:PySem.W.findIn K (.ref C) "__setattr__"=some (some (.builtin "object.__setattr__"))) (hp:PySem.W.plainOver K C=true) (ht:PySem.W.takerIn K C name=some none) (hh:PySem.W.hasDictIn K C=true)
  (hw:PySem.Within mA ns) (hsz:ns.length<=sizeLine)
  (h:∀h',ObjM h' x dx C (fun y=>if y=name then some v else mA y)->Heap.SameBut dx s.heap h'->Q () {s with heap:=h',toks:=s.toks+2}):
  wpAny (model prog w) A (setAttr (.ref x) name v) Q E s:=by
 obtain ⟨od,J,hl⟩:=I.look
 refine PySem.W.set_plain X J hs (PySem.W.osa_open (s:={s with toks:=s.toks+1}) (r:=none) X J hp ht fun b=>?_)
 obtain ⟨cd,hc,hd'⟩:=PySem.W.any_some hh
 have hx:s.heap.get? x=some ⟨.ref C,some dx,.plain, #[]⟩:=I.obj
 refine wpAny_bind (wpAny_pure (wpAny_bind (wpAny_bind (wpAny_loadPart hx (wpAny_bind (PySem.W.Looks.here (s:={s with toks:=s.toks+1}) (PySem.W.looks_clsIn X hc) ?_))))))
 rw [hd']
 refine wpAny_pure (a:=some dx) (wpAny_bind (wpAny_pure (wpAny_bind ?_)))
 refine wpAny_nsSet1 (s:={s with toks:=s.toks+1}) I.ns fun h' hn2 hs2=>?_
 obtain ⟨oD,esD,epD,hoD,hdD,hcD⟩:=hn2.count (PySem.Within.cons name v hw)
 refine wpAny_bind (wpAny_lookBehind hoD (by rw [hdD];exact pastItsLine_dict (Nat.le_trans hcD (by rw [length_cons];omega))) ?_)
 exact wpAny_pure (h _ ⟨(hs2.2 _ (Ne.symm I.ne)).trans I.obj,hn2,I.ne⟩ hs2)
theorem make_map {R:Result->Shared->Prop}{vs:List Value}{kw:List (Str×Value)}(X:K.In s.heap)(hm:PySem.W.makesIn K C=true)
  (hi:PySem.W.findIn K (.ref C) "__init__"=some (some (.ref f))) (hf:PySem.W.typeIn K (.ref f)=some (.type "function"))
  (h:codeAny (model prog w) (A.under (.builtin "type.__call__" ⟨.ref C::vs,kw⟩)) (.call (.ref f) ⟨.ref (s.heap.objs.size+1)::vs,kw⟩) (PySem.W.InitBack (s.heap.objs.size+1) R)
   {s with heap:=(s.heap.push PySem.W.emptyDict).push (PySem.W.instObj C s.heap.objs.size)}):
  codeAny (model prog w) A (.call (.ref C) ⟨vs,kw⟩) R s:=by
 obtain ⟨hh,g,d,t,os⟩:=s
 exact PySem.W.make_core (PySem.W.makes_of X hm) (PySem.W.looks_findIn X hi) (fun self=>PySem.W.bind_fn X self hf) (.inl rfl) h
end
def zqj (f:Str)(v:V):List (Str×V)->List (Str×V)
 |[]=>[(f,v)]
 |(g,x)::r=>if g=f then (g,v)::r else (g,x)::zqj f v r
theorem zma (f g:Str)(v:V):∀fs:List (Str×V),(zqj f v fs).lookup g=if g=f then some v else fs.lookup g
 |[]=>by
  show List.lookup g [(f,v)]=_
  by_cases h:g=f
  ·have hb:(g==f)=true:=beq_iff_eq.mpr h
   simp only [List.lookup,hb,if_pos h]
  ·have hb:(g==f)=false:=beq_eq_false_iff_ne.mpr h
   simp only [List.lookup,hb,if_neg h]
 |(k,x)::r=>by
  have ih:=zma f g v r
  rw [show zqj f v ((k,x)::r)=(if k=f then (k,v)::r else (k,x)::zqj f v r) from rfl]
  by_cases hk:k=f
  ·rw [if_pos hk]
   by_cases h:g=k
   ·have hb:(g==k)=true:=beq_iff_eq.mpr h
    simp only [List.lookup,hb,if_pos (h.trans hk)]
   ·have hb:(g==k)=false:=beq_eq_false_iff_ne.mpr h
    simp only [List.lookup,hb,if_neg (fun e:g=f=>h (e.trans hk.symm))]
  ·rw [if_neg hk]
   by_cases h:g=k
   ·have hb:(g==k)=true:=beq_iff_eq.mpr h
    simp only [List.lookup,hb,if_neg (fun e:g=f=>hk (h.symm.trans e))]
   ·have hb:(g==k)=false:=beq_eq_false_iff_ne.mpr h
    simp only [List.lookup,hb]
    exact ih
theorem zmd (f:Str)(v:V):∀fs:List (Str×V),f∈(zqj f v fs).map (·.1)/\∀g,g∈fs.map (·.1)->g∈(zqj f v fs).map (·.1)
 |[]=>⟨by simp [zqj],fun g h=>by simp at h⟩
 |(k,x)::r=>by
  obtain ⟨i1,i2⟩:=zmd f v r
  rw [show zqj f v ((k,x)::r)=(if k=f then (k,v)::r else (k,x)::zqj f v r) from rfl]
  by_cases hk:k=f
  ·rw [if_pos hk]
   subst hk
   exact ⟨by simp,fun g h=>by simpa using h⟩
  ·rw [if_neg hk]
   refine ⟨?_,fun g h=>?_⟩
   ·rw [map_cons]
    exact mem_cons_of_mem _ i1
   ·rw [map_cons] at h⊢
    rcases mem_cons.mp h with e|e
    ·exact mem_cons.mpr (.inl e)
    ·exact mem_cons_of_mem _ (i2 g e)
theorem zmc (f:Str)(v:V):∀fs:List (Str×V),(zqj f v fs).length<=fs.length+1
 |[]=>by simp [zqj]
 |(k,x)::r=>by
  have ih:=zmc f v r
  rw [show zqj f v ((k,x)::r)=(if k=f then (k,v)::r else (k,x)::zqj f v r) from rfl]
  by_cases hk:k=f
  ·rw [if_pos hk,length_cons,length_cons];omega
  ·rw [if_neg hk,length_cons,length_cons];omega
theorem RelO.some_of {v:V}{o:Option Value}(r:RelO (some v) o):∃u,o=some u/\RelV v u:=by
 cases o with
 |none=>exact (show False from r).elim
 |some u=>exact ⟨u,rfl,r⟩
theorem RelO.none_of {o:Option Value}(r:RelO none o):o=none:=by
 cases o with
 |none=>rfl
 |some u=>exact (show False from r).elim
theorem handed_of {v:V}{u:Value}(r:RelV v u):PySem.W.handedIn u=true:=by
 cases v with
 |non=>cases (show u=Value.none from r);rfl
 |bl b=>cases (show u=Value.bool b from r);rfl
 |int i=>obtain ⟨t,e⟩:=(show∃t,u=Value.int i t from r);cases e;rfl
 |str x=>obtain ⟨t,e⟩:=(show∃t,u=Value.str x t from r);cases e;rfl
 |byt b=>obtain ⟨t,e⟩:=(show∃t,u=Value.bytes b t from r);cases e;rfl
 |flt b=>obtain ⟨t,e⟩:=(show∃t,u=Value.float b t from r);cases e;rfl
 |ref a=>cases (show u=Value.ref a from r);rfl
 |ty n=>cases (show u=Value.type n from r);rfl
section
variable {P:Program}{w:World}{H H':Hp}{h h':Heap}{a C dx:Addr}{fs fs':List (Str×V)}
theorem zpo (hok:HOk P w H h)(e:H a=some (.ins C dx fs)):∃mA,ObjM h a dx C mA/\(∀f,RelO (fs.lookup f) (mA f))/\PySem.Within mA (fs.map (·.1))/\fs.length<=1000/\H dx=some (.own a):=by
 obtain ⟨d,z,ne,ob,mA,n,r,q⟩:=(show ObjOk P w H h a (.ins C dx fs) from hok a _ e)
 exact ⟨mA,⟨ob,n,ne⟩,r,q,z,d⟩
end
structure Cls (K:PySem.W.Frag)(C:Addr):Prop where
 pg:PySem.W.plainGet K C Str.empty=true
 hd:PySem.W.hasDictIn K C=true
 po:PySem.W.plainOver K C=true
 sa:PySem.W.findIn K (.ref C) "__setattr__"=some (some (.builtin "object.__setattr__"))
theorem Cls.get {K:PySem.W.Frag}{C:Addr}(c:Cls K C)(f:Str):PySem.W.plainGet K C f=true:=c.pg
def NoAttr (K:PySem.W.Frag)(C:Addr)(f:Str):Prop:=PySem.W.findIn K (.ref C) f=some none
theorem NoAttr.taker {K:PySem.W.Frag}{C:Addr}{f:Str}(n:NoAttr K C f):PySem.W.takerIn K C f=some none:=by
 unfold PySem.W.takerIn
 rw [show PySem.W.findIn K (.ref C) f=some none from n]
 rfl
structure zle (K:PySem.W.Frag)(C:Addr)(m:Str)(f:Addr):Prop where
 at_:PySem.W.findIn K (.ref C) m=some (some (.ref f))
 fn:PySem.W.isFn K (.ref f)=true
 kp:PySem.W.keepIn K (.ref f)=true
section
variable {X:Cx}{pins:List (Addr×Obj)}{σ:St}{H:Hp}{s:Shared}{a C dx:Addr}{fs:List (Str×V)}{f:Str}{v:V}{A:Around}{E:Value->Shared->Prop}
theorem zxr {b:Bool}{Q:Value->Shared->Prop}(I:Inv X pins σ H s)(e:H a=some (.ins C dx fs))(c:Cls X.K C)(n:NoAttr X.K C f)(l:fs.lookup f=some v)
  (h:∀u s',Inv X pins σ H s'->RelV v u->Q u s'):wpAny (model X.prog X.w) A (getAttr (.ref a) f b) Q E s:=by
 obtain ⟨mA,O,r,_,_,_⟩:=zpo I.hok e
 obtain ⟨u,hu,ru⟩:=RelO.some_of (v:=v) (o:=mA f) (by rw [<-l];exact r f)
 exact get_map I.kIn O (c.get f) c.hd n hu (handed_of ru) (h u _ (I.tok _) ru)
theorem zoc {m:Str}{g:Addr}{pl:Sem Bool}{Q:Value×List Value->Shared->Prop}(I:Inv X pins σ H s)(e:H a=some (.ins C dx fs))(c:Cls X.K C)(k:zle X.K C m g)(l:fs.lookup m=none)
  (h:Q (.ref g,[.ref a]) s):wpAny (model X.prog X.w) A (getMethod (.ref a) m pl) Q E s:=by
 obtain ⟨mA,O,r,_,_,_⟩:=zpo I.hok e
 have hn:mA m=none:=RelO.none_of (by rw [<-l];exact r m)
 exact get_meth I.kIn O (c.get m) k.at_ k.fn hn h
theorem zwz {y:V}{u:Value}{Q:Unit->Shared->Prop}(I:Inv X pins σ H s)(e:H a=some (.ins C dx fs))(c:Cls X.K C)(n:NoAttr X.K C f)(hl:fs.length<1000)(ry:RelV y u)
  (h:∀s',Inv X pins σ (upd H a (.ins C dx (zqj f y fs))) s'->Q () s'):wpAny (model X.prog X.w) A (setAttr (.ref a) f u) Q E s:=by
 obtain ⟨mA,O,r,wi,_,ho⟩:=zpo I.hok e
 have hz:(fs.map (·.1)).length<=sizeLine:=by rw [length_map,sizeLine_eq];omega
 refine set_map I.kIn O c.sa c.po n.taker c.hd wi hz fun h' O' sb=>h _ ?_
 have hd:∃o,h'.get? dx=some o:=let ⟨o,_,_,e',_⟩:=O'.ns;⟨o,e'⟩
 refine I.write (x:=a) (e:=dx) (by rw [e];exact True.intro) (.inr ho) (fun b q hb z=>(sb.2 b hb).trans z) hd ?_
 refine ⟨by rw [zal O.ne];exact ho,?_,O.ne,O'.obj,_,O'.ns,fun g=>?_,fun g hg=>?_⟩
 ·have:=zmc f y fs;omega
 ·show RelO ((zqj f y fs).lookup g) (if g=f then some u else mA g)
  rw [zma]
  by_cases q:g=f
  ·rw [if_pos q,if_pos q];exact ry
  ·rw [if_neg q,if_neg q];exact r g
 ·by_cases q:g=f
  ·rw [q];exact (zmd f y fs).1
  ·refine (zmd f y fs).2 g (wi g fun z=>hg ?_)
   show (if g=f then some u else mA g)=none
   rw [if_neg q];exact z
theorem Inv.made (I:Inv X pins σ H s):Inv X pins σ (upd (upd H s.heap.objs.size (.own (s.heap.objs.size+1))) (s.heap.objs.size+1) (.ins C s.heap.objs.size []))
  {s with heap:=(s.heap.push PySem.W.emptyDict).push (PySem.W.instObj C s.heap.objs.size)}:=by
 have e1:(s.heap.push PySem.W.emptyDict).get? s.heap.objs.size=some PySem.W.emptyDict:=Heap.get?_push_size s.heap rfl
 have e2:((s.heap.push PySem.W.emptyDict).push (PySem.W.instObj C s.heap.objs.size)).get? (s.heap.objs.size+1)=some (PySem.W.instObj C s.heap.objs.size):=by
  have:=Heap.get?_push_size (s.heap.push PySem.W.emptyDict) (o:=PySem.W.instObj C s.heap.objs.size) rfl
  rwa [Heap.size_push] at this
 have e3:(s.heap.push PySem.W.emptyDict).Ns s.heap.objs.size (fun _=>none):=⟨PySem.W.emptyDict, #[],_,e1,rfl,(fun e he=>absurd he (by simp)),fun _=>rfl⟩
 have I1:=I.laid (a:=s.heap.objs.size) (o:=.own (s.heap.objs.size+1)) (h':=s.heap.push PySem.W.emptyDict) (t':=s.toks) (fun b u q=>Heap.get?_push_of_some _ q) (Nat.le_refl _) ⟨_,e1⟩
 refine I1.laid (a:=s.heap.objs.size+1) (o:=.ins C s.heap.objs.size []) (t':=s.toks) (fun b u q=>Heap.get?_push_of_some _ q) (Nat.le_of_eq (Heap.size_push _ _)) ?_
 have ne:s.heap.objs.size≠s.heap.objs.size+1:=Nat.ne_of_lt (Nat.lt_succ_self _)
 refine ⟨by rw [zal ne,zae],Nat.zero_le _,ne,e2,fun _=>none,(Heap.Ns1.of_empty e3).at fun o q=>Heap.get?_push_of_some _ q,fun _=>True.intro,fun y hy=>absurd rfl hy⟩
theorem attr_of {prog:Program}{w:World}{env:Env}{e:Expr}{f:Str}{pos:Pos}{s:Shared}{Q:Value->Shared->Prop}(hb:attributeBase e f env (eval e env)=eval e env)
  (h:wpAny (model prog w) A (eval e env) (fun o s₁=>wpAny (model prog w) A (getAttr o f true) Q E s₁) E s):wpAny (model prog w) A (eval (.Attribute e f pos) env) Q E s:=
 Attribute_any_ h (by rw [arm_eval_Attribute,hb])
end
def tFld (K:PySem.W.Frag)(ta:TE)(f:Str):TE:=fun σ H Q=>ta σ H fun x H1=>∃a C dx fs v,x=.ref a/\H1 a=some (.ins C dx fs)/\Cls K C/\NoAttr K C f/\fs.lookup f=some v/\Q v H1
def sFld (K:PySem.W.Frag)(ta tv:TE)(f:Str):TS:=fun D σ H=>tv σ H fun y H1=>ta σ H1 fun x H2=>∃a C dx fs,x=.ref a/\H2 a=some (.ins C dx fs)/\Cls K C/\NoAttr K C f/\fs.length<1000/\
 D.nx σ (upd H2 a (.ins C dx (zqj f y fs)))
section
variable {X:Cx}{o e value:Expr}{f:Str}{pos pos' tpos:Pos}{ta tv:TE}
theorem zeh (he:PE X e ta)(hb:attributeBase e f X.env (eval e X.env)=eval e X.env):PE X (.Attribute e f pos) (tFld X.K ta f):=by
 intro pins s σ H Q I h
 refine attr_of hb (thn (he pins s σ H _ I h) fun u s1 ⟨x,H1,I1,rx,a,C,dx,fs,v,ex,ea,c,n,l,q⟩=>?_)
 subst ex
 obtain rfl:u=Value.ref a:=rx
 exact zxr I1 ea c n l fun u' s2 I2 ru=>⟨v,H1,I2,ru,q⟩
theorem zgj (ha:PE X o ta)(hv:PE X value tv)(hs:swapsWith value (some (.Attribute o f pos')) pos.line X.env=pure false):PS X (.Assign [.Attribute o f pos'] value pos) (sFld X.K ta tv f):=by
 intro pins s σ H D I h
 refine plainObj_wpAny_Assign_Attribute (thn (hv pins s σ H _ I h) fun u s1 ⟨y,H1,I1,ry,q⟩=>thn (ha pins s1 σ H1 _ I1 q) fun ov s2 ⟨x,H2,I2,rx,a,C,dx,fs,ex,ea,c,n,l,q2⟩=>?_) hs
 subst ex
 obtain rfl:ov=Value.ref a:=rx
 exact zwz I2 ea c n l ry fun s3 I3=>⟨σ,_,I3,q2⟩
end
section
variable {X:Cx}{pins:List (Addr×Obj)}{σ:St}{H:Hp}{s:Shared}{A:Around}{E:Value->Shared->Prop}{Q:Value->Shared->Prop}{c:Value}{b:Bool}
inductive zwm (K:PySem.W.Frag)(H:Hp):V->Value->Prop where
 |non:zwm K H .non (.type "NoneType")
 |bl (x:Bool):zwm K H (.bl x) (.type "bool")
 |int (i:Int):zwm K H (.int i) (.type "int")
 |str (x:Str):zwm K H (.str x) (.type "str")
 |flt (x:UInt64):zwm K H (.flt x) (.type "float")
 |lst {a:Addr} {xs:List V} (e:H a=some (.lst xs)):zwm K H (.ref a) (.type "list")
 |frz {a:Addr} {o:Obj} {xs:List V} (e:H a=some (.frz o (.lst xs))):zwm K H (.ref a) (.type "list")
 |tup {a:Addr} {xs:List V} (e:H a=some (.tup xs)):zwm K H (.ref a) (.type "tuple")
 |dK {a:Addr} {kvs:List (Key×V)} (e:H a=some (.dK kvs)):zwm K H (.ref a) (.type "dict")
 |dT {a:Addr} {kvs:List (List Key×V)} (e:H a=some (.dT kvs)):zwm K H (.ref a) (.type "dict")
 |ins {a C dx:Addr} {fs:List (Str×V)} (e:H a=some (.ins C dx fs)) (cl:Cls K C) (ha:PySem.W.findIn K (.ref C) "__class__"=some (some (.builtin "object.__class__")))
   (hn:PySem.W.specialIn K (.builtin "object.__class__") "__get__"=some (some (.builtin "getset_descriptor.__get__"))) (htk:PySem.W.takesIn K (.builtin "object.__class__")=some true)
   (hm:PySem.W.mroIn K C (.type "object")=some true):zwm K H (.ref a) (.ref C)
theorem isinst_ok {x:V}{u t:Value}(I:Inv X pins σ H s)(rx:RelV x u)(ty:zwm X.K H x t)(e:PySem.W.kitOne X.K t c=some b)(h:∀tk,Q (.bool b) {s with toks:=tk}):
  wpAny (model X.prog X.w) A (call (.builtin "isinstance") [u,c]) Q E s:=by
 cases ty with
 |non=>cases (show u=Value.none from rx);exact PySem.W.kia_one PySem.W.kitx_none I.kIn True.intro e (fun z=>nomatch z) h
 |bl y=>cases (show u=Value.bool y from rx);exact PySem.W.kia_one PySem.W.kitx_bool I.kIn True.intro e (fun z=>nomatch z) h
 |int i=>obtain ⟨t,q⟩:=(show∃t,u=Value.int i t from rx);cases q;exact PySem.W.kia_one PySem.W.kitx_int I.kIn True.intro e (fun z=>nomatch z) h
 |str y=>obtain ⟨t,q⟩:=(show∃t,u=Value.str y t from rx);cases q;exact PySem.W.kia_one PySem.W.kitx_str I.kIn True.intro e (fun z=>nomatch z) h
 |flt y=>obtain ⟨t,q⟩:=(show∃t,u=Value.float y t from rx);cases q;exact PySem.W.kia_one PySem.W.kitx_float I.kIn True.intro e (fun z=>nomatch z) h
 |@lst a xs ea=>
  cases (show u=Value.ref a from rx)
  obtain ⟨_,_,n,_,h1⟩:=(show ObjOk X.prog X.w H s.heap a (.lst xs) from I.hok a _ ea)
  exact PySem.W.kia_one PySem.W.kitx_list I.kIn ⟨_,h1,rfl⟩ e (fun z=>nomatch z) h
 |@frz a ob xs ea=>
  cases (show u=Value.ref a from rx)
  obtain ⟨_,_,_,n,_,h1⟩:=(show ObjOk X.prog X.w H s.heap a (.frz ob (.lst xs)) from I.hok a _ ea)
  exact PySem.W.kia_one PySem.W.kitx_list I.kIn ⟨_,h1,rfl⟩ e (fun z=>nomatch z) h
 |@tup a xs ea=>
  cases (show u=Value.ref a from rx)
  obtain ⟨_,_,_,p⟩:=(show ObjOk X.prog X.w H s.heap a (.tup xs) from I.hok a _ ea)
  obtain ⟨o,h1,h2,_⟩:=p
  exact PySem.W.kia_one PySem.W.kitx_tuple I.kIn ⟨o,h1,h2⟩ e (fun z=>nomatch z) h
 |@dK a kvs ea=>
  cases (show u=Value.ref a from rx)
  obtain ⟨_,_,vs,_,p⟩:=(show ObjOk X.prog X.w H s.heap a (.dK kvs) from I.hok a _ ea)
  obtain ⟨o,es,ep,h1,h2,_⟩:=p
  exact PySem.W.kia_one PySem.W.kitx_dict I.kIn ⟨o,h1,h2.1⟩ e (fun z=>nomatch z) h
 |@dT a kvs ea=>
  cases (show u=Value.ref a from rx)
  obtain ⟨_,_,xs,_,o,es,ep,h1,h2,_⟩:=(show ObjOk X.prog X.w H s.heap a (.dT kvs) from I.hok a _ ea)
  exact PySem.W.kia_one PySem.W.kitx_dict I.kIn ⟨o,h1,h2.1⟩ e (fun z=>nomatch z) h
 |@ins a C dx fs ea cl ha hn htk hm=>
  cases (show u=Value.ref a from rx)
  obtain ⟨mA,O,_⟩:=zpo I.hok ea
  obtain ⟨od,J,_⟩:=O.look
  exact PySem.W.kia_one (PySem.W.kitx_own (cl.get _) cl.hd ha hn htk hm) I.kIn J e (fun z=>nomatch z) h
end
end L2
namespace L2
open PySem PySem.Spec PyProof.Rows
structure Room (k:Nat)(A:Around):Prop where
 hd:A.handled=none
 dp:A.depth+3*k+5<recursionLimit
 un:A.units+16*k+200<cLine
theorem Room.mono {j k:Nat}{A:Around}(r:Room k A)(h:j<=k):Room j A:=⟨r.hd,by have:=r.dp;omega,by have:=r.un;omega⟩
theorem Room.deeper {k:Nat}{A:Around}(r:Room (k+1) A)(env:Env):Room k (A.deeper env):=
 ⟨r.hd,by have:=r.dp;show A.depth+1+3*k+5<_;omega,by have:=r.un;show A.units+3+16*k+200<_;omega⟩
theorem zxn {A:Around}{C:Addr}{us:List Value}{kw:List (Str×Value)}:(A.under (.builtin "type.__call__" ⟨.ref C::us,kw⟩)).depth=A.depth+1:=by
 first|rfl|simp [Around.under,Code.weight,Code.isCreation,Code.isGuard,Code.isCaller,Code.frames,Code.isFrame,guardIds]
theorem zxm {A:Around}{C:Addr}{us:List Value}{kw:List (Str×Value)}:(A.under (.builtin "type.__call__" ⟨.ref C::us,kw⟩)).units=A.units+1:=by
 first|rfl|simp [Around.under,Code.cUnits,Code.frames,Code.isFrame]
theorem Room.make {k:Nat}{A:Around}(r:Room (k+1) A)(C:Addr)(us:List Value)(kw:List (Str×Value)):Room k (A.under (.builtin "type.__call__" ⟨.ref C::us,kw⟩)):=
 ⟨r.hd,by have:=r.dp;rw [zxn];omega,by have:=r.un;rw [zxm];omega⟩
theorem Room.depth {k:Nat}{A:Around}(r:Room k A):A.depth<recursionLimit:=by have:=r.dp;omega
theorem Room.units {k:Nat}{A:Around}(r:Room k A):A.units+64<cLine:=by have:=r.un;omega
def zev:TA:=fun _ H Q=>Q [] H
def zbp (ta:TE)(tr:TA):TA:=fun σ H Q=>ta σ H fun x H1=>tr σ H1 fun xs H2=>Q (x::xs) H2
section
variable {X:Cx}{e:Expr}{es:List Expr}{te:TE}{t:TA}{pos:Pos}
theorem zah:PA X [] zev:=fun _ _ _ _ H Q I h=>Calls.spliced_nil ⟨[],H,I,.nil,h⟩
theorem zab (ha:PE X e te)(hr:PA X es t)(hs:starEach (e::es) X.env=(false,eval e X.env)::starEach es X.env:=by rfl):PA X (e::es) (zbp te t):=by
 intro pos pins s σ H Q I h
 rw [hs]
 show wpAny _ _ (spliced ((false,eval e X.env)::backTo pos (starEach es X.env))) _ _ s
 refine Calls.spliced_cons (thn (ha pins s σ H _ I h) fun u s1 ⟨x,H1,I1,r1,q1⟩=>?_)
 exact thn (hr pos pins s1 σ H1 _ I1 q1) fun us s2 ⟨xs,H2,I2,r2,q2⟩=>⟨x::xs,H2,I2,.cons r1 r2,q2⟩
def tTup (t:TA):TE:=fun σ H Q=>t σ H fun xs H1=>xs.length<=sizeLine/\∀p,H1 p=none->Q (.ref p) (upd H1 p (.tup xs))
def tLst (t:TA):TE:=fun σ H Q=>t σ H fun xs H1=>xs.length<=sizeLine/\∀p,H1 p=none->Q (.ref p) (upd H1 p (.lst xs))
theorem zec {x1}(h:PA X es t):PE X (.Tuple es x1 pos) (tTup t):=by
 intro pins s σ H Q I hq
 refine wpAny_Tuple_spliced (thn (h pos pins s σ H _ I hq) fun us s1 ⟨xs,H1,I1,r,z,q⟩=>⟨by rw [<-r.length];exact z,?_⟩)
 have hf:H1 s1.heap.objs.size=none:=I1.hok.fresh (Nat.le_refl _)
 refine ⟨.ref s1.heap.objs.size,upd H1 s1.heap.objs.size (.tup xs),I1.laid (t':=s1.toks) (fun b u e=>Heap.get?_push_of_some _ e) (Nat.le_refl _) ?_,rfl,q _ hf⟩
 exact ⟨z,us,r,⟨_,Heap.get?_push_size _ rfl,rfl,_,rfl⟩⟩
theorem zdg (h:PA X es t):PE X (.List es pos) (tLst t):=by
 intro pins s σ H Q I hq
 refine wpAny_List_spliced (thn (h pos pins s σ H _ I hq) fun us s1 ⟨xs,H1,I1,r,z,q⟩=>⟨by rw [<-r.length];exact z,?_⟩)
 have hf:H1 s1.heap.objs.size=none:=I1.hok.fresh (Nat.le_refl _)
 refine ⟨.ref s1.heap.objs.size,upd H1 s1.heap.objs.size (.lst xs),I1.laid (t':=s1.toks) (fun b u e=>Heap.get?_push_of_some _ e) (Nat.le_refl _) ?_,rfl,q _ hf⟩
 exact ⟨z,us,0,r,Heap.get?_push_size _ rfl⟩
end
abbrev Sp:=List V->Hp->VK->XK->Prop
abbrev CXT:=List Env->Hp->Shared->XK->Value->Shared->Prop
structure Env0 (P:Program)(w:World)(K:PySem.W.Frag)(mg:Str->Option Value)(base:Heap)(A:Around)(outer:List Env)(s:Shared)(H:Hp):Prop where
 frames:A.frames=some outer
 mod:Mod K mg base
 bs:∀b o,base.get? b=some o->s.heap.get? b=some o/\H b=none
 bsz:base.objs.size<=s.heap.objs.size
 funs:s.heap.FunFrames base outer
 frf:∀b∈frs outer,H b=none
 hok:HOk P w H s.heap
 bare:AllBare s.gens
def CE (outer:List Env)(P:Program)(w:World)(H:Hp)(s:Shared)(Q:VK)(u:Value)(s':Shared):Prop:=
 ∃v H',s'.os=s.os/\AllBare s'.gens/\Un (frs outer) [] H H' s.heap s'.heap/\HOk P w H' s'.heap/\RelV v u/\Q v H'
def CR (CX:CXT)(outer:List Env)(P:Program)(w:World)(H:Hp)(s:Shared)(Q:VK)(E:XK)(r:Result)(s':Shared):Prop:=
 match r with
 |.ok (.ret u)=>CE outer P w H s Q u s'
 |.ok _=>False
 |.error e=>CX outer H s E e s'
structure FnOk (P:Program)(w:World)(K:PySem.W.Frag)(mg:Str->Option Value)(base:Heap)(CX:CXT)(k:Nat)(f:Addr)(fd:FuncData)(ps:List Str)(sp:Sp):Prop where
 len:∀vs H Q E,sp vs H Q E->vs.length=ps.length
 run:∀(A:Around) (outer:List Env) (s:Shared) (H:Hp) (args:Args) (us:List Value) (vs:List V) (Q:VK) (E:XK),Room k A->Env0 P w K mg base A outer s H->BindsTo s fd args (ps.zip us)->Vals vs us->sp vs H Q E->
  codeAny (model P w) A (.call (.ref f) args) (CR CX outer P w H s Q E) s
theorem FnOk.mono {P:Program}{w:World}{K:PySem.W.Frag}{mg:Str->Option Value}{base:Heap}{CX:CXT}{j k:Nat}{f:Addr}{fd:FuncData}{ps:List Str}{sp:Sp}(F:FnOk P w K mg base CX j f fd ps sp)(h:j<=k):
  FnOk P w K mg base CX k f fd ps sp:=⟨F.len,fun A outer s H args us vs Q E hr=>F.run A outer s H args us vs Q E (hr.mono h)⟩
theorem Env0.make {P:Program}{w:World}{K:PySem.W.Frag}{mg:Str->Option Value}{base:Heap}{A:Around}{outer:List Env}{s:Shared}{H:Hp}(e:Env0 P w K mg base A outer s H)(C:Addr)(us:List Value)(kw:List (Str×Value)):
  Env0 P w K mg base (A.under (.builtin "type.__call__" ⟨.ref C::us,kw⟩)) outer s H:=⟨by first|exact e.frames|(simpa [Around.under,Code.envs,Code.isFrame,pushEnvs] using e.frames),e.mod,e.bs,e.bsz,e.funs,e.frf,e.hok,e.bare⟩
section
variable {X:Cx}{pins:List (Addr×Obj)}{σ:St}{H:Hp}{s s':Shared}
theorem Inv.env0 (I:Inv X pins σ H s):Env0 X.prog X.w X.K X.mg X.base X.A X.stack s H:=
 ⟨I.ok.frames,I.ok.mod,I.bs,Nat.le_trans I.ok.bsz I.sz,I.stack,I.stkFree,I.hok,I.bare⟩
theorem Inv.after {Q:VK}{u:Value}(I:Inv X pins σ H s)(h:CE X.stack X.prog X.w H s Q u s'):EP X pins σ Q u s':=by
 obtain ⟨v,H',os,bare,un,hok,r,q⟩:=h
 obtain ⟨hh,g,d,t,os'⟩:=s'
 obtain rfl:os'=s.os:=os
 exact ⟨v,H',I.call (h':=hh) (g':=g) (d':=d) (t':=t) (ch:=[]) un hok bare (fun b z=>absurd z (by simp)),r,q⟩
end
def zks (sp:Sp)(dvs:List V)(E:XK)(t:TA):TE:=fun σ H Q=>t σ H fun vs H1=>sp (vs++dvs) H1 Q E
def zqo (C:Addr)(m:Str)(sp:Sp)(dvs:List V)(E:XK)(ta:TE)(t:TA):TE:=fun σ H Q=>ta σ H fun x H1=>∃a dx fs,x=.ref a/\H1 a=some (.ins C dx fs)/\fs.lookup m=none/\
 t σ H1 fun vs H2=>sp (x::(vs++dvs)) H2 Q E
def tMake (C:Addr)(sp:Sp)(dvs:List V)(E:XK)(t:TA):TE:=fun σ H Q=>t σ H fun vs H1=>∀x dx,H1 x=none->H1 dx=none->dx≠x->
 sp (.ref x::(vs++dvs)) (upd (upd H1 dx (.own x)) x (.ins C dx [])) (fun v H2=>v=.non/\Q (.ref x) H2) E
def Binds (K:PySem.W.Frag)(fd:FuncData)(ps:List Str)(ds:List Value):Prop:=
 ∀(s:Shared) (us:List Value),K.In s.heap->(us++ds).length=ps.length->BindsTo s fd ⟨us,[]⟩ (ps.zip (us++ds))
theorem Binds.all {K:PySem.W.Frag}{fd:FuncData}{ps:List Str}(h:∀us:List Value,us.length=ps.length->bindArgs fd ⟨us,[]⟩=pure (ps.zip us)):Binds K fd ps []:=fun s us _ hl=>by
 rw [append_nil] at hl⊢
 exact .of_eq (h us hl)
def zmw (CX:CXT)(X:Cx)(E:XK):Prop:=∀(pins:List (Addr×Obj)) (σ:St) (H:Hp) (s:Shared) (e:Value) (s':Shared),Inv X pins σ H s->CX X.stack H s E e s'->X.xe e s'
section
variable {X:Cx}{CX:CXT}{k:Nat}{f C:Addr}{fd:FuncData}{ps:List Str}{sp:Sp}{dvs:List V}{ds:List Value}{E:XK}{x m:Str}{p pos apos:Pos}{e o:Expr}{es:List Expr}{ta:TE}{t:TA}
theorem run_fn {pins:List (Addr×Obj)}{σ:St}{H:Hp}{s:Shared}{Q:VK}{us:List Value}{vs:List V}(F:FnOk X.prog X.w X.K X.mg X.base CX k f fd ps sp)(hr:Room k X.A)(hb:Binds X.K fd ps ds)(hd:Vals dvs ds)(hx:zmw CX X E)
  (I:Inv X pins σ H s) (r:Vals vs us) (h:sp (vs++dvs) H Q E):wpAny (model X.prog X.w) X.A (call (.ref f) us) (EP X pins σ Q) X.xe s:=by
 have r2:Vals (vs++dvs) (us++ds):=r.append hd
 have hl:(us++ds).length=ps.length:=by rw [<-r2.length];exact F.len _ _ _ _ h
 refine wpAny_call (codeAny_mono (F.run X.A X.stack s H ⟨us,[]⟩ (us++ds) (vs++dvs) Q E hr I.env0 (hb s us I.kIn hl) r2 h) fun r s' hq=>?_)
 cases r with
 |error e=>exact hx pins σ H s e s' I hq
 |ok fl=>
  cases fl with
  |ret u=>exact I.after hq
  |next=>exact False.elim hq
  |brk=>exact False.elim hq
  |cont=>exact False.elim hq
theorem pe_call (F:FnOk X.prog X.w X.K X.mg X.base CX k f fd ps sp)(hr:Room k X.A)(hg:Gl X x)(hm:X.mg x=some (.ref f))(hk:PySem.W.keepIn X.K (.ref f)=true)(hb:Binds X.K fd ps ds)(hd:Vals dvs ds)(hx:zmw CX X E)
  (ha:PA X (e::es) t) (hdb:(x==("__debug__":Str))=false:=by decide) (he:starEach (e::es) X.env=(false,eval e X.env)::starEach es X.env:=by rfl) (hpl:(backTo pos (starEach es X.env)).any (·.1)=false:=by rfl):
  PE X (.Call (.Name x p) (e::es) [] pos) (zks sp dvs E t):=by
 intro pins s σ H Q I h
 refine wpAny_Call_Name_kw (zuh I hg hm ?_ hdb)
 refine PySem.W.callWith_K (h₀:=X.base) I.ok.mod.kin hk (thn (ha pos pins s σ H _ I h) fun us s1 ⟨vs,H1,I1,r,q⟩=>⟨I1.kIn,?_⟩) he hpl
 exact run_fn F hr hb hd hx I1 r q
theorem pe_meth {pl:Sem Bool}(he:PE X o ta)(c:Cls X.K C)(hm:zle X.K C m f)(F:FnOk X.prog X.w X.K X.mg X.base CX k f fd ps sp)(hr:Room k X.A)(hb:Binds X.K fd ps ds)(hd:Vals dvs ds)(hx:zmw CX X E)(ha:PA X (e::es) t)
  (hst:starEach (e::es) X.env=(false,eval e X.env)::starEach es X.env:=by rfl) (hpl:(backTo pos (starEach es X.env)).any (·.1)=false:=by rfl)
  (ht:eval (.Call (.Attribute o m apos) (e::es) [] pos) X.env=(do
   let ov<-eval o X.env
   standAt apos.atName
   let (f,first)<-holding [ov] (getMethod ov m pl)
   callWith pos f first (backTo pos (starEach (e::es) X.env)) (backToKw pos (keywordEach [] X.env))):=by rfl):
  PE X (.Call (.Attribute o m apos) (e::es) [] pos) (zqo C m sp dvs E ta t):=by
 intro pins s σ H Q I h
 refine PySem.W.methodCall_KW (pl:=pl) (thn (he pins s σ H _ I h) fun u s1 ⟨x,H1,I1,rx,a,dx,fs,ex,ea,l,q⟩=>?_) ht
 subst ex
 obtain rfl:u=Value.ref a:=rx
 refine zoc I1 ea c hm l ?_
 refine PySem.W.callWith_K (first:=[.ref a]) (h₀:=X.base) I.ok.mod.kin hm.kp (thn (ha pos pins s1 σ H1 _ I1 q) fun us s2 ⟨vs,H2,I2,r,q2⟩=>⟨I2.kIn,?_⟩) hst hpl
 exact run_fn (us:=.ref a::us) (vs:=.ref a::vs) F hr hb hd hx I2 (.cons rfl r) q2
theorem pe_meth0 {pl:Sem Bool}(he:PE X o ta)(c:Cls X.K C)(hm:zle X.K C m f)(F:FnOk X.prog X.w X.K X.mg X.base CX k f fd ps sp)(hr:Room k X.A)(hb:Binds X.K fd ps ds)(hd:Vals dvs ds)(hx:zmw CX X E)
  (ht:eval (.Call (.Attribute o m apos) [] [] pos) X.env=(do
   let ov<-eval o X.env
   standAt apos.atName
   let (f,first)<-holding [ov] (getMethod ov m pl)
   callWith pos f first (backTo pos (starEach [] X.env)) (backToKw pos (keywordEach [] X.env))):=by rfl):
  PE X (.Call (.Attribute o m apos) [] [] pos) (zqo C m sp dvs E ta zev):=by
 intro pins s σ H Q I h
 refine PySem.W.methodCall_KW (pl:=pl) (thn (he pins s σ H _ I h) fun u s1 ⟨x,H1,I1,rx,a,dx,fs,ex,ea,l,q⟩=>?_) ht
 subst ex
 obtain rfl:u=Value.ref a:=rx
 refine zoc I1 ea c hm l ?_
 exact PySem.W.callWith_K0 (first:=[.ref a]) I1.kIn hm.kp (run_fn (us:=[.ref a]) (vs:=[.ref a]) F hr hb hd hx I1 (.cons rfl .nil) q)
structure Mk (K:PySem.W.Frag)(C f:Addr):Prop where
 makes:PySem.W.makesIn K C=true
 init:PySem.W.findIn K (.ref C) "__init__"=some (some (.ref f))
 fn:PySem.W.isFn K (.ref f)=true
 kp:PySem.W.keepIn K (.ref C)=true
theorem run_make {pins:List (Addr×Obj)}{σ:St}{H:Hp}{s:Shared}{Q:VK}{us:List Value}{vs:List V}(M:Mk X.K C f)(F:FnOk X.prog X.w X.K X.mg X.base CX k f fd ps sp)(hr:Room (k+1) X.A)(hb:Binds X.K fd ps ds)(hd:Vals dvs ds)
  (hx:zmw CX X E) (I:Inv X pins σ H s) (r:Vals vs us)
  (h:∀x dx,H x=none->H dx=none->dx≠x->sp (.ref x::(vs++dvs)) (upd (upd H dx (.own x)) x (.ins C dx [])) (fun v H2=>v=.non/\Q (.ref x) H2) E):
  wpAny (model X.prog X.w) X.A (call (.ref C) us) (EP X pins σ Q) X.xe s:=by
 have hq:=h (s.heap.objs.size+1) s.heap.objs.size (I.hok.fresh (Nat.le_succ _)) (I.hok.fresh (Nat.le_refl _)) (Nat.ne_of_lt (Nat.lt_succ_self _))
 have I2:=Inv.made (C:=C) I
 have r2:Vals (V.ref (s.heap.objs.size+1)::(vs++dvs)) (Value.ref (s.heap.objs.size+1)::(us++ds)):=.cons rfl (r.append hd)
 have hl:(Value.ref (s.heap.objs.size+1)::us++ds).length=ps.length:=by
  have e:=r2.length
  rw [F.len _ _ _ _ hq] at e
  exact e.symm
 refine wpAny_call (make_map (f:=f) I.kIn M.makes M.init (beq_iff_eq.mp M.fn) (codeAny_mono (F.run _ X.stack _ _ ⟨Value.ref (s.heap.objs.size+1)::us,[]⟩ (Value.ref (s.heap.objs.size+1)::(us++ds)) _ _ E (hr.make C us [])
  (I2.env0.make C us []) (hb _ (Value.ref (s.heap.objs.size+1)::us) I2.kIn hl) r2 hq) fun r s' hq'=>?_))
 cases r with
 |error e=>exact hx pins σ _ _ e s' I2 hq'
 |ok fl=>
  cases fl with
  |ret u=>
   obtain ⟨v,H',I3,rv,ev,q3⟩:=I2.after hq'
   subst ev
   exact ⟨rv,⟨V.ref (s.heap.objs.size+1),H',I3,rfl,q3⟩⟩
  |next=>exact False.elim hq'
  |brk=>exact False.elim hq'
  |cont=>exact False.elim hq'
theorem pe_make (M:Mk X.K C f)(F:FnOk X.prog X.w X.K X.mg X.base CX k f fd ps sp)(hr:Room (k+1) X.A)(hg:Gl X x)(hm:X.mg x=some (.ref C))(hb:Binds X.K fd ps ds)(hd:Vals dvs ds)(hx:zmw CX X E)
  (ha:PA X (e::es) t) (hdb:(x==("__debug__":Str))=false:=by decide) (he:starEach (e::es) X.env=(false,eval e X.env)::starEach es X.env:=by rfl) (hpl:(backTo pos (starEach es X.env)).any (·.1)=false:=by rfl):
  PE X (.Call (.Name x p) (e::es) [] pos) (tMake C sp dvs E t):=by
 intro pins s σ H Q I h
 refine wpAny_Call_Name_kw (zuh I hg hm ?_ hdb)
 refine PySem.W.callWith_K (h₀:=X.base) I.ok.mod.kin M.kp (thn (ha pos pins s σ H _ I h) fun us s1 ⟨vs,H1,I1,r,q⟩=>⟨I1.kIn,?_⟩) he hpl
 exact run_make M F hr hb hd hx I1 r q
end
def PK (X:Cx)(kws:List Keyword)(t:TA):Prop:=
 ∀(pos:Pos) (pins:List (Addr×Obj)) (s:Shared) (σ:St) (H:Hp) (Q:List V->Hp->Prop),Inv X pins σ H s->t σ H Q->wpAny (model X.prog X.w) X.A (evalAll ((backToKw pos (keywordEach kws X.env)).map (·.2))) (AP X pins σ Q) X.xe s
section
variable {X:Cx}{CX:CXT}{k:Nat}{f C:Addr}{fd:FuncData}{ps ks:List Str}{sp:Sp}{E:XK}{x m:Str}{p pos apos kpos:Pos}{e o:Expr}{es:List Expr}{kws:List Keyword}{te ta:TE}{t tk:TA}{nm:Option Str}
theorem pk_nil:PK X [] zev:=fun _ _ _ _ H Q I h=>wpAny_evalAll_nil ⟨[],H,I,.nil,h⟩
theorem pk_cons (ha:PE X e te)(hr:PK X kws t):PK X (⟨nm,e,kpos⟩::kws) (zbp te t):=by
 intro pos pins s σ H Q I h
 show wpAny _ _ (evalAll ((do let v<-eval e X.env;standAt pos;pure v)::(backToKw pos (keywordEach kws X.env)).map (·.2))) _ _ s
 refine wpAny_evalAll_cons (wpAny_bind (thn (ha pins s σ H _ I h) fun u s1 ⟨x,H1,I1,r1,q1⟩=>wpAny_bind (wpAny_standAt (wpAny_pure ?_))))
 exact thn (hr pos pins s1 σ H1 _ I1 q1) fun us s2 ⟨xs,H2,I2,r2,q2⟩=>⟨x::xs,H2,I2,.cons r1 r2,q2⟩
variable {g:List Value->List Value->List Value}{gV:List V->List V->List V}
end
structure zbd (N P:List Str)(sc:Scope):Prop where
 kind:sc.kind=.function
 co:sc.isCoroutine=false
 gen:sc.isGenerator=false
 nd:N.Nodup
 pre:N.take P.length=P
 par:∀x∈P,sc.names.lookup x=some .local\/sc.names.lookup x=some .cell
 nofree:∀y∈sc.names,y.2≠.free
theorem zsx {kindOf:Str->Option NameKind}{x:Str}:∀{binds:List (Str×Value)} {m:Str->Option Value},(∀v,(x,v)∉binds)->bindL kindOf binds m x=m x
 |[],_,_=>rfl
 |(n,v)::r,m,h=>by
  unfold bindL
  rw [zsx fun w hw=>h w (mem_cons_of_mem _ hw)]
  split
  ·have:x≠n:=by rintro rfl;exact h v mem_cons_self
   simp [this]
  ·rfl
theorem zsz {kindOf:Str->Option NameKind}{x:Str}:∀{binds:List (Str×Value)} {m:Str->Option Value},(∀v,(x,v)∉binds)->bindC kindOf binds m x=m x
 |[],_,_=>rfl
 |(n,v)::r,m,h=>by
  unfold bindC
  rw [zsz fun w hw=>h w (mem_cons_of_mem _ hw)]
  split
  ·rfl
  ·have:x≠n:=by rintro rfl;exact h v mem_cons_self
   simp [this]
theorem zsy {kindOf:Str->Option NameKind}{x:Str}{v:Value}:∀{P:List Str} {vs:List Value} {i:Nat} {m:Str->Option Value},P.Nodup->P[i]?=some x->vs[i]?=some v->kindOf x=some .local->
  bindL kindOf (P.zip vs) m x=some v
 |[],_,_,_,_,h,_,_=>by simp at h
 |_::_,[],_,_,_,_,h,_=>by simp at h
 |p::P,w::vs,0,m,nd,h1,h2,hk=>by
  simp at h1 h2;subst h1;subst h2
  show bindL kindOf ((p,w)::P.zip vs) m p=_
  unfold bindL
  rw [zsx fun v hv=>(nodup_cons.mp nd).1 (List.of_mem_zip hv).1,if_pos hk]
  simp
 |p::P,w::vs,i+1,m,nd,h1,h2,hk=>by
  show bindL kindOf ((p,w)::P.zip vs) m x=_
  unfold bindL
  exact zsy (i:=i) (nodup_cons.mp nd).2 (by simpa using h1) (by simpa using h2) hk
theorem zt9 {kindOf:Str->Option NameKind}{x:Str}{v:Value}:∀{P:List Str} {vs:List Value} {i:Nat} {m:Str->Option Value},P.Nodup->P[i]?=some x->vs[i]?=some v->kindOf x≠some .local->
  bindC kindOf (P.zip vs) m x=some v
 |[],_,_,_,_,h,_,_=>by simp at h
 |_::_,[],_,_,_,_,h,_=>by simp at h
 |p::P,w::vs,0,m,nd,h1,h2,hk=>by
  simp at h1 h2;subst h1;subst h2
  show bindC kindOf ((p,w)::P.zip vs) m p=_
  unfold bindC
  rw [zsz fun v hv=>(nodup_cons.mp nd).1 (List.of_mem_zip hv).1,if_neg hk]
  simp
 |p::P,w::vs,i+1,m,nd,h1,h2,hk=>by
  show bindC kindOf ((p,w)::P.zip vs) m x=_
  unfold bindC
  exact zt9 (i:=i) (nodup_cons.mp nd).2 (by simpa using h1) (by simpa using h2) hk
def start (N:List Str)(vs:List V):St:=vs.map some++List.replicate (N.length-vs.length) none
def cxOf (CX:CXT)(P:Program)(w:World)(K:PySem.W.Frag)(mg:Str->Option Value)(base:Heap)(N:List Str)(qual:Str)(scope:Scope)(f:Addr)(cd:Value)(A:Around)(outer:List Env)(s:Shared)(H:Hp)(E:XK):Cx where
 prog:=P
 w:=w
 K:=K
 mg:=mg
 base:=base
 A:=A.deeper (envOfC qual scope s.heap.objs.size f cd)
 N:=N
 s₀:=s
 H₀:=H
 env:=envOfC qual scope s.heap.objs.size f cd
 outer:=outer
 stack:=envOfC qual scope s.heap.objs.size f cd::outer
 ex:=[]
 calm:=true
 fn:=fun _=>true
 pn:=[]
 xe:=fun e s'=>wpAny (model P w) (A.deeper (envOfC qual scope s.heap.objs.size f cd)) (leaving (envOfC qual scope s.heap.objs.size f cd) e) (fun _ s''=>CX outer H s E e s'') (fun e' s''=>CX outer H s E e' s'') s'
theorem zwh {sc:Scope}{n:Nat}{x:Str}(h:sc.names.lookup x=some .cell):∃c,(cellsFrom n sc.names []).lookup x=some c:=by
 have q:=PySem.W.cellsFrom_some sc.names n [] (.inl h)
 exact Option.isSome_iff_exists.mp q
theorem inv_start {CX:CXT}{P:Program}{w:World}{K:PySem.W.Frag}{mg:Str->Option Value}{base:Heap}{N ps:List Str}{qual:Str}{scope:Scope}{f:Addr}{cd:Value}{A:Around}{outer:List Env}{s s1:Shared}{H:Hp}{E:XK}{us:List Value}{vs:List V}
  (S:zbd N ps scope) (hd:A.handled=none) (e0:Env0 P w K mg base A outer s H) (hl:vs.length=ps.length) (r:Vals vs us)
  (x:InCallC s s.heap.objs.size (bindL (envOfC qual scope s.heap.objs.size f cd).kindOf (ps.zip us) fun _=>none) (cellsFrom (s.heap.objs.size+1) scope.names []) (bindC (envOfC qual scope s.heap.objs.size f cd).kindOf (ps.zip us) fun _=>none) s1):
  Inv (cxOf CX P w K mg base N qual scope f cd A outer s H E) [] (start N vs) H s1:=by
 have hpl:ps.length<=N.length:=by have:=congrArg List.length S.pre;rw [length_take] at this;omega
 obtain ⟨h1,tk,rfl,hk⟩:=x.done
 have noA:∀b:Addr,b∉(cxOf CX P w K mg base N qual scope f cd A outer s H E).ex:=fun b z=>absurd (show b∈([]:List Addr) from z) (by simp)
 refine ⟨⟨e0.mod,S.kind,rfl,rfl,Nat.le_refl _,fun y z c h1 h2=>?_,fun y hy=>?_,fun y c _ h=>?_,fun _=>hd,Around.frames_deeper e0.frames,.inr ⟨rfl,rfl⟩,fun b z=>absurd z (noA b),e0.bs,e0.bsz,fun b _ _=>noA b,fun b z=>absurd z (noA b),e0.funs,e0.frf⟩,
  rfl,e0.bare,Un.kept hk,⟨_,x.toInCall.ns,fun i y v h1 h2 h3=>?_⟩,fun y c h=>⟨_,x.cell y c h⟩,e0.hok.fresh (Nat.le_refl _),fun y c h=>?_,fun p hp=>absurd (show p∈([]:List (Addr×Obj)) from hp) (by simp),e0.hok.kept hk,?_⟩
 ·exact name_of_addr x.apart (PySem.mem_of_lookup h1) (PySem.mem_of_lookup h2)
 ·have hy:scope.names.lookup y=some .cell\/scope.names.lookup y=some .free:=hy
  rcases hy with hy|hy
  ·exact zwh hy
  ·exact absurd rfl (S.nofree _ (PySem.mem_of_lookup hy))
 ·exact Nat.le_of_lt (x.above y c (PySem.mem_of_lookup h))
 ·have hi:i<vs.length:=by
   unfold start at h2
   by_cases hi:i<vs.length
   ·exact hi
   ·rw [getElem?_append_right (by simpa using hi)] at h2
    rw [List.getElem?_replicate] at h2
    split at h2<;>cases h2
  have ha:vs[i]?=some v:=by
   unfold start at h2
   rw [getElem?_append_left (by simpa using hi),getElem?_map] at h2
   cases e:vs[i]? with
   |none=>rw [e] at h2;cases h2
   |some a=>rw [e] at h2;cases h2;rfl
  obtain ⟨u,hu,rv⟩:=r.get ha
  have hp:ps[i]?=some y:=by
   rw [<-S.pre,List.getElem?_take_of_lt (by omega)];exact h1
  have ndP:ps.Nodup:=by rw [<-S.pre];exact S.nd.sublist (List.take_sublist _ _)
  refine ⟨u,rv,?_⟩
  rcases S.par y (mem_of_getElem? hp) with k|k
  ·exact .inl ⟨k,zsy ndP hp hu k⟩
  ·obtain ⟨c,e⟩:=zwh (n:=s.heap.objs.size+1) k
   refine .inr ⟨.inl k,c,e,?_⟩
   have q:=x.cell y c e
   rw [zt9 ndP hp hu (by show scope.names.lookup y≠_;rw [k];decide)] at q
   exact q
 ·exact e0.hok.fresh (Nat.le_of_lt (x.above y c (PySem.mem_of_lookup h)))
 ·unfold start
  show _=N.length
  rw [length_append,length_map,List.length_replicate]
  omega
theorem fn_of {CX:CXT}{P:Program}{w:World}{K:PySem.W.Frag}{mg:Str->Option Value}{base:Heap}{k:Nat}{f:Addr}{name qual:Str}{params:Arguments}{body:List Stmt}{scope:Scope}{dV kV doc pm cdv ct oc:Value}{an od:Option Addr}
  {osl:Array (Option Value)} {N ps:List Str} {sp:Sp} (lk:K.lookup f=some ⟨oc,od,.func (PySem.W.fnOf name qual params body scope dV kV doc pm an cdv ct),osl⟩) (hcd:PySem.W.codeIn K cdv qual=true) (S:zbd N ps scope)
  (len:∀vs H Q E,sp vs H Q E->vs.length=ps.length)
  (hbody:∀(A:Around) (outer:List Env) (s:Shared) (H:Hp) (vs:List V) (Q:VK) (E:XK),Room k (A.deeper (envOfC qual scope s.heap.objs.size f cdv))->sp vs H Q E->
   ∃t,PSs (cxOf CX P w K mg base N qual scope f cdv A outer s H E) body t/\t {nx:=fun _ H'=>Q .non H',rt:=Q} (start N vs) H):
  FnOk P w K mg base CX (k+1) f (PySem.W.fnOf name qual params body scope dV kV doc pm an cdv ct) ps sp:=by
 refine ⟨len,fun A outer s H args us vs Q E hr e0 hb r hsp=>?_⟩
 have hl:=len _ _ _ _ hsp
 have KX:K.In s.heap:=e0.mod.kin.keeps fun b o e=>(e0.bs b o e).1
 have lim:s.heap.NoLimit:=e0.mod.nolimit.keeps fun b o e=>(e0.bs b o e).1
 have hkind:∀y∈ps.zip us,scope.names.lookup y.1=some .local\/(scope.names.lookup y.1=some .cell/\((cellsFrom (s.heap.objs.size+1) scope.names []).lookup y.1).isSome=true):=fun ⟨n,v⟩ hy=>by
  rcases S.par n (List.of_mem_zip hy).1 with q|q
  ·exact .inl q
  ·exact .inr ⟨q,PySem.W.cellsFrom_some _ _ _ (.inl q)⟩
 refine codeAny_call_function hr.depth (KX _ _ lk) rfl S.co S.gen rfl (PySem.W.codeRec_of KX hcd) (hb _ _ _ _ ?_)
 refine wpAny_newFunctionEnv_cells S.kind hkind fun env he s1 x=>?_
 subst he
 refine ⟨lim.keeps x.toInCall.keep,codeAny_func ?_⟩
 obtain ⟨t,ht,hq⟩:=hbody A outer s H vs Q E (hr.deeper _) hsp
 have I:Inv (cxOf CX P w K mg base N qual scope f cdv A outer s H E) [] (start N vs) H s1:=inv_start S hr.hd e0 hl r x
 refine wpAny_mono (ht [] s1 (start N vs) H _ I hq) (fun fl s' hs=>?_) fun e s' hs=>hs
 have fin:∀{σ':St} {H':Hp} {v:V} {u:Value},Inv (cxOf CX P w K mg base N qual scope f cdv A outer s H E) [] σ' H' s'->RelV v u->Q v H'->CE outer P w H s Q u s':=
  fun {σ' H' v u} J rv q=>⟨v,H',J.os,J.bare,J.base,J.hok,rv,q⟩
 cases fl with
 |ret u=>
  obtain ⟨v,σ',H',J,rv,q⟩:=hs
  exact fin J rv q
 |next=>
  obtain ⟨σ',H',J,q⟩:=hs
  exact fin (v:=V.non) (u:=Value.none) J rfl q
 |brk=>
  obtain ⟨_,_,_,q⟩:=hs
  exact False.elim q
 |cont=>
  obtain ⟨_,_,_,q⟩:=hs
  exact False.elim q
end L2
namespace L2
open PySem PySem.Spec PyProof.Rows
section
variable {X:Cx}{x:Str}{p pos:Pos}{e:Expr}{es:List Expr}{t:TA}{id T:String}{r:List V->Hp->VK->Prop}
def tCB (r:List V->Hp->VK->Prop)(t:TA):TE:=fun σ H Q=>t σ H fun vs H1=>r vs H1 Q
theorem zln (hc:zmy X (.builtin id) r)(hg:Gl X x)(hm:X.mg x=none)(hv:bootBuiltins x=some (.builtin id))(ha:PA X (e::es) t)(hn:x≠"__name__":=by decide)(hdb:(x==("__debug__":Str))=false:=by decide)
  (he:starEach (e::es) X.env=(false,eval e X.env)::starEach es X.env:=by rfl) (hpl:(backTo pos (starEach es X.env)).any (·.1)=false:=by rfl):PE X (.Call (.Name x p) (e::es) [] pos) (tCB r t):=by
 intro pins s σ H Q I h
 refine wpAny_Call_Name_kw (zjo I hg hm hv ?_ hn hdb)
 exact PyProof.Rows.callWith_builtin1 (thn (ha pos pins s σ H _ I h) fun us s1 ⟨vs,H1,I1,r1,q1⟩=>hc pins s1 σ H1 vs us Q I1 r1 q1) he hpl
theorem zhz (hc:zmy X (.type T) r)(hg:Gl X x)(hm:X.mg x=none)(hv:bootBuiltins x=some (.type T))(ha:PA X (e::es) t)(hn:x≠"__name__":=by decide)(hdb:(x==("__debug__":Str))=false:=by decide)
  (he:starEach (e::es) X.env=(false,eval e X.env)::starEach es X.env:=by rfl) (hpl:(backTo pos (starEach es X.env)).any (·.1)=false:=by rfl):PE X (.Call (.Name x p) (e::es) [] pos) (tCB r t):=by
 intro pins s σ H Q I h
 refine wpAny_Call_Name_kw (zjo I hg hm hv ?_ hn hdb)
 exact PyProof.Rows.callWith_type1 (thn (ha pos pins s σ H _ I h) fun us s1 ⟨vs,H1,I1,r1,q1⟩=>hc pins s1 σ H1 vs us Q I1 r1 q1) he hpl
end
end L2
namespace HT
open PySem PyProof.Rows
section
open PySem.SeqAt
open PySem.AutoSeq1 (wpAny_loadPart')
open PySem.MeetsSeq PySem.MeetsSeq2 PySem.MeetsSeq3
end
section
variable {prog:Program}{w:World}{A:Around}{E:Value->Shared->Prop}{s:Shared}
theorem cat_tup {t b:Addr}{vs ws:List Value}{Q:Value->Shared->Prop}(ht:IsTup s.heap t vs.toArray)(hb:IsTup s.heap b ws.toArray)(hv:vs≠[])
  (h1:ws=[]->Q (.ref t) s) (h2:ws≠[]->Q (.ref s.heap.objs.size) {s with heap:=s.heap.push {cls:=.type "tuple",data:=.seq (vs++ws).toArray}})
  (hsz:vs.length+ws.length<=sizeLine):wpAny (model prog w) A (binaryOp .Add (.ref t) (.ref b)) Q E s:=by
 obtain ⟨⟨cls,dd,data,sl⟩,ho,hc,n,hd⟩:=id ht
 obtain ⟨⟨cls2,dd2,data2,sl2⟩,ho2,hc2,n2,hd2⟩:=id hb
 simp only at hc hd hc2 hd2
 subst hc hd hc2 hd2
 have e:vs.toArray++ws.toArray=(vs++ws).toArray:=by simp
 by_cases hw:ws=[]
 ·exact concat_meets ⟨_,ho,rfl⟩ ⟨_,ho2,rfl⟩ noFill_tuple_add seq_tuple_add PySem.F.slot_tuple_add PySem.F.entry_tuple_add (PySem.F.args_tuple_add_2 _ _)
   (tuple_addW1 t b vs.toArray ws.toArray n n2 dd dd2 sl sl2 (by simpa using hv) (by simp [hw])) ⟨ho,ho2,h1 hw⟩
 ·refine concat_meets ⟨_,ho,rfl⟩ ⟨_,ho2,rfl⟩ noFill_tuple_add seq_tuple_add PySem.F.slot_tuple_add PySem.F.entry_tuple_add (PySem.F.args_tuple_add_2 _ _)
   (tuple_addW2 t b vs.toArray ws.toArray n n2 dd dd2 sl sl2 (by simpa using hv) (by simpa using hw) (by rw [List.size_toArray,List.size_toArray];exact hsz)) ⟨ho,ho2,?_⟩
  rw [e]
  exact h2 hw
def sIx (n d:Nat):Option Int->Nat
 |none=>d
 |some v=>if v<0 then (v+(n:Int)).toNat else min v.toNat n
theorem sIx_none (n d:Nat):sIx n d none=d:=rfl
theorem sIx_nat (n d k:Nat):sIx n d (some (k:Int))=min k n:=by
 show (if (k:Int)<0 then ((k:Int)+(n:Int)).toNat else min (k:Int).toNat n)=min k n
 rw [if_neg (by omega),Int.toNat_natCast]
theorem sIx_le (n d:Nat)(hd:d<=n)(o:Option Int):sIx n d o<=n:=by
 cases o with
 |none=>exact hd
 |some v=>
  show (if v<0 then (v+(n:Int)).toNat else min v.toNat n)<=n
  by_cases hv:v<0
  ·rw [if_pos hv];omega
  ·rw [if_neg hv];exact Nat.min_le_right _ _
theorem clip_eq (v:Int)(n d:Nat):(if v<0 then max (v+(n:Int)) 0 else min v (n:Int))=((sIx n d (some v):Nat):Int):=by
 show (if v<0 then max (v+(n:Int)) 0 else min v (n:Int))=(((if v<0 then (v+(n:Int)).toNat else min v.toNat n):Nat):Int)
 by_cases hv:v<0
 ·simp only [if_pos hv];omega
 ·simp only [if_neg hv];omega
theorem zyi (lo hi:Option Int)(n:Nat):Builtin.Slice.sliceAdjust lo hi 1 (n:Int)=(((sIx n 0 lo:Nat):Int),((sIx n n hi:Nat):Int)):=by
 have h1:¬((1:Int)<0):=by omega
 unfold Builtin.Slice.sliceAdjust
 simp only [h1,if_false]
 refine Prod.ext ?_ ?_
 ·cases lo with
  |none=>rfl
  |some v=>exact clip_eq v n 0
 ·cases hi with
  |none=>rfl
  |some v=>exact clip_eq v n n
theorem zxc (i j:Nat):Builtin.Slice.slicePlaces (i:Int) (j:Int) 1=j-i:=by
 unfold Builtin.Slice.slicePlaces
 have h1:(1:Int)>0:=by omega
 simp only [h1,if_true,Int.ediv_one]
 split<;>omega
theorem znr {v:Value}{o:Option Int}{Q:Option Int->Shared->Prop}(p:IsPart v o)(h:Q o s):wpAny (model prog w) A (Builtin.Slice.slicePartIndex v) Q E s:=by
 cases p with
 |none=>exact slicePart_none h
 |int i t=>exact slicePart_int h
theorem zkt {sl:Addr}{vl vu:Value}{lo hi:Option Int}{n:Nat}{Q:Int×Int×Nat->Shared->Prop}(hs:s.heap.IsSliceOf sl vl vu .none)(pl:IsPart vl lo)(pu:IsPart vu hi)
  (h:Q (((sIx n 0 lo:Nat):Int),1,sIx n n hi-sIx n 0 lo) s):wpAny (model prog w) A (Builtin.Slice.sliceApplied (.ref sl) (pure (n:Int))) Q E s:=by
 obtain ⟨os,hos,hcs,hds⟩:=id hs
 unfold Builtin.Slice.sliceApplied Builtin.Slice.sliceFields
 refine wpAny_bind (wpAny_bind (wpAny_field hos hds (x:=vl) rfl (wpAny_bind (wpAny_field hos hds (x:=vu) rfl (wpAny_bind (wpAny_field hos hds (x:=.none) rfl (wpAny_pure ?_)))))))
 refine wpAny_bind (slicePart_none ?_)
 show wpAny _ _ (if ((1:Int)==0)=true then _ else _) _ _ s
 rw [if_neg (by decide)]
 refine wpAny_bind (znr pl (wpAny_bind (znr pu (wpAny_bind (wpAny_pure ?_)))))
 show wpAny _ _ (match Builtin.Slice.sliceAdjust lo hi 1 (n:Int) with|(lo,hi)=>pure (lo,(1:Int),Builtin.Slice.slicePlaces lo hi 1)) _ _ s
 rw [zyi lo hi n]
 show wpAny _ _ (pure (((sIx n 0 lo:Nat):Int),(1:Int),Builtin.Slice.slicePlaces ((sIx n 0 lo:Nat):Int) ((sIx n n hi:Nat):Int) 1)) _ _ s
 rw [zxc]
 exact wpAny_pure h
theorem pick_gen (xs:Array Value)(i k:Nat):((List.range k).filterMap fun (m:Nat)=>xs[((i:Int)+(m:Int)*1).toNat]?).toArray=((xs.toList.drop i).take k).toArray:=by
 have e:(fun (m:Nat)=>xs[((i:Int)+(m:Int)*1).toNat]?)=fun m=>xs[i+m]?:=by
  funext m
  have:((i:Int)+(m:Int)*1).toNat=i+m:=by omega
  rw [this]
 rw [e]
 have:=pick_run xs i k
 rw [List.filterMap_map] at this
 have e2:((fun x=>xs[x]?)∘fun x=>i+x)=fun m=>xs[i+m]?:=rfl
 rw [e2] at this
 rw [this]
theorem getItem_tuple_cut {t sl:Addr}{items:Array Value}{vl vu:Value}{lo hi:Option Int}{Q:Value->Shared->Prop}(ht:IsTup s.heap t items)(hs:s.heap.IsSliceOf sl vl vu .none)(pl:IsPart vl lo)(pu:IsPart vu hi)
  (hw:¬(sIx items.size 0 lo=0/\sIx items.size items.size hi=items.size))
  (h:Q (.ref s.heap.objs.size) {s with heap:=s.heap.push {cls:=.type "tuple",data:=.seq ((items.toList.drop (sIx items.size 0 lo)).take (sIx items.size items.size hi-sIx items.size 0 lo)).toArray}})
  (hsz:items.size<=sizeLine):wpAny (model prog w) A (getItem (.ref t) (.ref sl)) Q E s:=by
 have htake:sizeOk (.seq ((items.toList.drop (sIx items.size 0 lo)).take (sIx items.size items.size hi-sIx items.size 0 lo)).toArray):=by
  show ((items.toList.drop (sIx items.size 0 lo)).take (sIx items.size items.size hi-sIx items.size 0 lo)).toArray.size<=sizeLine
  rw [List.size_toArray,length_take,List.length_drop,Array.length_toList]
  omega
 have hj:sIx items.size items.size hi<=items.size:=sIx_le _ _ (Nat.le_refl _) hi
 obtain ⟨os,hos,hcs,hds⟩:=id hs
 have hTs:s.TypeIs (.ref sl) "slice":=⟨os,hos,hcs⟩
 unfold getItem
 try with_reducible refine wpAny_holding ?_
 first|refine wpAny_bind (wpAny_pure ?_)|skip
 refine wpAny_bind (wpAny_sequenceKey ht.typeIs (by decide) ?_)
 refine wpAny_bind (wpAny_callSpecial?_slot (name:=Str.ofString "__getitem__") ht.typeIs PyProof.Rows.slot_tuple_getitem
  (wpAny_call_entry PyProof.Rows.slot_tuple_getitem ht.typeIs entry_tuple_getitem ?_ (args_tuple_getitem _ _)))
 show wpAny _ _ (Builtin.Tuple.tupleItemsOf (.ref t)>>=_) _ _ s
 refine wpAny_bind (tupleItemsOf_ ht ?_)
 refine wpAny_bind (wpAny_typeOf hTs ?_)
 rw [if_pos (by decide)]
 refine wpAny_bind (zkt hs pl pu ?_)
 have hno:¬((((sIx items.size 0 lo:Nat):Int)==0&&(1:Int)==1&&(sIx items.size items.size hi-sIx items.size 0 lo)==items.size)=true):=by
  intro q
  rw [Bool.and_eq_true,Bool.and_eq_true] at q
  have q1:((sIx items.size 0 lo:Nat):Int)=0:=eq_of_beq q.1.1
  have q2:sIx items.size items.size hi-sIx items.size 0 lo=items.size:=eq_of_beq q.2
  exact hw ⟨by omega,by omega⟩
 show wpAny _ _ (if (((sIx items.size 0 lo:Nat):Int)==0&&(1:Int)==1&&(sIx items.size items.size hi-sIx items.size 0 lo)==items.size)=true then _ else _) _ _ s
 rw [if_neg hno,pick_gen]
 first
  |exact wpAny_bind (m:=Builtin.Tuple.tupleExact _) (wpAny_newObj_type (wpAny_pure ⟨_,rfl,wpAny_pure h⟩) htake)
  |exact wpAny_bind (m:=Builtin.Tuple.tupleExact _) (wpAny_newObj_type (wpAny_bind (wpAny_pure (wpAny_pure ⟨_,rfl,wpAny_pure h⟩))) htake)
  |exact wpAny_bind (wpAny_bind (m:=Builtin.Tuple.tupleExact _) (wpAny_newObj_type (wpAny_pure (wpAny_pure ⟨_,rfl,wpAny_pure h⟩)) htake))
  |exact wpAny_bind (wpAny_bind (m:=Builtin.Tuple.tupleExact _) (wpAny_newObj_type (wpAny_pure ⟨_,rfl,wpAny_pure h⟩) htake))
end
end HT
namespace L2
open PySem PySem.Spec PyProof.Rows
abbrev TO:=St->Hp->(Option Int->Hp->Prop)->Prop
def PO (X:Cx)(e:Option Expr)(t:TO):Prop:=
 ∀(pins:List (Addr×Obj)) (s:Shared) (σ:St) (H:Hp) (Q:Option Int->Hp->Prop),Inv X pins σ H s->t σ H Q->
  wpAny (model X.prog X.w) X.A (evalPart e X.env) (fun u s'=>∃o H',Inv X pins σ H' s'/\IsPart u o/\Q o H') X.xe s
def ztf:TO:=fun _ H Q=>Q none H
def tPart (t:TE):TO:=fun σ H Q=>t σ H fun x H1=>∃i,x=.int i/\Q (some i) H1
section
variable {X:Cx}{e:Expr}{te:TE}{lo hi:Option Expr}{tl th:TO}{pos p2:Pos}
theorem zp9:PO X none ztf:=by
 intro pins s σ H Q I h
 rw [evalPart_none]
 exact wpAny_pure ⟨none,H,I,.none,h⟩
theorem zoz (h:PE X e te):PO X (some e) (tPart te):=by
 intro pins s σ H Q I hw
 rw [evalPart_some]
 refine thn (h pins s σ H _ I hw) fun u s1 ⟨x,H1,I1,r1,q1⟩=>?_
 obtain ⟨i,rfl,q⟩:=q1
 obtain ⟨t,rfl⟩:=r1
 exact ⟨some i,H1,I1,.int i t,q⟩
def SlR (X:Cx)(r:V->Option Int->Option Int->Hp->VK->Prop):Prop:=
 ∀(pins:List (Addr×Obj)) (s:Shared) (σ:St) (H:Hp) (x:V) (v vl vu:Value) (lo hi:Option Int) (sl:Addr) (Q:VK),Inv X pins σ H s->RelV x v->s.heap.IsSliceOf sl vl vu .none->IsPart vl lo->IsPart vu hi->r x lo hi H Q->
  ∃T id,typeLookup (.type T) "__getitem__"=pure (some (.builtin id))/\s.TypeIs v T/\wpAny (model X.prog X.w) X.A (getItem v (.ref sl)) (EP X pins σ Q) X.xe s
def tSl (r:V->Option Int->Option Int->Hp->VK->Prop)(te:TE)(tl th:TO):TE:=fun σ H Q=>te σ H fun x H1=>tl σ H1 fun l H2=>th σ H2 fun u H3=>r x l u H3 Q
theorem zlk {r:V->Option Int->Option Int->Hp->VK->Prop}(hr:SlR X r)(he:PE X e te)(hl:PO X lo tl)(hu:PO X hi th):PE X (.Subscript e (.Slice lo hi none p2) pos) (tSl r te tl th):=by
 intro pins s σ H Q I h
 refine Subscript_ (thn (he pins s σ H _ I h) fun v s1 ⟨x,H1,I1,r1,q1⟩=>?_)
 refine wpAny_Slice (thn (hl pins s1 σ H1 _ I1 q1) fun vl s2 ⟨l,H2,I2,pl,q2⟩=>thn (hu pins s2 σ H2 _ I2 q2) fun vu s3 ⟨u,H3,I3,pu,q3⟩=>?_)
 rw [evalPart_none]
 refine wpAny_pure ?_
 have I4:Inv X pins σ H3 {s3 with heap:=s3.heap.push {cls:=.type "slice",data:=.fields #[vl,vu,.none]}}:=I3.kept (t':=s3.toks) fun b ob q=>Heap.get?_push_of_some _ q
 obtain ⟨T,id,hT,ht,hg⟩:=hr pins {s3 with heap:=s3.heap.push {cls:=.type "slice",data:=.fields #[vl,vu,.none]}} σ H3 x v vl vu l u s3.heap.objs.size Q I4 r1 (Heap.IsSliceOf.new ..) pl pu q3
 show wpAny (model X.prog X.w) X.A (subscriptTail e (.Slice lo hi none p2) v (.ref s3.heap.objs.size)) (EP X pins σ Q) X.xe {s3 with heap:=s3.heap.push {cls:=.type "slice",data:=.fields #[vl,vu,.none]}}
 exact tail_any (ops:=[.ref s3.heap.objs.size,v]) ht hT hg (by with_unfolding_all rfl)
def cutV (xs:List V)(lo hi:Option Int):List V:=(xs.drop (HT.sIx xs.length 0 lo)).take (HT.sIx xs.length xs.length hi-HT.sIx xs.length 0 lo)
theorem zmm (xs:List V)(lo hi:Option Int):(cutV xs lo hi).length<=xs.length:=by
 unfold cutV
 rw [length_take,List.length_drop]
 omega
def rSlT (K:PySem.W.Frag):V->Option Int->Option Int->Hp->VK->Prop:=fun x lo hi H Q=>∃a xs,x=.ref a/\SqT K H a xs/\
 ¬(HT.sIx xs.length 0 lo=0/\HT.sIx xs.length xs.length hi=xs.length)/\∀p,H p=none->Q (.ref p) (upd H p (.tup (cutV xs lo hi)))
theorem sl_tup:SlR X (rSlT X.K):=by
 intro pins s σ H x v vl vu lo hi sl Q I rx hs pl pu h
 obtain ⟨a,xs,rfl,hx,hw,q⟩:=h
 cases rx
 obtain ⟨its,r,ht,hz⟩:=I.tuple hx
 have hlen:its.toArray.size=xs.length:=by rw [List.size_toArray];exact r.length.symm
 refine ⟨"tuple",_,PyProof.Rows.slot_tuple_getitem.lookup,ht.typeIs,?_⟩
 refine HT.getItem_tuple_cut ht hs pl pu (by rw [hlen];exact hw) ?_ (by rw [hlen];exact hz)
 rw [hlen]
 refine ⟨.ref s.heap.objs.size,_,I.laid (t':=s.toks) (o:=.tup (cutV xs lo hi)) (fun b ob q=>Heap.get?_push_of_some _ q) (Nat.le_refl _) ?_,rfl,q _ (I.hok.fresh (Nat.le_refl _))⟩
 exact ⟨Nat.le_trans (zmm xs lo hi) hz,_,(r.drop (HT.sIx xs.length 0 lo)).take (HT.sIx xs.length xs.length hi-HT.sIx xs.length 0 lo),IsTup.new _ _⟩
def rCatT (K:PySem.W.Frag):R2:=fun x y H Q=>∃a b xs ys,x=.ref a/\y=.ref b/\SqT K H a xs/\SqT K H b ys/\xs≠[]/\xs.length+ys.length<=sizeLine/\
 (ys=[]->Q (.ref a) H)/\(ys≠[]->∀p,H p=none->Q (.ref p) (upd H p (.tup (xs++ys))))
theorem Vals.nil_iff {xs:List V}{us:List Value}(r:Vals xs us):us=[]↔xs=[]:=by
 cases r with
 |nil=>simp
 |cons _ _=>simp
theorem op_catT:OpR X (binaryOp .Add) (rCatT X.K):=by
 intro pins s σ H x y v u Q I rx ry h
 obtain ⟨a,b,xs,ys,rfl,rfl,ha,hb,hx,hz,q1,q2⟩:=h
 cases rx
 cases ry
 obtain ⟨its,r1,p1,_⟩:=I.tuple ha
 obtain ⟨its2,r2,p2,_⟩:=I.tuple hb
 refine HT.cat_tup p1 p2 (fun z=>hx (r1.nil_iff.mp z)) (fun z=>⟨.ref a,H,I,rfl,q1 (r2.nil_iff.mp z)⟩) (fun z=>?_) (by rw [<-r1.length,<-r2.length];exact hz)
 refine ⟨.ref s.heap.objs.size,_,I.laid (t':=s.toks) (o:=.tup (xs++ys)) (fun b ob q=>Heap.get?_push_of_some _ q) (Nat.le_refl _) ?_,rfl,q2 (fun w=>z (r2.nil_iff.mpr w)) _ (I.hok.fresh (Nat.le_refl _))⟩
 exact ⟨by rw [length_append];exact hz,_,r1.append r2,IsTup.new _ _⟩
end
end L2
namespace L2
open PySem PySem.Spec PyProof.Rows
def ixN (n:Nat)(i:Int):Option Nat:=if 0<=i then (if i<n then some i.toNat else none) else if-(n:Int)<=i then some (i+n).toNat else none
def atI {α:Type}(xs:List α)(i:Int):Option α:=(ixN xs.length i).bind fun j=>xs[j]?
theorem ixN_seq {n:Nat}{i:Int}{j:Nat}(h:ixN n i=some j):seqIndex? i n=some j/\j<n/\-(n:Int)<=i/\i<n:=by
 unfold ixN at h
 by_cases h0:0<=i
 ·rw [if_pos h0] at h
  by_cases h1:i<n
  ·rw [if_pos h1] at h
   have e:i.toNat=j:=Option.some.inj h
   exact ⟨by rw [seqIndex_of h0 h1,e],by omega,by omega,h1⟩
  ·rw [if_neg h1] at h;cases h
 ·rw [if_neg h0] at h
  by_cases h1:-(n:Int)<=i
  ·rw [if_pos h1] at h
   have e:(i+n).toNat=j:=Option.some.inj h
   exact ⟨by rw [seqIndex_neg (by omega) h1,e],by omega,h1,by omega⟩
  ·rw [if_neg h1] at h;cases h
theorem zmt {α:Type}{xs:List α}{i:Int}{v:α}(h:atI xs i=some v):∃j,seqIndex? i xs.length=some j/\xs[j]?=some v/\j<xs.length/\-(xs.length:Int)<=i/\i<xs.length:=by
 unfold atI at h
 cases e:ixN xs.length i with
 |none=>rw [e] at h;cases h
 |some j=>
  rw [e] at h
  obtain ⟨h1,h2,h3,h4⟩:=ixN_seq e
  exact ⟨j,h1,h,h2,h3,h4⟩
theorem zqd {α:Type}{xs:List α}{j:Nat}{v:α}(h:xs[j]?=some v):atI xs (j:Int)=some v:=by
 have hj:j<xs.length:=(List.getElem?_eq_some_iff.mp h).1
 have e:ixN xs.length (j:Int)=some j:=by
  unfold ixN
  rw [if_pos (by omega),if_pos (by omega)];simp
 unfold atI;rw [e];exact h
def zva (b:Expr):Prop:=∀o i,subscripted b false o i=operate [o,i] (getItem o i)
def IxR (X:Cx)(r:R2):Prop:=
 ∀(value slice:Expr) (pins:List (Addr×Obj)) (s:Shared) (σ:St) (H:Hp) (x y:V) (v u:Value) (Q:VK),Inv X pins σ H s->RelV x v->RelV y u->r x y H Q->
  subscripted slice false v u=operate [v,u] (getItem v u)->wpAny (model X.prog X.w) X.A (subscriptTail value slice v u) (EP X pins σ Q) X.xe s
def MtR (X:Cx)(id:String)(r:V->List V->Hp->VK->Prop):Prop:=
 ∀(pins:List (Addr×Obj)) (s:Shared) (σ:St) (H:Hp) (x:V) (xs:List V) (v:Value) (us:List Value) (Q:VK),Inv X pins σ H s->RelV x v->Vals xs us->r x xs H Q->
  wpAny (model X.prog X.w) X.A (call (.builtin id) (v::us)) (EP X pins σ Q) X.xe s
section
variable {X:Cx}{a b:Expr}{ta tb:TE}{pos:Pos}
theorem IxR.or {r r':R2}(h:IxR X r)(h':IxR X r'):IxR X (fun x y H Q=>r x y H Q\/r' x y H Q):=by
 intro value slice pins s σ H x y v u Q I rx ry q hs
 rcases q with q|q
 ·exact h value slice pins s σ H x y v u Q I rx ry q hs
 ·exact h' value slice pins s σ H x y v u Q I rx ry q hs
theorem pe_ix {r:R2}(hr:IxR X r)(ha:PE X a ta)(hb:PE X b tb)(hs:zva b):PE X (.Subscript a b pos) (tOp r ta tb):=by
 intro pins s σ H Q I h
 exact Subscript_ (binT ha hb I h fun v u s2 x y H2 I2 rx ry q=>hr a b pins s2 σ H2 x y v u Q I2 rx ry q (hs _ _))
def rIxL (K:PySem.W.Frag):R2:=fun x y H Q=>∃p xs i v,x=.ref p/\y=.int i/\SqL K H p xs/\atI xs i=some v/\Q v H
def rIxT (K:PySem.W.Frag):R2:=fun x y H Q=>∃p xs i v,x=.ref p/\y=.int i/\SqT K H p xs/\atI xs i=some v/\Q v H
def rIxS:R2:=fun x y H Q=>∃z i c,x=.str z/\y=.int i/\z.length<=sizeLine/\atI z.cps.toList i=some c/\Q (.str ⟨#[c]⟩) H
theorem ix_list:IxR X (rIxL X.K):=by
 intro value slice pins s σ H x y v u Q I rx ry h hs
 obtain ⟨p,xs,i,z,rfl,rfl,hq,he,q⟩:=h
 cases rx
 obtain ⟨t,rfl⟩:=ry
 obtain ⟨its,r,pl,hz⟩:=I.list hq
 obtain ⟨j,h1,h2,h3,h4,h5⟩:=zmt he
 obtain ⟨w,ew,rw'⟩:=r.get h2
 have hl:=r.length
 have hn:=zsc
 have fin:EP X pins σ Q w s:=⟨z,H,I,rw',q⟩
 by_cases h0:0<=i
 ·have hj:i.toNat=j:=by
   rw [seqIndex_of h0 h5] at h1
   exact Option.some.inj h1
  exact item_listR pl.isList h0 (by omega) (by rw [hj];simpa using ew) fin hs
 ·have hj:(i+(its.toArray.size:Int)).toNat=j:=by
   rw [seqIndex_neg (by omega) h4] at h1
   rw [List.size_toArray,<-hl]
   exact Option.some.inj h1
  exact subscriptTail_builtinR (x:=w) pl.isList.typeIs slot_list_getitem.lookup
   (wpAny_getItem_list_neg (Q:=fun r s'=>r=w/\EP X pins σ Q r s') pl.isList (by omega) (by rw [List.size_toArray]<;>omega) (by omega) (by rw [hj];simpa using ew) ⟨rfl,fin⟩) hs
theorem ix_tup:IxR X (rIxT X.K):=by
 intro value slice pins s σ H x y v u Q I rx ry h hs
 obtain ⟨p,xs,i,z,rfl,rfl,hq,he,q⟩:=h
 cases rx
 obtain ⟨t,rfl⟩:=ry
 obtain ⟨its,r,pl,hz⟩:=I.tuple hq
 obtain ⟨j,h1,h2,h3,h4,h5⟩:=zmt he
 obtain ⟨w,ew,rw'⟩:=r.get h2
 have hl:=r.length
 have hn:=zsc
 have fin:EP X pins σ Q w s:=⟨z,H,I,rw',q⟩
 exact subscriptTail_builtinR (x:=w) pl.typeIs slot_tuple_getitem.lookup
  (getItem_tuple (j:=j) (Q:=fun r s'=>r=w/\EP X pins σ Q r s') pl (by omega) (by omega) (by rw [List.size_toArray,<-hl];exact h1) (by simpa using ew) ⟨rfl,fin⟩) hs
theorem ix_str:IxR X rIxS:=by
 intro value slice pins s σ H x y v u Q I rx ry h hs
 obtain ⟨z,i,c,rfl,rfl,hz,he,q⟩:=h
 obtain ⟨t,rfl⟩:=rx
 obtain ⟨t',rfl⟩:=ry
 obtain ⟨j,h1,h2,h3,h4,h5⟩:=zmt he
 have hl:z.cps.toList.length=z.length:=by simp [Str.length]
 rw [hl] at h1 h4 h5
 have hn:=zsc
 exact tail_any (typeIs_str s z t) slot_str_getitem.lookup (getItem_str (c:=c) (by
  have e1:decide (i< -(2^63:Int))=false:=decide_eq_false (by omega)
  have e2:decide (i≥2^63)=false:=decide_eq_false (by omega)
  rw [e1,e2,Bool.or_false]) (by rw [h1];simpa using h2) ⟨.str ⟨#[c]⟩,H,I.tok _,⟨_,rfl⟩,q⟩) hs
def rIx (K:PySem.W.Frag):R2:=fun x y H Q=>rIxL K x y H Q\/rIxT K x y H Q\/rIxS x y H Q
theorem ix_seq:IxR X (rIx X.K):=ix_list.or (ix_tup.or ix_str)
theorem zqv (lo hi:Option Int)(n:Nat):(sliceBounds lo hi none n).1=((HT.sIx n 0 lo:Nat):Int)/\(sliceBounds lo hi none n).2.1=((HT.sIx n n hi:Nat):Int)/\(sliceBounds lo hi none n).2.2=1:=by
 refine ⟨?_,?_,rfl⟩
 ·cases lo with
  |none=>simp [sliceBounds,HT.sIx]
  |some i=>
   simp only [sliceBounds,HT.sIx,Option.getD_none,show (1:Int)>0 by decide,if_true]
   by_cases h:i<0
   ·simp only [h,if_true]<;>omega
   ·simp only [h,if_false]<;>omega
 ·cases hi with
  |none=>simp [sliceBounds,HT.sIx]
  |some i=>
   simp only [sliceBounds,HT.sIx,Option.getD_none,show (1:Int)>0 by decide,if_true]
   by_cases h:i<0
   ·simp only [h,if_true]<;>omega
   ·simp only [h,if_false]<;>omega
theorem zos (its:List Value)(lo hi:Option Int):slicePick its.toArray lo hi none=((its.drop (HT.sIx its.length 0 lo)).take (HT.sIx its.length its.length hi-HT.sIx its.length 0 lo)).toArray:=by
 obtain ⟨h1,h2,h3⟩:=zqv lo hi its.toArray.size
 unfold slicePick
 rw [h1,h2,h3]
 simp only [sliceRange_one,pick_run,List.size_toArray]<;>rfl
def rSlL (K:PySem.W.Frag):V->Option Int->Option Int->Hp->VK->Prop:=fun x lo hi H Q=>∃a xs,x=.ref a/\SqL K H a xs/\∀p,H p=none->Q (.ref p) (upd H p (.lst (cutV xs lo hi)))
theorem sl_list:SlR X (rSlL X.K):=by
 intro pins s σ H x v vl vu lo hi sl Q I rx hs pl pu h
 obtain ⟨a,xs,rfl,hx,q⟩:=h
 cases rx
 obtain ⟨its,r,ht,hz⟩:=I.list hx
 have hlen:=r.length
 refine ⟨"list",_,slot_list_getitem.lookup,ht.isList.typeIs,?_⟩
 refine wpAny_getItem_list_slice ht.isList hs pl pu .none (by simp) ?_ (by rw [List.size_toArray]<;>omega)
 rw [zos,<-hlen]
 refine ⟨.ref s.heap.objs.size,_,I.laid (t':=s.toks) (o:=.lst (cutV xs lo hi)) (fun b ob q=>Heap.get?_push_of_some _ q) (Nat.le_refl _) ?_,rfl,q _ (I.hok.fresh (Nat.le_refl _))⟩
 exact ⟨Nat.le_trans (zmm xs lo hi) hz,_,0,(r.drop (HT.sIx xs.length 0 lo)).take (HT.sIx xs.length xs.length hi-HT.sIx xs.length 0 lo),Heap.get?_push_size _ rfl⟩
theorem zss:zmy X (.builtin "len") (fun xs H Q=>∃p ys,xs=[.ref p]/\(SqL X.K H p ys\/SqT X.K H p ys)/\Q (.int ys.length) H):=by
 intro pins s σ H xs us Q I r h
 obtain ⟨p,ys,rfl,hq,q⟩:=h
 obtain ⟨u,rfl,rx⟩:=zkc r
 cases rx
 have hn:=zsc
 rcases hq with hq|hq
 ·obtain ⟨its,r',pl,hz⟩:=I.list hq
  have hlen:=r'.length
  exact Calls.call_len_list pl.isList (by simp only [List.size_toArray]<;>omega) ⟨.int ys.length,H,I.tok _,⟨s.toks+1,by rw [List.size_toArray,hlen]⟩,q⟩
 ·obtain ⟨its,r',pl,hz⟩:=I.tuple hq
  have hlen:=r'.length
  exact len_tuple pl (by simp only [List.size_toArray]<;>omega) ⟨.int ys.length,H,I.tok _,⟨s.toks+1,by rw [List.size_toArray,hlen]⟩,q⟩
theorem zsr:zmy X (.type "list") (fun xs H Q=>∃p ys,xs=[.ref p]/\(SqL X.K H p ys\/SqT X.K H p ys)/\∀l,H l=none->Q (.ref l) (upd H l (.lst ys))):=by
 intro pins s σ H xs us Q I r h
 obtain ⟨p,ys,rfl,hq,q⟩:=h
 obtain ⟨u,rfl,rx⟩:=zkc r
 cases rx
 have fin:∀(its:List Value),Vals ys its->ys.length<=sizeLine->∀(h':Heap) (c':Nat),(∀b o',s.heap.get? b=some o'->h'.get? b=some o')->
   h'.get? s.heap.objs.size=some {cls:=.type "list",dict:=none,data:=.seq its.toArray c',slots:= #[]}->EP X pins σ Q (.ref s.heap.objs.size) {s with heap:=h'}:=fun its r' hz h' c' kp e=>
  ⟨.ref s.heap.objs.size,_,I.laid (t':=s.toks) kp (Nat.le_refl _) (show ObjOk X.prog X.w _ h' _ (.lst ys) from ⟨hz,its,c',r',e⟩),rfl,q _ (I.hok.fresh (Nat.le_refl _))⟩
 rcases hq with hq|hq
 ·obtain ⟨its,r',pl,hz⟩:=I.list hq
  have hlen:=r'.length
  obtain ⟨o,ho,hc,n,hd⟩:=pl.isList
  exact call_list_seq p (.inl rfl) ho hc hd (fun h' c' kp e=>fin its r' hz h' c' kp e) (by simp only [List.size_toArray]<;>omega)
 ·obtain ⟨its,r',pl,hz⟩:=I.tuple hq
  have hlen:=r'.length
  obtain ⟨o,ho,hc,n,hd⟩:=pl
  exact call_list_seq p (.inr rfl) ho hc hd (fun h' c' kp e=>fin its r' hz h' c' kp e) (by simp only [List.size_toArray]<;>omega)
theorem zpz:zmy X (.type "tuple") (fun xs H Q=>∃p ys,xs=[.ref p]/\((SqL X.K H p ys/\∀l,H l=none->Q (.ref l) (upd H l (.tup ys)))\/(SqT X.K H p ys/\Q (.ref p) H))):=by
 intro pins s σ H xs us Q I r h
 obtain ⟨p,ys,rfl,h⟩:=h
 obtain ⟨u,rfl,rx⟩:=zkc r
 cases rx
 rcases h with ⟨hq,q⟩|⟨hq,q⟩
 ·obtain ⟨its,r',pl,hz⟩:=I.list hq
  have hlen:=r'.length
  refine call_tuple_list pl.isList (fun h' kp=>?_) (by simp only [List.size_toArray]<;>omega)
  have I1:Inv X pins σ H {s with heap:=h'}:=I.kept (t':=s.toks) kp
  have I2:Inv X pins σ (upd H h'.objs.size (.tup ys)) {s with heap:=h'.push {cls:=.type "tuple",data:=.seq its.toArray}}:=
   I1.laid (t':=s.toks) (fun b o e=>Heap.get?_push_of_some _ e) (Nat.le_refl _) (show ObjOk X.prog X.w _ _ _ (.tup ys) from ⟨hz,its,r',IsTup.new _ _⟩)
  exact ⟨.ref h'.objs.size,_,I2,rfl,q _ (I1.hok.fresh (Nat.le_refl _))⟩
 ·obtain ⟨its,r',pl,hz⟩:=I.tuple hq
  exact call_tuple_same pl ⟨.ref p,H,I,rfl,q⟩
def tyV (K:PySem.W.Frag)(T:String)(x:V)(H:Hp):Prop:=match x with
 |.str _=>T="str"
 |.int _=>T="int"
 |.ref p=>(T="list"/\∃xs,SqL K H p xs)\/(T="tuple"/\∃o,K.lookup p=some o/\o.cls=.type "tuple"/\o.dict=none)\/
   (T="dict"/\((∃kvs,H p=some (.dK kvs))\/∃kvs,H p=some (.dT kvs)))\/(T="set"/\∃S n,H p=some (.set S n))
 |_=>False
theorem tyV_is {pins:List (Addr×Obj)}{σ:St}{H:Hp}{s:Shared}{T:String}{x:V}{v:Value}(I:Inv X pins σ H s)(r:RelV x v)(ty:tyV X.K T x H):
  s.TypeIs v T/\∀a,v=.ref a->∃ob,s.heap.get? a=some ob/\ob.dict=none:=by
 cases x with
 |str z=>
  obtain ⟨t,rfl⟩:=r
  cases (show T="str" from ty)
  exact ⟨typeIs_str s z t,fun _ e=>nomatch e⟩
 |int i=>
  obtain ⟨t,rfl⟩:=r
  cases (show T="int" from ty)
  exact ⟨typeIs_int s i t,fun _ e=>nomatch e⟩
 |ref p=>
  cases r
  rcases ty with ⟨rfl,xs,hq⟩|⟨rfl,o,hk,hc,hd⟩|⟨rfl,hk⟩|⟨rfl,S,n,hk⟩
  ·obtain ⟨its,_,pl,_⟩:=I.list hq
   refine ⟨pl.isList.typeIs,fun a e=>?_⟩
   cases e
   obtain ⟨o,n,e,c,hd,_⟩:=pl
   exact ⟨o,e,hd⟩
  ·refine ⟨⟨o,I.kIn p o hk,hc⟩,fun a e=>?_⟩
   cases e
   exact ⟨o,I.kIn _ o hk,hd⟩
  ·have z:∃o,s.heap.get? p=some o/\o.ExactDict:=by
    rcases hk with ⟨kvs,hk⟩|⟨kvs,hk⟩
    ·obtain ⟨_,_,_,_,o,_,_,e,ex,_⟩:=I.hok p _ hk
     exact ⟨o,e,ex⟩
    ·obtain ⟨_,_,_,_,o,_,_,e,ex,_⟩:=I.hok p _ hk
     exact ⟨o,e,ex⟩
   obtain ⟨o,e,ex⟩:=z
   refine ⟨⟨o,e,ex.1⟩,fun a e2=>?_⟩
   cases e2
   exact ⟨o,e,ex.2.1⟩
  ·obtain ⟨o,_,_,_,e,ex,_⟩:=I.hok p _ hk
   refine ⟨⟨o,e,ex.1⟩,fun a e2=>?_⟩
   cases e2
   exact ⟨o,e,ex.2.1⟩
 |_=>exact False.elim ty
def tBM0 (K:PySem.W.Frag)(T:String)(r:V->List V->Hp->VK->Prop)(to:TE):TE:=fun σ H Q=>to σ H fun x H1=>tyV K T x H1/\r x [] H1 Q
def tBM (K:PySem.W.Frag)(T:String)(r:V->List V->Hp->VK->Prop)(to:TE)(t:TA):TE:=fun σ H Q=>to σ H fun x H1=>tyV K T x H1/\t σ H1 fun xs H2=>r x xs H2 Q
variable {o e:Expr}{es:List Expr}{to:TE}{t:TA}{name:Str}{apos cpos:Pos}{T id:String}{r:V->List V->Hp->VK->Prop}
theorem pe_bm0 (pa:PlainAttrs T)(slot:Slot T name id)(hty:typeOf (.builtin id)=pure (.type "method_descriptor"))(hm:MtR X id r)(ho:PE X o to)
  (hbase:attributeBase o name X.env (eval o X.env)=eval o X.env:=by rfl) (hline:(apos.endLine==cpos.line)=true:=by rfl):PE X (.Call (.Attribute o name apos) [] [] cpos) (tBM0 X.K T r to):=by
 intro pins s σ H Q I h
 refine wpAny_Call_method0_late hbase hline (thn (ho pins s σ H _ I h) fun v s1 ⟨x,H1,I1,r1,ty,q1⟩=>?_)
 obtain ⟨h1,h2⟩:=tyV_is I1 r1 ty
 exact ⟨T,id,pa,slot,hty,h1,h2,Calls.callWith_builtin rfl (PySem.evalArgs_none (hm pins s1 σ H1 x [] v [] Q I1 r1 .nil q1))⟩
theorem pe_bm (pa:PlainAttrs T)(slot:Slot T name id)(hty:typeOf (.builtin id)=pure (.type "method_descriptor"))(hm:MtR X id r)(ho:PE X o to)(ha:PA X (e::es) t)
  (hbase:attributeBase o name X.env (eval o X.env)=eval o X.env:=by rfl)
  (hfew:((backTo cpos (starEach (e::es) X.env)).all (fun x=> !x.1)&&(backToKw cpos (keywordEach [] X.env)).all (fun x=>x.1.isSome)
   &&decide ((e::es).length+([]:List Keyword).length+(if ([]:List Keyword).isEmpty then 0 else 1)<30))=true:=by rfl)
  (hline:(apos.endLine==cpos.line)=true:=by rfl) (hs:starEach (e::es) X.env=(false,eval e X.env)::starEach es X.env:=by rfl) (hplain:(backTo cpos (starEach es X.env)).any (·.1)=false:=by rfl):
  PE X (.Call (.Attribute o name apos) (e::es) [] cpos) (tBM X.K T r to t):=by
 intro pins s σ H Q I h
 refine wpAny_Call_method_late hbase hfew hline rfl (thn (ho pins s σ H _ I h) fun v s1 ⟨x,H1,I1,r1,ty,q1⟩=>?_)
 obtain ⟨h1,h2⟩:=tyV_is I1 r1 ty
 refine ⟨T,id,pa,slot,hty,h1,h2,?_⟩
 have hA:=ha cpos pins s1 σ H1 _ I1 q1
 rw [hs] at hA⊢
 refine Calls.callWith_builtin (by show (false||(backTo cpos (starEach es X.env)).any (·.1))=false;rw [hplain]<;>rfl) (Calls.evalArgs_plain ?_)
 exact thn hA fun us s2 ⟨vs,H2,I2,r2,q2⟩=>hm pins s2 σ H2 x vs v us Q I2 r1 r2 q2
/-xs.append(e),list.index on a module's tuple .. are MtR facts of 06m-/
end
end L2
namespace L2
open PySem PySem.Spec PyProof.Rows
def MtM (X:Cx)(id:String)(r:V->List V->Hp->VK->Prop):Prop:=
 ∀(pins:List (Addr×Obj)) (s:Shared) (σ:St) (H:Hp) (x:V) (xs:List V) (v:Value) (us:List Value) (Q:VK),Inv X pins σ H s->RelV x v->Vals xs us->r x xs H Q->
  wpAny (model X.prog X.w) X.A (call (.builtin id) (v::us)) (EP X pins σ Q) X.xe s
theorem Vals.one:∀{x:V} {us:List Value},Vals [x] us->∃u,us=[u]/\RelV x u
 |_,_,.cons r .nil=>⟨_,rfl,r⟩
theorem Vals.two:∀{x y:V} {us:List Value},Vals [x,y] us->∃u v,us=[u,v]/\RelV x u/\RelV y v
 |_,_,_,.cons r (.cons q .nil)=>⟨_,_,rfl,r,q⟩
theorem Vals.zero:∀{us:List Value},Vals [] us->us=[]
 |_,.nil=>rfl
theorem Vals.dropLast {xs:List V}{us:List Value}(h:Vals xs us):Vals xs.dropLast us.dropLast:=by
 induction h with
 |nil=>exact .nil
 |cons r t ih=>
  cases t with
  |nil=>exact .nil
  |cons q t'=>exact .cons r ih
theorem zxz {α:Type}(l:List α):l.eraseIdx (l.length-1)=l.dropLast:=by
 induction l with
 |nil=>rfl
 |cons a r ih=>
  cases r with
  |nil=>rfl
  |cons b r=>
   have e:(a::b::r).length-1=((b::r).length-1)+1:=by
    have h1:(a::b::r).length=r.length+2:=rfl
    have h2:(b::r).length=r.length+1:=rfl
    omega
   rw [e,List.eraseIdx_cons_succ,ih]
   all_goals rfl
section
variable {X:Cx}{pins:List (Addr×Obj)}{σ:St}{H:Hp}{s:Shared}{l b:Addr}{xs ys zs:List V}
theorem Inv.lset {its its':List Value}{n:Nat}{f:Array Value->Array Value}{t':Nat}(I:Inv X pins σ H s)(hH:H l=some (.lst xs))
  (e:s.heap.get? l=some {cls:=.type "list",data:=.seq its.toArray n}) (hf:f its.toArray=its'.toArray) (hv:Vals ys its') (hz:ys.length<=sizeLine):
  Inv X pins σ (upd H l (.lst ys)) {s with heap:=s.heap.update l (Obj.mapSeq f),toks:=t'}:=by
 have q:=PySem.IsL.update e f
 rw [hf] at q
 refine I.write (x:=l) (e:=l) (by rw [hH];exact trivial) (.inl rfl) (fun b' u hb hu=>(Heap.get?_update_other s.heap (Obj.mapSeq f) (Ne.symm hb)).trans hu) ⟨_,q⟩ ?_
 exact ⟨hz,its',_,hv,q⟩
theorem Inv.lnew {its:List Value}{t':Nat}(I:Inv X pins σ H s)(hv:Vals ys its)(hz:ys.length<=sizeLine):
  Inv X pins σ (upd H s.heap.objs.size (.lst ys)) {s with heap:=s.heap.push {cls:=.type "list",data:=.seq its.toArray},toks:=t'}:=
 I.laid (fun _ _ q=>Heap.get?_push_of_some _ q) (Nat.le_refl _) ⟨hz,its,0,hv,Heap.get?_push_size _ rfl⟩
theorem Inv.fresh (I:Inv X pins σ H s):H s.heap.objs.size=none:=I.hok.fresh (Nat.le_refl _)
theorem Inv.lstM (I:Inv X pins σ H s)(hH:H l=some (.lst xs)):xs.length<=sizeLine/\∃(its:List Value) (n:Nat),Vals xs its/\xs.length=its.length/\s.heap.get? l=some {cls:=.type "list",data:=.seq its.toArray n}:=by
 obtain ⟨z,its,n,r,e⟩:=I.hok l _ hH
 exact ⟨z,its,n,r,r.length,e⟩
theorem zph {n:Nat}(h:n<=sizeLine):Builtin.List.listTooLong n=false:=by
 unfold Builtin.List.listTooLong
 exact decide_eq_false (by omega)
end
section
variable {X:Cx}
def zix:V->List V->Hp->VK->Prop:=fun x vs H Q=>∃l xs y,x=.ref l/\vs=[y]/\H l=some (.lst xs)/\xs.length<sizeLine/\Q .non (upd H l (.lst (xs++[y])))
theorem zrz:MtM X "list.append" zix:=by
 intro pins s σ H x vs v us Q I rx rv h
 obtain ⟨l,xs,y,rfl,rfl,hH,hz,q⟩:=h
 cases rx
 obtain ⟨u,rfl,ru⟩:=rv.one
 obtain ⟨z,its,n,r,hl,e⟩:=I.lstM hH
 refine call_meets F.slot_list_append ⟨_,e,rfl⟩ F.entry_list_append (F.args_list_append_2 _ _) (PySem.list_append l its.toArray n u (by rw [List.size_toArray];omega)) ⟨e,?_⟩
 refine ⟨.non,_,I.lset (its':=its++[u]) hH e (by simp) (r.append (.cons ru .nil)) ?_,rfl,q⟩
 rw [length_append,length_singleton]
 omega
def rExtend:V->List V->Hp->VK->Prop:=fun x vs H Q=>∃l b xs zs,x=.ref l/\vs=[.ref b]/\H l=some (.lst xs)/\H b=some (.lst zs)/\xs.length+zs.length<=sizeLine/\Q .non (upd H l (.lst (xs++zs)))
theorem mt_extend:MtM X "list.extend" rExtend:=by
 intro pins s σ H x vs v us Q I rx rv h
 obtain ⟨l,b,xs,zs,rfl,rfl,hH,hB,hz,q⟩:=h
 cases rx
 obtain ⟨u,rfl,ru⟩:=rv.one
 cases ru
 obtain ⟨z,its,n,r,hl,e⟩:=I.lstM hH
 obtain ⟨z2,its2,n2,r2,hl2,e2⟩:=I.lstM hB
 have hsz:its.toArray.size+its2.toArray.size<=sizeLine:=by rw [List.size_toArray,List.size_toArray];omega
 have hlong:¬(!its.toArray.isEmpty&&Builtin.List.listTooLong (its.toArray.size+its2.toArray.size))=true:=by
  rw [zph hsz,Bool.and_false]
  exact Bool.false_ne_true
 refine call_meets F.slot_list_extend ⟨_,e,rfl⟩ F.entry_list_extend (F.args_list_extend_2 _ _)
  (AutoSeq1.list_extend_list_list_0 l its.toArray n b its2.toArray n2 hlong (by rw [List.size_toArray];omega) (by omega)) ⟨e,e2,?_⟩
 refine ⟨.non,_,I.lset (its':=its++its2) hH e (by simp) (r.append r2) ?_,rfl,q⟩
 rw [length_append]
 omega
def rPop:V->List V->Hp->VK->Prop:=fun x vs H Q=>∃l xs y,x=.ref l/\vs=[]/\H l=some (.lst xs)/\xs[xs.length-1]?=some y/\Q y (upd H l (.lst xs.dropLast))
theorem mt_pop:MtM X "list.pop" rPop:=by
 intro pins s σ H x vs v us Q I rx rv h
 obtain ⟨l,xs,y,rfl,rfl,hH,hy,q⟩:=h
 cases rx
 have hus:=rv.zero
 subst hus
 obtain ⟨z,its,n,r,hl,e⟩:=I.lstM hH
 obtain ⟨u,hu,ru⟩:=r.get hy
 have hy':its.toArray[its.toArray.size-1]?=some u:=by
  show its.toArray[its.length-1]?=some u
  rw [<-Array.getElem?_toList,<-hl]
  exact hu
 refine call_meets F.slot_list_pop ⟨_,e,rfl⟩ F.entry_list_pop (F.args_list_pop_1 _) (MeetsSeq.list_pop_last l its.toArray n u hy' (by rw [List.size_toArray];omega)) ⟨e,?_⟩
 refine ⟨y,_,I.lset (its':=its.dropLast) hH e ?_ r.dropLast ?_,ru,q⟩
 ·show its.toArray.eraseIdxIfInBounds (its.toArray.size-1)=its.dropLast.toArray
  rw [List.size_toArray,List.eraseIdxIfInBounds_toArray,zxz]
 ·rw [List.length_dropLast]
  omega
def rCat:R2:=fun x y H Q=>∃l b xs zs,x=.ref l/\y=.ref b/\H l=some (.lst xs)/\H b=some (.lst zs)/\xs.length+zs.length<=sizeLine/\∀p,H p=none->Q (.ref p) (upd H p (.lst (xs++zs)))
theorem zrl:OpR X (binaryOp .Add) rCat:=by
 intro pins s σ H x y v u Q I rx ry h
 obtain ⟨l,b,xs,zs,rfl,rfl,hH,hB,hz,q⟩:=h
 cases rx
 cases ry
 obtain ⟨z,its,n,r,hl,e⟩:=I.lstM hH
 obtain ⟨z2,its2,n2,r2,hl2,e2⟩:=I.lstM hB
 refine PySem.P.add_list e e2 ?_ (by rw [List.size_toArray,List.size_toArray];omega)
 have ea:its.toArray++its2.toArray=(its++its2).toArray:=by simp
 rw [ea]
 exact ⟨.ref _,_,I.lnew (t':=s.toks) (r.append r2) (by rw [length_append];omega),rfl,q _ I.fresh⟩
end
section
variable {prog:Program}{w:World}{A:Around}{E:Value->Shared->Prop}{s:Shared}
theorem zyh {a c n:Nat}(hac:a<=c)(hc:c<=n):sliceBounds (some (a:Int)) (some (c:Int)) none n=((a:Int),(c:Int),1):=by
 simp only [sliceBounds,Option.getD_none]
 have h1:¬((a:Int)<0):=by omega
 have h2:¬((c:Int)<0):=by omega
 simp only [h1,h2,if_false,show (1:Int)>0 by decide,if_true]
 congr 1
 ·omega
 ·congr 1;omega
set_option maxRecDepth 100000 in
theorem setItem_slice {l b sl:Addr}{items new:Array Value}{n n2:Nat}{vl vu:Value}{a c:Nat}{Q:Unit->Shared->Prop}
  (e:s.heap.get? l=some {cls:=.type "list",data:=.seq items n}) (e2:s.heap.get? b=some {cls:=.type "list",data:=.seq new n2}) (hne:l≠b)
  (hs:s.heap.IsSliceOf sl vl vu .none) (pl:IsPart vl (some (a:Int))) (pu:IsPart vu (some (c:Int))) (hac:a<=c) (hc:c<=items.size)
  (hsz:items.size+new.size<=sizeLine) (h:Q () {s with heap:=s.heap.update l (Obj.mapSeq fun xs=>xs.extract 0 a++new++xs.extract c xs.size)}):
  wpAny (model prog w) A (setItem (.ref l) (.ref sl) (.ref b)) Q E s:=by
 have hl:s.heap.IsList l items:=PySem.IsL.isList e
 have hb:s.heap.IsList b new:=PySem.IsL.isList e2
 obtain ⟨os,hos,hcs,hds⟩:=id hs
 have hTs:s.TypeIs (.ref sl) "slice":=⟨os,hos,hcs⟩
 have hstep:¬((rawPart none==rawInt 0)=true):=Bool.false_ne_true
 have hsame:Builtin.List.listSameRef (.ref l) (.ref b)=false:=by
  unfold Builtin.List.listSameRef
  exact beq_eq_false_iff_ne.mpr hne
 have hmax:(max (a:Int) (c:Int)).toNat=c:=by omega
 have hz':((fun xs:Array Value=>xs.extract 0 a++new++xs.extract c xs.size) items).size<=sizeLine+1:=by
  simp only [Array.size_append,Array.size_extract]
  omega
 unfold setItem
 try with_reducible refine wpAny_holding ?_
 first|refine wpAny_bind (wpAny_pure ?_)|skip
 refine wpAny_bind (wpAny_sequenceKey hl.typeIs (by decide) ?_)
 refine wpAny_bind (wpAny_callSpecial?_slot (name:=Str.ofString "__setitem__") hl.typeIs slot_list_setitem
  (wpAny_call_entry slot_list_setitem hl.typeIs entry_list_setitem ?_ (args_list_setitem _ _ _)))
 show wpAny _ _ (Builtin.List.listSubscript? (.ref sl)>>=_) _ _ s
 refine wpAny_bind ?_
 unfold Builtin.List.listSubscript?
 refine wpAny_bind (wpAny_specialOf hTs slice_no_index ?_)
 simp only [Option.isNone_none,if_true]
 refine wpAny_pure ?_
 show wpAny _ _ (typeOf (.ref sl)>>=_) _ _ s
 refine wpAny_bind (wpAny_typeOf hTs ?_)
 first
  |rw [if_neg (by decide)]
  |refine PySem.W.KFB.if_not (by decide) ?_
 rw [listSliceParts_eq]
 refine wpAny_bind (wpAny_bind (wpAny_field hos hds (x:=.none) rfl (wpAny_bind (wpAny_listPart .none ?_))))
 rw [if_neg hstep]
 refine wpAny_bind (wpAny_field hos hds (x:=vl) rfl (wpAny_bind (wpAny_listPart pl ?_)))
 refine wpAny_bind (wpAny_field hos hds (x:=vu) rfl (wpAny_bind (wpAny_listPart pu (wpAny_pure ?_))))
 first
  |simp only [hsame,Bool.false_eq_true,if_false]
  |refine PySem.W.KFB.if_not hsame ?_
  |(dsimp only
    rw [if_neg (by rw [hsame];exact Bool.false_ne_true)])
 refine wpAny_bind (m:=Builtin.List.listAllItems (.ref b) "must assign iterable to extended slice") ?_
 unfold Builtin.List.listAllItems
 refine wpAny_bind (wpAny_typeOf hb.typeIs ?_)
 first
  |refine PySem.W.KFB.if_so (by decide) ?_
  |rw [if_pos (by decide)]
  |simp only [beq_self_eq_true,Bool.true_or,if_true]
 unfold Builtin.List.listItems
 refine wpAny_bind (wpAny_seqItems e2 rfl (wpAny_pure ?_))
 refine wpAny_bind (wpAny_bind (wpAny_seqItems e rfl (wpAny_pure ?_)))
 refine wpAny_bind (wpAny_of_eq ((sliceIndices_raw (some (a:Int)) (some (c:Int)) none items.size (by simp)).trans (congrArg (pure:Int×Int×Int->Sem (Int×Int×Int)) (zyh hac hc))) ?_)
 show wpAny _ _ (if ((1:Int)==1)=true then _ else _) _ _ s
 rw [if_pos (by decide)]
 refine wpAny_bind (wpAny_rule ?_)
 first
  |simp only [zph hsz,Bool.false_eq_true,if_false]
  |refine PySem.W.KFB.if_not (zph hsz) ?_
 first|refine wpAny_bind (wpAny_pure ?_)|skip
 show wpAny _ _ (updateSeq l (fun xs=>xs.extract 0 ((a:Int)).toNat++new++xs.extract (max (a:Int) (c:Int)).toNat xs.size)>>=_) _ _ s
 rw [hmax,Int.toNat_natCast]
 refine wpAny_bind (wpAny_updateSeq (hz:=Nat.le_trans (Nat.le_add_right _ _) hsz) (_hz':=hz') e rfl ?_)
 refine wpAny_bind (wpAny_letGo ?_)
 first
  |exact wpAny_bind (wpAny_pure (wpAny_pure ⟨.none,rfl,wpAny_pure h⟩))
  |exact wpAny_pure ⟨.none,rfl,wpAny_pure h⟩
end
section
variable {X:Cx}
end
end L2
namespace L2
open PySem PySem.Spec PyProof.Rows
section
variable {κ:Type} [DecidableEq κ]
def zeo (kvs:List (κ×V))(k:κ):Option V:=(kvs.find? fun kv=>decide (kv.1=k)).map (·.2)
def zgs (kvs:List (κ×V))(k:κ)(v:V):List (κ×V):=
 if (kvs.any fun kv=>decide (kv.1=k))=true then kvs.map (fun kv=>if kv.1=k then (kv.1,v) else kv) else kvs++[(k,v)]
theorem zdx {p:κ×V}{r:List (κ×V)}{k:κ}(e:p.1=k):zeo (p::r) k=some p.2:=by simp [zeo,List.find?_cons,e]
theorem zdy {p:κ×V}{r:List (κ×V)}{k:κ}(e:¬p.1=k):zeo (p::r) k=zeo r k:=by simp [zeo,List.find?_cons,e]
theorem zhg (k:κ):∀kvs:List (κ×V),(kvs.any fun kv=>decide (kv.1=k))=(zeo kvs k).isSome
 |[]=>rfl
 |p::r=>by
  rw [List.any_cons]
  by_cases e:p.1=k
  ·simp only [zdx e,decide_eq_true e,Bool.true_or,Option.isSome_some]
  ·rw [zdy e,decide_eq_false e,Bool.false_or];exact zhg k r
theorem zvc (k j:κ)(y:V):∀kvs:List (κ×V),zeo (kvs.map fun kv=>if kv.1=k then (kv.1,y) else kv) j=(zeo kvs j).map fun x=>if j=k then y else x
 |[]=>rfl
 |p::r=>by
  have ih:=zvc k j y r
  rw [map_cons]
  by_cases h:p.1=k
  ·rw [if_pos h]
   by_cases e:p.1=j
   ·rw [zdx (p:=(p.1,y)) e,zdx e,Option.map_some,if_pos (e.symm.trans h)]
   ·rw [zdy (p:=(p.1,y)) e,zdy e,ih]
  ·rw [if_neg h]
   by_cases e:p.1=j
   ·rw [zdx (p:=p) e,zdx e,Option.map_some,if_neg (fun z=>h (e.trans z))]
   ·rw [zdy (p:=p) e,zdy e,ih]
theorem zqn (k j:κ)(y:V):∀kvs:List (κ×V),zeo kvs k=none->zeo (kvs++[(k,y)]) j=if j=k then some y else zeo kvs j
 |[],_=>by
  by_cases e:k=j
  ·rw [if_pos e.symm];exact zdx (p:=(k,y)) e
  ·rw [if_neg (fun z=>e z.symm)];exact zdy (p:=(k,y)) e
 |p::r,hn=>by
  rw [List.cons_append]
  have hk:¬p.1=k:=fun z=>by rw [zdx z] at hn;cases hn
  rw [zdy hk] at hn
  have ih:=zqn k j y r hn
  by_cases e:p.1=j
  ·rw [zdx e,zdx e,if_neg (fun z=>hk (e.trans z))]
  ·rw [zdy e,zdy e,ih]
theorem zoo (kvs:List (κ×V))(k j:κ)(y:V):zeo (zgs kvs k y) j=if j=k then some y else zeo kvs j:=by
 unfold zgs
 by_cases a:(kvs.any fun kv=>decide (kv.1=k))=true
 ·rw [if_pos a,zvc]
  rw [zhg] at a
  by_cases e:j=k
  ·obtain ⟨x,hx⟩:=Option.isSome_iff_exists.mp a
   rw [if_pos e,e,hx,Option.map_some,if_pos rfl]
  ·rw [if_neg e]
   cases zeo kvs j with
   |none=>rfl
   |some x=>rw [Option.map_some,if_neg e]
 ·rw [if_neg a]
  refine zqn k j y kvs ?_
  rw [zhg] at a
  cases q:zeo kvs k with
  |none=>rfl
  |some x=>rw [q] at a;exact (a rfl).elim
theorem zeg (kvs:List (κ×V))(k:κ)(v:V):(zgs kvs k v).length<=kvs.length+1:=by
 unfold zgs
 split
 ·rw [length_map];omega
 ·rw [length_append,length_cons,length_nil];omega
theorem zox {kvs:List (κ×V)}{k:κ}(v:V)(h:zeo kvs k=none):zgs kvs k v=kvs++[(k,v)]:=by
 unfold zgs
 rw [zhg,h]
 exact if_neg (by decide)
theorem RelO.isSome_eq {o:Option V}{u:Option Value}(r:RelO o u):o.isSome=u.isSome:=by
 cases o with
 |none=>cases u with
  |none=>rfl
  |some _=>exact (show False from r).elim
 |some _=>cases u with
  |none=>exact (show False from r).elim
  |some _=>rfl
theorem RelO.getD {o:Option V}{u:Option Value}{d:V}{d':Value}(r:RelO o u)(rd:RelV d d'):RelV (o.getD d) (u.getD d'):=by
 cases o with
 |none=>cases u with
  |none=>exact rd
  |some _=>exact (show False from r).elim
 |some _=>cases u with
  |none=>exact (show False from r).elim
  |some _=>exact r
theorem KV.val {kvs:List (κ×V)}{vs:List (κ×Value)}(r:KV kvs vs)(k:κ):RelO (zeo kvs k) (valueAt vs k):=by
 unfold KV at r
 induction r with
 |nil=>exact True.intro
 |@cons p q ps qs h t ih=>
  obtain ⟨h1,h2⟩:=h
  by_cases e:p.1=k
  ·have e':q.1=k:=h1.symm.trans e
   have b:valueAt (q::qs) k=some q.2:=by simp [valueAt,List.find?_cons,e']
   rw [zdx e,b];exact h2
  ·have e':¬q.1=k:=fun z=>e (h1.trans z)
   have b:valueAt (q::qs) k=valueAt qs k:=by simp [valueAt,List.find?_cons,e']
   rw [zdy e,b];exact ih
theorem KV.any {kvs:List (κ×V)}{vs:List (κ×Value)}(r:KV kvs vs)(k:κ):(kvs.any fun kv=>decide (kv.1=k))=vs.any fun kv=>decide (kv.1=k):=by
 unfold KV at r
 induction r with
 |nil=>rfl
 |cons h t ih=>rw [List.any_cons,List.any_cons,ih,h.1]
theorem KV.repl {kvs:List (κ×V)}{vs:List (κ×Value)}(r:KV kvs vs)(k:κ){y:V}{u:Value}(ry:RelV y u):
  KV (kvs.map fun kv=>if kv.1=k then (kv.1,y) else kv) (vs.map fun kv=>if kv.1=k then (kv.1,u) else kv):=by
 unfold KV at r⊢
 induction r with
 |nil=>exact .nil
 |@cons p q ps qs h t ih=>
  rw [map_cons,map_cons]
  refine .cons ?_ ih
  obtain ⟨h1,h2⟩:=h
  by_cases e:p.1=k
  ·rw [if_pos e,if_pos (h1.symm.trans e)];exact ⟨h1,ry⟩
  ·rw [if_neg e,if_neg (fun z=>e (h1.trans z))];exact ⟨h1,h2⟩
theorem KV.put {kvs:List (κ×V)}{vs:List (κ×Value)}(r:KV kvs vs)(k:κ){y:V}{u:Value}(ry:RelV y u):KV (zgs kvs k y) (stored vs k u):=by
 unfold zgs stored
 rw [r.any k]
 by_cases e:(vs.any fun kv=>decide (kv.1=k))=true
 ·rw [if_pos e,if_pos e];exact r.repl k ry
 ·rw [if_neg e,if_neg e];exact Paired.snoc r ⟨rfl,ry⟩
theorem KV.length {kvs:List (κ×V)}{vs:List (κ×Value)}(r:KV kvs vs):kvs.length=vs.length:=Paired.length r
end
theorem zpn {P:Program}{w:World}{k:Key}{u:Value}(r:RelV (kV k) u):(zc9 P w).is k u=true:=by
 cases k with
 |inl i=>obtain ⟨t,e⟩:=(show∃t,u=Value.int i t from r);subst e;exact zuc P w i t
 |inr x=>obtain ⟨t,e⟩:=(show∃t,u=Value.str x t from r);subst e;exact zub P w x t
theorem zsf {P:Program}{w:World}:∀{ks:List Key} {us:List Value},Vals (ks.map kV) us->ItemsAre (zc9 P w) ks us
 |[],_,r=>by rw [List.map_nil] at r;cases r;exact .nil
 |k::ks,_,r=>by
  rw [map_cons] at r
  cases r with
  |cons h t=>exact .cons (zpn h) (zsf t)
abbrev KT (H:Hp):List (List Key×V)->List (List Key×Addr×Value)->Prop:=Paired fun p q=>p.1=q.1/\H q.2.1=some (.tup (p.1.map kV))/\RelV p.2 q.2.2
theorem KT.val {H:Hp}{kvs:List (List Key×V)}{xs:List (List Key×Addr×Value)}(r:KT H kvs xs)(k:List Key):RelO (zeo kvs k) ((atKey xs k).map (·.2)):=by
 induction r with
 |nil=>exact True.intro
 |@cons p q ps qs h t ih=>
  obtain ⟨h1,_,h2⟩:=h
  by_cases e:p.1=k
  ·have e':q.1=k:=h1.symm.trans e
   have b:atKey (q::qs) k=some q.2:=by simp [atKey,List.find?_cons,e']
   rw [zdx e,b];exact h2
  ·have e':¬q.1=k:=fun z=>e (h1.trans z)
   have b:atKey (q::qs) k=atKey qs k:=by simp [atKey,List.find?_cons,e']
   rw [zdy e,b];exact ih
theorem KT.repl {H:Hp}{kvs:List (List Key×V)}{xs:List (List Key×Addr×Value)}(r:KT H kvs xs)(k:List Key){y:V}{u:Value}(ry:RelV y u):
  KT H (kvs.map fun kv=>if kv.1=k then (kv.1,y) else kv) (xs.map (putAt k u)):=by
 induction r with
 |nil=>exact .nil
 |@cons p q ps qs h t ih=>
  rw [map_cons,map_cons]
  refine .cons ?_ ih
  obtain ⟨h1,h2,h3⟩:=h
  unfold putAt
  by_cases e:p.1=k
  ·rw [if_pos e,if_pos (h1.symm.trans e)];exact ⟨h1,h2,ry⟩
  ·rw [if_neg e,if_neg (fun z=>e (h1.trans z))];exact ⟨h1,h2,h3⟩
theorem KT.put {H:Hp}{kvs:List (List Key×V)}{xs:List (List Key×Addr×Value)}(r:KT H kvs xs)(k:List Key){b:Addr}{y:V}{u:Value}(hb:H b=some (.tup (k.map kV)))(ry:RelV y u):
  KT H (zgs kvs k y) (storedH xs k b u):=by
 have e:(kvs.any fun kv=>decide (kv.1=k))=(atKey xs k).isSome:=by
  rw [zhg,(r.val k).isSome_eq,Option.isSome_map]
 unfold zgs storedH
 rw [e]
 by_cases q:(atKey xs k).isSome=true
 ·rw [if_pos q,if_pos q];exact r.repl k ry
 ·rw [if_neg q,if_neg q];exact Paired.snoc r ⟨rfl,hb,ry⟩
theorem KT.keeps {H H':Hp}{kvs:List (List Key×V)}{xs:List (List Key×Addr×Value)}(r:KT H kvs xs)(ht:∀b ys,H b=some (.tup ys)->H' b=some (.tup ys)):KT H' kvs xs:=
 Paired.mapP r fun _ _ z=>⟨z.1,ht _ _ z.2.1,z.2.2⟩
section
variable {P:Program}{w:World}{H:Hp}{h:Heap}{a:Addr}
theorem rd_of {u:HO}(ok:HOk P w H h)(e:Rd H a u):ObjOk P w H h a u:=e.ok ok
theorem zlc {kvs:List (Key×V)}(ok:HOk P w H h)(e:Rd H a (.dK kvs)):kvs.length<=sizeLine/\(a==sysModules)=false/\∃vs,KV kvs vs/\h.DictOf (zc9 P w) a vs:=
 show ObjOk P w H h a (.dK kvs) from rd_of ok e
theorem dk_of {kvs:List (Key×V)}(ok:HOk P w H h)(e:H a=some (.dK kvs)):kvs.length<=sizeLine/\(a==sysModules)=false/\∃vs,KV kvs vs/\h.DictOf (zc9 P w) a vs:=zlc ok (.inl e)
theorem zkl {ks:List Key}(ok:HOk P w H h)(e:H a=some (.tup (ks.map kV))):(tupleKind (zc9 P w)).is h ks a:=by
 obtain ⟨_,its,r,o,h1,h2,n,h3⟩:=(show ObjOk P w H h a (.tup (ks.map kV)) from ok a _ e)
 exact ⟨o,its.toArray,n,h1,h2,h3,by simpa using zsf r⟩
theorem zpx {kvs:List (List Key×V)}(ok:HOk P w H h)(e:Rd H a (.dT kvs)):kvs.length<=sizeLine/\(a==sysModules)=false/\
  ∃xs,KT H kvs xs/\h.DictOfH (tupleKind (zc9 P w)) a xs:=by
 obtain ⟨z,y,xs,r,o,es,ep,h1,h2,h3,h4,h5⟩:=(show ObjOk P w H h a (.dT kvs) from rd_of ok e)
 refine ⟨z,y,xs,r,o,es,ep,h1,h2,h3,h4,fun x hx=>?_,h5⟩
 have all:∀{l:List (List Key×V)} {m:List (List Key×Addr×Value)},KT H l m->∀x∈m,(tupleKind (zc9 P w)).is h x.1 x.2.1:=by
  intro l m q
  induction q with
  |nil=>intro x hx;exact nomatch hx
  |@cons p q ps qs hq t ih=>
   intro x hx
   rcases mem_cons.mp hx with e|hx
   ·subst e
    exact zkl ok (by rw [<-hq.1];exact hq.2.1)
   ·exact ih x hx
 exact all r x hx
theorem dt_of {kvs:List (List Key×V)}(ok:HOk P w H h)(e:H a=some (.dT kvs)):kvs.length<=sizeLine/\(a==sysModules)=false/\
  ∃xs,KT H kvs xs/\h.DictOfH (tupleKind (zc9 P w)) a xs:=zpx ok (.inl e)
end
def DGet (H:Hp)(a:Addr)(y:V)(r:Option V):Prop:=
 (∃kvs k,Rd H a (.dK kvs)/\y=kV k/\r=zeo kvs k)\/∃kvs k b,Rd H a (.dT kvs)/\y=.ref b/\H b=some (.tup (k.map kV))/\r=zeo kvs k
def DPut (H:Hp)(a:Addr)(y v:V)(H':Hp):Prop:=
 (∃kvs k,H a=some (.dK kvs)/\y=kV k/\kvs.length<sizeLine/\H'=upd H a (.dK (zgs kvs k v)))\/
 ∃kvs k b,H a=some (.dT kvs)/\y=.ref b/\H b=some (.tup (k.map kV))/\kvs.length<sizeLine/\H'=upd H a (.dT (zgs kvs k v))
theorem DGet.k {H:Hp}{a:Addr}{kvs:List (Key×V)}{k:Key}(e:H a=some (.dK kvs)):DGet H a (kV k) (zeo kvs k):=.inl ⟨kvs,k,.inl e,rfl,rfl⟩
theorem DGet.t {H:Hp}{a b:Addr}{kvs:List (List Key×V)}{k:List Key}(e:H a=some (.dT kvs))(eb:H b=some (.tup (k.map kV))):DGet H a (.ref b) (zeo kvs k):=.inr ⟨kvs,k,b,.inl e,rfl,eb,rfl⟩
theorem DPut.k {H:Hp}{a:Addr}{kvs:List (Key×V)}{k:Key}{v:V}(e:H a=some (.dK kvs))(hl:kvs.length<sizeLine):DPut H a (kV k) v (upd H a (.dK (zgs kvs k v))):=.inl ⟨kvs,k,e,rfl,hl,rfl⟩
theorem DPut.t {H:Hp}{a b:Addr}{kvs:List (List Key×V)}{k:List Key}{v:V}(e:H a=some (.dT kvs))(eb:H b=some (.tup (k.map kV)))(hl:kvs.length<sizeLine):
  DPut H a (.ref b) v (upd H a (.dT (zgs kvs k v))):=.inr ⟨kvs,k,b,e,rfl,eb,hl,rfl⟩
section
variable {X:Cx}{pins:List (Addr×Obj)}{σ:St}{H:Hp}{s:Shared}{a:Addr}{y v:V}{u r:Value}{o:Option V}{A:Around}{E:Value->Shared->Prop}
theorem Inv.big (I:Inv X pins σ H s):sysModules<s.heap.objs.size:=by
 have h:mainGlobals<s.heap.objs.size:=(I.mod.glob.keeps I.bk).lt
 exact Nat.lt_trans (by decide) h
theorem d_getItem {Q:Value->Shared->Prop}(hu:A.units+1<cLine)(I:Inv X pins σ H s)(g:DGet H a y (some v))(ry:RelV y u)(h:∀w' s',Inv X pins σ H s'->RelV v w'->Q w' s'):
  wpAny (model X.prog X.w) A (getItem (.ref a) u) Q E s:=by
 rcases g with ⟨kvs,k,e,ey,l⟩|⟨kvs,k,b,e,ey,eb,l⟩
 ·subst ey
  obtain ⟨z,hd,vs,rel,dd⟩:=zlc I.hok e
  obtain ⟨w',hw,rw'⟩:=RelO.some_of (v:=v) (o:=valueAt vs k) (by rw [l];exact rel.val k)
  exact wpAny_getItem_of (zpn ry) dd.mapOf hw (h w' _ (I.tok _) rw')
 ·subst ey
  cases (show u=Value.ref b from ry)
  obtain ⟨z,hd,xs,rel,dd⟩:=zpx I.hok e
  obtain ⟨w',hw,rw'⟩:=RelO.some_of (v:=v) (o:=(atKey xs k).map (·.2)) (by rw [l];exact rel.val k)
  obtain ⟨p,hp,hp2⟩:=Option.map_eq_some_iff.mp hw
  refine wpAny_getItem_heap (tupleKind_room_in1 hu) (zkl I.hok eb) dd hp ?_
  rw [hp2]
  exact h w' _ (I.tok _) rw'
theorem d_in {Q:Value->Shared->Prop}(hu:A.units+1<cLine)(I:Inv X pins σ H s)(g:DGet H a y o)(ry:RelV y u)(h:∀s',Inv X pins σ H s'->Q (.bool o.isSome) s'):
  wpAny (model X.prog X.w) A (compareOp .In u (.ref a)) Q E s:=by
 rcases g with ⟨kvs,k,e,ey,l⟩|⟨kvs,k,b,e,ey,eb,l⟩
 ·subst ey
  obtain ⟨z,hd,vs,rel,dd⟩:=zlc I.hok e
  refine wpAny_in_of (zpn ry) hd dd.mapOf ?_
  rw [<-(rel.val k).isSome_eq,<-l]
  exact h _ (I.tok _)
 ·subst ey
  cases (show u=Value.ref b from ry)
  obtain ⟨z,hd,xs,rel,dd⟩:=zpx I.hok e
  refine wpAny_in_heap (tupleKind_room_in1 hu) (zkl I.hok eb) hd dd ?_
  have q:=(rel.val k).isSome_eq
  rw [Option.isSome_map] at q
  rw [<-q,<-l]
  exact h _ (I.tok _)
theorem d_notIn {Q:Value->Shared->Prop}(hu:A.units+1<cLine)(I:Inv X pins σ H s)(g:DGet H a y o)(ry:RelV y u)(h:∀s',Inv X pins σ H s'->Q (.bool (!o.isSome)) s'):
  wpAny (model X.prog X.w) A (compareOp .NotIn u (.ref a)) Q E s:=by
 rcases g with ⟨kvs,k,e,ey,l⟩|⟨kvs,k,b,e,ey,eb,l⟩
 ·subst ey
  obtain ⟨z,hd,vs,rel,dd⟩:=zlc I.hok e
  refine wpAny_notIn_of (zpn ry) hd dd.mapOf ?_
  rw [<-(rel.val k).isSome_eq,<-l]
  exact h _ (I.tok _)
 ·subst ey
  cases (show u=Value.ref b from ry)
  obtain ⟨z,hd,xs,rel,dd⟩:=zpx I.hok e
  refine wpAny_notIn_heap (tupleKind_room_in1 hu) (zkl I.hok eb) hd dd ?_
  have q:=(rel.val k).isSome_eq
  rw [Option.isSome_map] at q
  rw [<-q,<-l]
  exact h _ (I.tok _)
theorem zpy {h':Heap}{t':Nat}{ob:HO}(I:Inv X pins σ H s)(mu:Mut (H a))(hs:Heap.SameBut a s.heap h')(he:∃q,h'.get? a=some q)(new:ObjOk X.prog X.w (upd H a ob) h' a ob):
  Inv X pins σ (upd H a ob) {s with heap:=h',toks:=t'}:=
 I.write (x:=a) (e:=a) mu (.inl rfl) (fun b q hb z=>(hs.2 b hb).trans z) he new
theorem zwf {P:Program}{w:World}{H':Hp}{h':Heap}{kvs:List (Key×V)}{vs:List (Key×Value)}(z:kvs.length<=sizeLine)(hd:(a==sysModules)=false)(rel:KV kvs vs)(dd:h'.DictOf (zc9 P w) a vs):
  ObjOk P w H' h' a (.dK kvs):=⟨z,hd,vs,rel,dd⟩
theorem d_setItem {H':Hp}{Q:Unit->Shared->Prop}(hu:A.units+1<cLine)(I:Inv X pins σ H s)(g:DPut H a y v H')(ry:RelV y u)(rv:RelV v r)(h:∀s',Inv X pins σ H' s'->Q () s'):
  wpAny (model X.prog X.w) A (setItem (.ref a) u r) Q E s:=by
 rcases g with ⟨kvs,k,e,ey,l,eH⟩|⟨kvs,k,b,e,ey,eb,l,eH⟩
 ·subst ey eH
  obtain ⟨z,hd,vs,rel,dd⟩:=dk_of I.hok e
  have hz:vs.length<=sizeLine:=by rw [<-rel.length];exact z
  have hl:(zgs kvs k v).length<=sizeLine:=by have:=zeg kvs k v;omega
  refine wpAny_setItem_pairs (hsz:=hz) (zpn ry) dd fun h' dd' hs=>h _ ?_
  have he:∃q,h'.get? a=some q:=let ⟨q,_,_,hq,_⟩:=dd';⟨q,hq⟩
  exact zpy I (by rw [e];exact True.intro) hs he (zwf hl hd (rel.put k rv) dd')
 ·subst ey eH
  cases (show u=Value.ref b from ry)
  obtain ⟨z,hd,xs,rel,dd⟩:=dt_of I.hok e
  have hz:xs.length<=sizeLine:=by rw [<-Paired.length rel];exact z
  have hl:(zgs kvs k v).length<=sizeLine:=by have:=zeg kvs k v;omega
  refine wpAny_setItem_heap (hsz:=hz) (tupleKind_room_in1 hu) (zkl I.hok eb) dd fun h' dd' hs=>h _ ?_
  obtain ⟨q,es,ep,hq,h2,h3,h4,_,h5⟩:=dd'
  refine zpy I (by rw [e];exact True.intro) hs ⟨q,hq⟩ ⟨hl,hd,_,(rel.put k eb rv).keeps fun c ys ec=>?_,q,es,ep,hq,h2,h3,h4,h5⟩
  rw [zal (ne_of ec e (fun z=>nomatch z))]
  exact ec
end
section
variable {X:Cx}{pins:List (Addr×Obj)}{σ:St}{H:Hp}{s:Shared}{a:Addr}{kvs:List (Key×V)}{k:Key}{u:Value}{A:Around}{E:Value->Shared->Prop}
theorem d_len {Q:Value->Shared->Prop}(I:Inv X pins σ H s)(e:Rd H a (.dK kvs))(h:∀t s',Inv X pins σ H s'->Q (.int kvs.length t) s'):wpAny (model X.prog X.w) A (call (.builtin "len") [.ref a]) Q E s:=by
 obtain ⟨z,hd,vs,rel,dd⟩:=zlc I.hok e
 refine call_len_dict hd dd (by rw [<-rel.length];rw [sizeLine_eq] at z;omega) ?_
 rw [<-rel.length]
 exact h _ _ (I.tok _)
end
def NoSl (i:Expr):Prop:=∀ov iv,subscripted i false ov iv=operate [ov,iv] (getItem ov iv)
theorem subD_of {prog:Program}{w:World}{A:Around}{E:Value->Shared->Prop}{s:Shared}{env:Env}{value slice:Expr}{pos:Pos}{T id:String}{Q:Value->Shared->Prop}
  (hl:typeLookup (.type T) "__getitem__"=pure (some (.builtin id))) (hs:NoSl slice)
  (h:wpAny (model prog w) A (eval value env) (fun o s₁=>wpAny (model prog w) A (eval slice env) (fun i s₂=>s₂.TypeIs o T/\wpAny (model prog w) A (getItem o i) Q E s₂) E s₁) E s):
  wpAny (model prog w) A (eval (.Subscript value slice pos) env) Q E s:=by
 refine Subscript_ (wpAny_mono h (fun o s₁ h₁=>wpAny_mono h₁ (fun i s₂ h₂=>?_) fun _ _ x=>x) fun _ _ x=>x)
 obtain ⟨hT,h₂⟩:=h₂
 unfold subscriptTail
 refine wpAny_bind ?_
 rw [getitemInPython_of_ne hT.not_modules]
 refine wpAny_bind (wpAny_specialOf hT hl ?_)
 have fin:wpAny (model prog w) A (subscripted slice false o i) (fun r s₃=>wpAny (model prog w) A (letTemporaryGo value o r>>=fun _=>pure r) Q E s₃) E s₂:=by
  rw [hs o i]
  exact wpAny_operating (wpAny_mono h₂ (fun r s₃ h₃=>wpAny_bind (wpAny_letTemporaryGo (wpAny_pure h₃))) fun _ _ x=>x)
 first
  |exact wpAny_pure (wpAny_bind fin)
  |exact wpAny_bind (wpAny_pure (wpAny_bind fin))
  |exact wpAny_bind fin
theorem zur {X:Cx}{pins:List (Addr×Obj)}{σ:St}{H:Hp}{s:Shared}{a:Addr}{y:V}{o:Option V}(I:Inv X pins σ H s)(g:DGet H a y o):s.TypeIs (.ref a) "dict":=by
 rcases g with ⟨kvs,k,e,_,_⟩|⟨kvs,k,b,e,_,_,_⟩
 ·obtain ⟨_,_,vs,_,dd⟩:=zlc I.hok e
  exact dd.typeIs
 ·obtain ⟨_,_,xs,_,dd⟩:=zpx I.hok e
  exact dd.typeIs
def tDGet (td ty:TE):TE:=fun σ H Q=>td σ H fun x H1=>ty σ H1 fun y H2=>∃a v,x=.ref a/\DGet H2 a y (some v)/\Q v H2
def tDIn (ty td:TE):TE:=fun σ H Q=>ty σ H fun y H1=>td σ H1 fun x H2=>∃a o,x=.ref a/\DGet H2 a y o/\Q (.bl o.isSome) H2
def ztg (ty td:TE):TE:=fun σ H Q=>ty σ H fun y H1=>td σ H1 fun x H2=>∃a o,x=.ref a/\DGet H2 a y o/\Q (.bl (!o.isSome)) H2
def sDPut (td ty tv:TE):TS:=fun D σ H=>tv σ H fun v H1=>td σ H1 fun x H2=>ty σ H2 fun y H3=>∃a H4,x=.ref a/\DPut H3 a y v H4/\D.nx σ H4
section
variable {X:Cx}{o i e value:Expr}{pos pos' tpos:Pos}{td ty tv:TE}
theorem pe_dget (hu:X.A.units+1<cLine)(ho:PE X o td)(hi:PE X i ty)(hs:NoSl i):PE X (.Subscript o i pos) (tDGet td ty):=by
 intro pins s σ H Q I h
 refine subD_of PySem.F.slot_dict_getitem.lookup hs (thn (ho pins s σ H _ I h) fun u s1 ⟨x,H1,I1,rx,q1⟩=>thn (hi pins s1 σ H1 _ I1 q1) fun iv s2 ⟨y,H2,I2,ry,a,v,ex,g,q2⟩=>?_)
 subst ex
 obtain rfl:u=Value.ref a:=rx
 exact ⟨zur I2 g,d_getItem hu I2 g ry fun w' s3 I3 rw'=>⟨v,H2,I3,rw',q2⟩⟩
theorem pc_din (hu:X.A.units+1<cLine)(hi:PE X i ty)(ho:PE X o td):PC X .In i o (tDIn ty td):=by
 intro pins s σ H Q I h
 refine thn (hi pins s σ H _ I h) fun iv s1 ⟨y,H1,I1,ry,q1⟩=>thn (ho pins s1 σ H1 _ I1 q1) fun u s2 ⟨x,H2,I2,rx,a,ov,ex,g,q2⟩=>?_
 subst ex
 obtain rfl:u=Value.ref a:=rx
 exact d_in hu I2 g ry fun s3 I3=>⟨.bl ov.isSome,H2,I3,rfl,q2⟩
theorem zri (hu:X.A.units+1<cLine)(hi:PE X i ty)(ho:PE X o td):PC X .NotIn i o (ztg ty td):=by
 intro pins s σ H Q I h
 refine thn (hi pins s σ H _ I h) fun iv s1 ⟨y,H1,I1,ry,q1⟩=>thn (ho pins s1 σ H1 _ I1 q1) fun u s2 ⟨x,H2,I2,rx,a,ov,ex,g,q2⟩=>?_
 subst ex
 obtain rfl:u=Value.ref a:=rx
 exact d_notIn hu I2 g ry fun s3 I3=>⟨.bl (!ov.isSome),H2,I3,rfl,q2⟩
theorem zoy (hu:X.A.units+1<cLine)(ho:PE X o td)(hi:PE X i ty)(hv:PE X value tv)(hs:swapsWith value (some (.Subscript o i pos')) pos.line X.env=pure false):
  PS X (.Assign [.Subscript o i pos'] value pos) (sDPut td ty tv):=by
 intro pins s σ H D I h
 refine wpAny_Assign_Subscript (thn (hv pins s σ H _ I h) fun r s1 ⟨v,H1,I1,rv,q1⟩=>thn (ho pins s1 σ H1 _ I1 q1) fun u s2 ⟨x,H2,I2,rx,q2⟩=>thn (hi pins s2 σ H2 _ I2 q2) fun iv s3 ⟨y,H3,I3,ry,a,H4,ex,g,q3⟩=>?_) hs
 subst ex
 obtain rfl:u=Value.ref a:=rx
 exact d_setItem hu I3 g ry rv fun s4 I4=>⟨σ,H4,I4,q3⟩
end
theorem dk_empty {P:Program}{w:World}{H:Hp}(h:Heap)(hb:sysModules<h.objs.size):ObjOk P w H (h.push {cls:=.type "dict",data:=.dict #[]}) h.objs.size (.dK []):=
 ⟨Nat.zero_le _,beq_eq_false_iff_ne.mpr (Ne.symm (Nat.ne_of_lt hb)),[],.nil,Heap.DictOf.new h⟩
theorem dt_empty {P:Program}{w:World}{H:Hp}(h:Heap)(hb:sysModules<h.objs.size):ObjOk P w H (h.push {cls:=.type "dict",data:=.dict #[]}) h.objs.size (.dT []):=
 ⟨Nat.zero_le _,beq_eq_false_iff_ne.mpr (Ne.symm (Nat.ne_of_lt hb)),[],.nil,_, #[],0,Heap.get?_push_size _ rfl,⟨rfl,rfl,rfl⟩,rfl,rfl,nodup_nil⟩
def tDNewK:TE:=fun _ H Q=>∀p,H p=none->Q (.ref p) (upd H p (.dK []))
def tDNewT:TE:=fun _ H Q=>∀p,H p=none->Q (.ref p) (upd H p (.dT []))
section
variable {X:Cx}{pos:Pos}
theorem zll:PE X (.Dict [] [] pos) tDNewK:=fun pins s σ H Q I h=>
 wpAny_Dict_empty ⟨.ref s.heap.objs.size,_,I.laid (a:=s.heap.objs.size) (o:=.dK []) (t':=s.toks) (fun _ _ q=>Heap.get?_push_of_some _ q) (Nat.le_refl _) (dk_empty s.heap I.big),rfl,h _ (I.hok.fresh (Nat.le_refl _))⟩
theorem pe_dnewT:PE X (.Dict [] [] pos) tDNewT:=fun pins s σ H Q I h=>
 wpAny_Dict_empty ⟨.ref s.heap.objs.size,_,I.laid (a:=s.heap.objs.size) (o:=.dT []) (t':=s.toks) (fun _ _ q=>Heap.get?_push_of_some _ q) (Nat.le_refl _) (dt_empty s.heap I.big),rfl,h _ (I.hok.fresh (Nat.le_refl _))⟩
end
def zbk (kvs more:List (Key×V)):List (Key×V):=more.foldl (fun acc kv=>zgs acc kv.1 kv.2) kvs
theorem KV.merge:∀{more:List (Key×V)} {rs:List (Key×Value)} {kvs:List (Key×V)} {vs:List (Key×Value)},KV more rs->KV kvs vs->KV (zbk kvs more) (merged vs rs):=by
 intro more rs kvs vs r
 unfold KV at r
 induction r generalizing kvs vs with
 |nil=>intro q;exact q
 |@cons p q ps qs h t ih=>
  intro r0
  have e:KV (zgs kvs p.1 p.2) (stored vs q.1 q.2):=by
   have:=r0.put p.1 h.2
   rw [<-h.1];exact this
  exact ih e
theorem zhj:∀(more kvs:List (Key×V)),(zbk kvs more).length<=kvs.length+more.length
 |[],kvs=>by show kvs.length<=kvs.length+0;omega
 |p::r,kvs=>by
  have h1:=zhj r (zgs kvs p.1 p.2)
  have h2:=zeg kvs p.1 p.2
  show (zbk (zgs kvs p.1 p.2) r).length<=_
  rw [length_cons];omega
structure M2 (X:Cx)(o:Expr)(m:Str)(apos:Pos)(e f:Expr)(cpos:Pos):Prop where
 base:attributeBase o m X.env (eval o X.env)=eval o X.env
 few:((backTo cpos (starEach [e,f] X.env)).all (fun x=> !x.1)&&(backToKw cpos (keywordEach [] X.env)).all (fun x=>x.1.isSome)
  &&decide (([e,f]:List Expr).length+([]:List Keyword).length+(if ([]:List Keyword).isEmpty then 0 else 1)<30))=true
 line:(apos.endLine==cpos.line)=true
 trees:backTo cpos (starEach [e,f] X.env)=[(false,eval e X.env),(false,eval f X.env)]
def IsD (H:Hp)(a:Addr):Prop:=(∃kvs,Rd H a (.dK kvs))\/∃kvs,Rd H a (.dT kvs)
theorem isD_at {X:Cx}{pins:List (Addr×Obj)}{σ:St}{H:Hp}{s:Shared}{a:Addr}(I:Inv X pins σ H s)(d:IsD H a):
  s.TypeIs (.ref a) "dict"/\(∀b,Value.ref a=.ref b->∃ob,s.heap.get? b=some ob/\ob.dict=none)/\(a==sysModules)=false:=by
 rcases d with ⟨kvs,e⟩|⟨kvs,e⟩
 ·obtain ⟨_,hd,vs,_,dd⟩:=zlc I.hok e
  refine ⟨dd.typeIs,fun b q=>?_,hd⟩
  cases q
  obtain ⟨ob,_,_,h1,h2,_⟩:=dd
  exact ⟨ob,h1,h2.2.1⟩
 ·obtain ⟨_,hd,xs,_,dd⟩:=zpx I.hok e
  refine ⟨dd.typeIs,fun b q=>?_,hd⟩
  cases q
  obtain ⟨ob,_,_,h1,h2,_⟩:=dd
  exact ⟨ob,h1,h2.2.1⟩
section
variable {X:Cx}{pins:List (Addr×Obj)}{σ:St}{H:Hp}{s:Shared}{a:Addr}{y d:V}{u r:Value}{o:Option V}{A:Around}{E:Value->Shared->Prop}
theorem d_get2 {Q:Value->Shared->Prop}(hu:A.units+1<cLine)(I:Inv X pins σ H s)(g:DGet H a y o)(ry:RelV y u)(rd:RelV d r)(h:∀w' s',Inv X pins σ H s'->RelV (o.getD d) w'->Q w' s'):
  wpAny (model X.prog X.w) A (call (.builtin "dict.get") [.ref a,u,r]) Q E s:=by
 rcases g with ⟨kvs,k,e,ey,l⟩|⟨kvs,k,b,e,ey,eb,l⟩
 ·subst ey
  obtain ⟨z,hd,vs,rel,dd⟩:=zlc I.hok e
  refine call_meetsIn PySem.F.slot_dict_get dd.typeIs PySem.F.entry_dict_get (PySem.F.args_dict_get_3 _ _ _) (meets_dict_get_default (zc9 X.prog X.w) a (zpn ry) hd r) ⟨_,dd.mapOf,h _ _ (I.tok _) ?_⟩
  rw [l]
  exact (rel.val k).getD rd
 ·subst ey
  cases (show u=Value.ref b from ry)
  obtain ⟨z,hd,xs,rel,dd⟩:=zpx I.hok e
  refine call_meetsIn PySem.F.slot_dict_get dd.typeIs PySem.F.entry_dict_get (PySem.F.args_dict_get_3 _ _ _) (meetsH_dict_get_default (tupleKind (zc9 X.prog X.w)) a b hd r) ⟨tupleKind_room_in1 hu,k,xs,zkl I.hok eb,dd,h _ _ (I.tok _) ?_⟩
  rw [l]
  exact (rel.val k).getD rd
end
def zqp (td ty tx:TE):TE:=fun σ H Q=>td σ H fun x H1=>∃a,x=.ref a/\IsD H1 a/\ty σ H1 fun y H2=>tx σ H2 fun z H3=>∃o,DGet H3 a y o/\Q (o.getD z) H3
section
variable {X:Cx}{o e f:Expr}{apos cpos:Pos}{td ty tx:TE}
theorem zlm (hu:X.A.units+1<cLine)(ho:PE X o td)(he:PE X e ty)(hf:PE X f tx)(m:M2 X o "get" apos e f cpos):PE X (.Call (.Attribute o "get" apos) [e,f] [] cpos) (zqp td ty tx):=by
 intro pins s σ H Q I h
 refine wpAny_Call_method m.base m.few m.line PySem.F.plainAttrs_dict PySem.F.slot_dict_get PySem.F.type_dict_get (thn (ho pins s σ H _ I h) fun u s1 ⟨x,H1,I1,rx,a,ex,d,q1⟩=>?_)
 subst ex
 obtain rfl:u=Value.ref a:=rx
 obtain ⟨t1,t2,_⟩:=isD_at I1 d
 refine ⟨t1,t2,?_⟩
 rw [m.trees]
 refine Calls.callWith_builtin rfl (Calls.evalArgs_plain (Calls.spliced_cons (thn (he pins s1 σ H1 _ I1 q1) fun iv s2 ⟨y,H2,I2,ry,q2⟩=>
  Calls.spliced_cons (thn (hf pins s2 σ H2 _ I2 q2) fun fv s3 ⟨z,H3,I3,rz,ov,g,q3⟩=>Calls.spliced_nil ?_))))
 exact d_get2 hu I3 g ry rz fun w' s4 I4 rw'=>⟨_,H3,I4,rw',q3⟩
end
section
variable {X:Cx}{pins:List (Addr×Obj)}{σ:St}{H:Hp}{s:Shared}{a:Addr}{kvs:List (Key×V)}{A:Around}{E:Value->Shared->Prop}
end
section
variable {X:Cx}{pins:List (Addr×Obj)}{σ:St}{H:Hp}{s:Shared}{a:Addr}{y:V}{u:Value}{A:Around}{E:Value->Shared->Prop}
end
end L2
namespace Att
open PySem PySem.W PySem.Calls PyProof.Rows
theorem zme {P:Params}{h:Heap}:∀(ns:List Int) (vs:List Value),WellAll P h vs (ns.map WData.int)->IntsAre vs ns:=by
 intro ns
 induction ns with
 |nil=>
  intro vs w
  rw [List.map_nil] at w
  cases w
  exact .nil
 |cons n ns ih=>
  intro vs w
  rw [map_cons] at w
  cases w with
  |cons a b=>
   cases a
   exact .cons _ _ (ih _ b)
theorem script_of {l:OpenLaw}{n:Nat}(hn:l.most=some n){P:Params}{h:Heap}{args:List WData}{vals:List Value}
  (hpre:l.row.toRowW.claim.pre args=true) (hwl:WellAll P h vals args):
  ∃a vs ns,vals=[Value.ref a]/\args=[WData.list (ns.map WData.int)]/\h.get? a=some {cls:=.type "list",data:=.seq vs.toArray}/\IntsAre vs ns/\ns.length<=n:=by
 have hsh:WShape.hasAll [] args [.list .int]=true:=(pre_splitW hpre).1
 have hc:l.pre.holds [] {args:=args}=true:=(pre_splitW hpre).2
 obtain ⟨d,r,rfl,h1,h2⟩:=hasAllW_cons hsh
 obtain rfl:=hasAllW_nil h2
 obtain ⟨xs,rfl,h3⟩:=hasW_list h1
 obtain ⟨ns,rfl⟩:=items_int h3
 have hlen:ns.length<=n:=by
  unfold OpenLaw.pre at hc
  have h4:(WTm.not (.lt (.lit (.int (n:Int))) (.len (.arg 0)))).holds [] {args:=[.list (ns.map .int)]}=true:=by
   have h4:=(holds_andW hc).1
   rw [hn] at h4
   exact h4
  have h5:=condW_of h4 (w_not (w_lt w_lit (w_len_list (w_arg rfl))))
  rw [length_map] at h5
  refine Nat.le_of_not_lt fun q=>?_
  have q':(n:Int)<((ns.length:Nat):Int):=by omega
  first
   |(rw [decide_eq_true q'] at h5;exact absurd h5 (by decide))
   |(simp at h5;omega)
 cases hwl with
 |cons w1 w2=>
  cases w2
  cases w1 with
  |list ho hall=>exact ⟨_,_,ns,rfl,rfl,ho,zme ns _ hall,hlen⟩
theorem post_true (l:OpenLaw)(args:List WData):l.row.toRowW.claim.post args (.bool true) args=true:=
 postW_of (r:=l.row.toRowW) (X:=(true==true))
  (show WShape.has [] (.bool true) .bool=true by first|rfl|decide|simp [WShape.has,WShape.arms,WShape.armsAll])
  (show (WTm.eq .res (.lit (.bool true))).value [] {args:=args,res:=some (.bool true),after:=args}=some (.bool (true==true)) from w_eq_bool (w_res rfl) w_lit) rfl
theorem attach_call {l:OpenLaw}{n:Nat}{q:Program}{loose:List Str}{XP:(Str->Option Value)->Heap->Prop}{YP:World->Heap->Prop}{d:DefRec}
  (hn:l.most=some n) (hdf:d.params.defaults=[])
  (call:∀(w:World) (s₀ s₁:Shared) (mg mb:Str->Option Value) (fa:Addr) (o:Obj) (pm cd doc:Value) (a:Addr) (vs:List Value) (ns:List Int),
   Ground q loose [] XP w s₀ mg mb s₁.heap->YP w s₁.heap->
   s₁.heap.get? fa=some o->o.data=.func (docDef d.name d.params d.body d.scope pm cd doc)->s₁.heap.CodeRec cd d.name->mg d.name=some (.ref fa)->
   s₁.heap.get? a=some {cls:=.type "list",data:=.seq vs.toArray}->IntsAre vs ns->ns.length<=n->s₁.gens= #[]->
   codeAny (model l.prog w) callerA (.call (.ref fa) ⟨[.ref a],[]⟩) (fun r s'=>r=.ok (.ret (.bool true))/\OldK s₁.heap s'.heap/\s'.os=s₁.os/\AllBare s'.gens) s₁):
  WalkO q loose XP YP l.row.toRowW d [] (fun f vs=>PySem.call f vs):=by
 intro w s₀ s₁ mg mb G Y fa o pm cd doc dV kV ho hd hcd hD hmg hg args vals as hpre hlay hrd hwl hlo
 obtain rfl:dV=.none:=Dflts.none hD hdf
 obtain rfl:kV=.none:=Dflts.noKw hD
 obtain ⟨a,vs,ns,rfl,rfl,hobj,hints,hlen⟩:=script_of hn hpre hwl
 refine enter_call (codeAny_mono (call w s₀ s₁ mg mb fa o pm cd doc a vs ns G Y ho (fd_plain hd) hcd hmg hobj hints hlen hg) fun r s' hq=>?_)
 obtain ⟨rfl,h2,h3,h4⟩:=hq
 exact ⟨.inl ⟨.bool true,.bool true,[],rfl,fun _=>rfl,.bool true,post_true l _,fun _=>⟨List.Pairwise.nil,fun _ hm=>(nomatch hm)⟩⟩,h2,h3,h4⟩
section
variable {prog:Program}{w:World}{A:Around}{E:Value->Shared->Prop}{s:Shared}{K:Frag}
end
end Att
namespace L2
open PySem PySem.Spec PyProof.Rows
theorem zql:∀{vs:List Value} {ns:List Int},IntsAre vs ns->Vals (ns.map V.int) vs
 |_,_,.nil=>.nil
 |_,_,.cons n t h=>.cons ⟨t,rfl⟩ (zql h)
def Only (H:Hp):Prop:=∀b,H b=none\/∃o xs,H b=some (.frz o (.lst xs))
theorem law_call {P:Program}{w:World}{K:PySem.W.Frag}{mg mb:Str->Option Value}{CX:CXT}{k:Nat}{fa a:Addr}{fd:FuncData}{x:Str}{sp:Sp}{s₁:Shared}{vs:List Value}{ns:List Int}
  (KX:K.In s₁.heap) (hns:s₁.heap.Ns mainGlobals mg) (hb:s₁.heap.Ns builtinsNs mb) (hbb:∀x:Str,x≠"__name__"->mb x=bootBuiltins x) (hlim:s₁.heap.NoLimit) (hg:s₁.gens= #[])
  (ha:s₁.heap.get? a=some {cls:=.type "list",data:=.seq vs.toArray}) (hi:IntsAre vs ns) (hl:ns.length<=sizeLine) (hr:Room k callerA)
  (F:∀base:Heap,K.In base->base.Ns mainGlobals mg->FnOk P w K mg base CX k fa fd [x] sp) (hbind:∀(s:Shared) (u:Value),BindsTo s fd ⟨[u],[]⟩ [(x,u)])
  (hsp:∀H:Hp,Only H->SqL K H a (ns.map V.int)->sp [.ref a] H (fun v _=>v=.bl true) fun _ _ _=>False)
  (hCX:∀H e s',CX [] H s₁ (fun _ _ _=>False) e s'->False):
  codeAny (model P w) callerA (.call (.ref fa) ⟨[.ref a],[]⟩) (fun r s'=>r=.ok (.ret (.bool true))/\OldK s₁.heap s'.heap/\s'.os=s₁.os/\AllBare s'.gens) s₁:=by
 have rv:=zql hi
 have lenV:=hi.length
 have core:∀H:Hp,Only H->SqL K H a (ns.map V.int)->HOk P w H s₁.heap->(∀b,H b≠none->b=a)->(H a≠none->K.lookup a=none)->
   codeAny (model P w) callerA (.call (.ref fa) ⟨[.ref a],[]⟩) (fun r s'=>r=.ok (.ret (.bool true))/\OldK s₁.heap s'.heap/\s'.os=s₁.os/\AllBare s'.gens) s₁:=by
  intro H hO hS hok hA hK
  have base_of:∀{b:Addr} {o:Obj},s₁.heap.get? b=some o->H b=none->(hidT s₁.heap H).get? b=some o:=fun e n=>hidT_get e n
  have noA:∀{b:Addr} {o:Obj} {es:Array DictEntry} {ep:Nat},s₁.heap.get? b=some o->o.data=.dict es ep->H b=none:=fun {b o es ep} e d=>by
   cases q:H b with
   |none=>rfl
   |some u=>
    have e':b=a:=hA b (by rw [q];simp)
    subst e'
    rw [ha] at e;cases e
    have d':Data.seq vs.toArray _=Data.dict es ep:=d
    cases d'
  have nsK:∀{b:Addr} {m:Str->Option Value},s₁.heap.Ns b m->(hidT s₁.heap H).Ns b m:=fun {b m} ⟨o,es,ep,e,d,r⟩=>⟨o,es,ep,base_of e (noA e d),d,r⟩
  have hKb:K.In (hidT s₁.heap H):=fun b o e=>base_of (KX b o e) (by
   cases q:H b with
   |none=>rfl
   |some u=>
    have e':b=a:=hA b (by rw [q];simp)
    subst e'
    rw [hK (by rw [q];simp)] at e;cases e)
  have hM:Mod K mg (hidT s₁.heap H):=⟨hKb,nsK hns,⟨mb,nsK hb,hbb⟩,let ⟨mc,h1,h2⟩:=hlim;⟨mc,nsK h1,h2⟩⟩
  have e0:Env0 P w K mg (hidT s₁.heap H) callerA [] s₁ H:=⟨rfl,hM,fun b o e=>of_hidT e,Nat.le_of_eq (hidT_size _ _),trivial,fun b hb=>absurd (show b∈([]:List Addr) from hb) (by simp),hok,.of_eq hg⟩
  refine codeAny_mono ((F _ hKb (nsK hns)).run callerA [] s₁ H ⟨[.ref a],[]⟩ [.ref a] [.ref a] _ _ hr e0 (hbind s₁ (.ref a)) (.cons rfl .nil) (hsp H hO hS)) fun r s' h=>?_
  cases r with
  |error e=>exact (hCX H e s' h).elim
  |ok fl=>
   cases fl with
   |next=>exact False.elim h
   |brk=>exact False.elim h
   |cont=>exact False.elim h
   |ret u=>
    obtain ⟨v,H',os,bare,un,hok',r',q⟩:=h
    have q':v=.bl true:=q
    subst q'
    obtain rfl:u=Value.bool true:=r'
    refine ⟨rfl,OldK.of_keep fun b o e=>?_,os,bare⟩
    cases q:H b with
    |none=>exact un.keep b o e q (by intro z;exact absurd (show b∈([]:List Addr) from z) (by simp)) (by simp)
    |some u=>
     rcases hO b with z|⟨ob,xs,z⟩
     ·rw [q] at z;cases z
     ·have z2:=un.frzs b ob _ z
      obtain ⟨e1,_⟩:=hok b _ z
      obtain ⟨e2,_⟩:=hok' b _ z2
      rw [e] at e1;cases e1
      exact e2
 cases hk:K.lookup a with
 |some o=>
  have e:=KX a o hk
  rw [ha] at e
  cases e
  refine core (fun _=>none) (fun _=>.inl rfl) (.inr ⟨_,vs.toArray,_,hk,rfl,rfl,rfl,by rw [List.size_toArray,lenV];exact hl,by simpa using rv⟩) (fun b u z=>by have z':(none:Option HO)=some u:=z;cases z') (fun b z=>absurd rfl z) fun z=>absurd rfl z
 |none=>
  refine core (fun b=>if b=a then some (.frz {cls:=.type "list",data:=.seq vs.toArray} (.lst (ns.map V.int))) else none) (fun b=>?_) (.inl (.inr ⟨{cls:=.type "list",data:=.seq vs.toArray},if_pos rfl⟩)) (fun b u z=>?_) (fun b z=>?_) fun _=>hk
  ·by_cases hb:b=a
   ·exact .inr ⟨_,_,if_pos hb⟩
   ·exact .inl (if_neg hb)
  ·by_cases hb:b=a
   ·have z':=(if_pos hb).symm.trans z
    cases z'
    subst hb
    exact ⟨ha,by rw [length_map];exact hl,vs,_,rv,ha⟩
   ·have z':=(if_neg hb).symm.trans z
    cases z'
  ·by_cases hb:b=a
   ·exact hb
   ·exact absurd (if_neg hb) z
end L2
namespace L2
open PySem PySem.Spec PyProof.Rows
theorem walk_of {l:PySem.W.OpenLaw}{n k:Nat}{q:Program}{loose:List Str}{XP:(Str->Option Value)->Heap->Prop}{YP:World->Heap->Prop}{d:DefRec}{K:Params->PySem.W.Frag}{CX:World->CXT}{sp:World->Sp}{x:Str}
  (hn:l.most=some n) (hn2:n<=sizeLine) (hdf:d.params.defaults=[]) (hr:Room k callerA)
  (hY:∀(w:World) (h:Heap),YP w h->(K w.params).In h)
  (F:∀(w:World) (mg:Str->Option Value) (fa:Addr) (h:Heap),(K w.params).In h->h.Ns mainGlobals mg->mg d.name=some (.ref fa)->
   ∃fd:FuncData,(∀(s:Shared) (u:Value),BindsTo s fd ⟨[u],[]⟩ [(x,u)])/\
    ∀base:Heap,(K w.params).In base->base.Ns mainGlobals mg->FnOk l.prog w (K w.params) mg base (CX w) k fa fd [x] (sp w))
  (hsp:∀(w:World) (H:Hp) (a:Addr) (ns:List Int),ns.length<=n->Only H->SqL (K w.params) H a (ns.map V.int)->sp w [.ref a] H (fun v _=>v=.bl true) fun _ _ _=>False)
  (hCX:∀(w:World) (H:Hp) (s:Shared) (e:Value) (s':Shared),CX w [] H s (fun _ _ _=>False) e s'->False):
  PySem.W.WalkO q loose XP YP l.row.toRowW d [] (fun f vs=>PySem.call f vs):=by
 refine Att.attach_call hn hdf fun w s₀ s₁ mg mb fa o pm cd doc a vs ns G Y ho hd hcd hmg hobj hints hlen hg=>?_
 have KX:=hY w _ Y
 obtain ⟨fd,hb,hF⟩:=F w mg fa _ KX G.T.g hmg
 exact law_call KX G.T.g G.T.b G.T.builtins G.T.nolimit hg hobj hints (Nat.le_trans hlen hn2) hr hF hb (fun H hO hS=>hsp w H a ns hlen hO hS) fun H e s'=>hCX w H s₁ e s'
end L2
/-THE LAST THEOREM (shape;LID,My.*are yours):
  My.Adr:a structure of the addresses that your layer names (classes,functions);My.Txt K t:a structure (Prop) of the equations over K;
  My.txt_mk:{K} {implicit addresses ..} (e1:nsIn K mainGlobals "law"=some (some (.ref f))) (e2:K.lookup f=some ⟨oc,od,.func (fnOf "law" "law" params body scope dV kV doc pm an cdv ct),sl⟩) (e3:codeIn K cdv "law"=true) ..:∃t,My.Txt K t
set_option maxRecDepth 100000 in
set_option maxHeartbeats 0 in
theorem PySem.Challenge.cw_LID_holds:PySem.Challenge.rw_LID.Holds:=by
 w_on;o_law;k_head;(case hw=>w_witness2)
 k_fill
 refine L2.walk_of (l:=PySem.Challenge.rw_LID) (n:=63) (k:=40) (x:="script") (CX:=fun w=>..) (sp:=fun _=>My.sp_law) rfl (by decide) rfl ⟨rfl,by decide,by decide⟩ (fun w h Y=>PySem.W.kIn_of Y) ?F ?S ?C
 case F=>
  intro w mg fa h KX G hmg
  have T:∃t,My.Txt (L2.KOf KX) t:=by
   dsimp only [L2.KOf]--K must stand as «<heap const> w.params» for k_is
   refine' My.txt_mk ?e1 ?e2 ?e3 ..
   (case e1=>PySem.W.k_is)--in the order:a name->its address->its object->its parts
   (case e2=>PySem.W.k_is)
   ..
  obtain ⟨t,T⟩:=T
  have e0:=hmg.symm.trans (PySem.W.mg_of KX G T.law)
  cases e0--fa is the law's own address
  exact ⟨_,fun s u=>.of_eq rfl,fun base kb nb=>My.law_fn T kb nb⟩--if «.of_eq rfl» comes too early:refine' ⟨_,?b,fun base kb nb=>My.law_fn T kb nb⟩;exact fun s u=>.of_eq rfl
 case S=>exact fun w H a ns hl hO hS=>..
 case C=>exact ..
(the tactic k_is has no namespace:write k_is)-/
namespace L2
open PySem PySem.Spec PyProof.Rows
def zdj (s:Stmt):Arguments:=match s with
 |.FunctionDef _ a _ _ _ _ _ _ _ _=>a
 |_=>{posonlyargs:=[],args:=[],vararg:=none,kwonlyargs:=[],kw_defaults:=[],kwarg:=none,defaults:=[]}
def zcr (s:Stmt):List Stmt:=match s with
 |.FunctionDef _ _ b _ _ _ _ _ _ _=>b
 |_=>[]
def zam (s:Stmt):Scope:=match s with
 |.FunctionDef _ _ _ _ _ _ sc _ _ _=>sc
 |_=>{kind:=.function,names:=[],isGenerator:=false,isCoroutine:=false}
abbrev CX0:CXT:=fun _ _ _ _ _ _=>False
abbrev E0:XK:=fun _ _ _=>False
theorem pass0 {X:Cx}:zmw CX0 X E0:=fun _ _ _ _ _ _ _ h=>h.elim
structure Fun (K:PySem.W.Frag)(x qual:Str)(st:Stmt)(f:Addr)(fd:FuncData):Prop where
 ex:∃(oc:Value) (od:Option Addr) (kV doc pm:Value) (an:Option Addr) (cdv ct:Value) (osl:Array (Option Value)),
  fd=PySem.W.fnOf x qual (zdj st) (zcr st) (zam st) .none kV doc pm an cdv ct/\K.lookup f=some ⟨oc,od,.func fd,osl⟩/\PySem.W.codeIn K cdv qual=true
 kp:PySem.W.keepIn K (.ref f)=true
section
variable {P:Program}{w:World}{K:PySem.W.Frag}{mg:Str->Option Value}{base:Heap}
theorem Fun.ok {x qual:Str}{st:Stmt}{f:Addr}{fd:FuncData}{N ps:List Str}{k:Nat}{sp:Sp}(F:Fun K x qual st f fd)(S:zbd N ps (zam st))(len:∀vs H Q E,sp vs H Q E->vs.length=ps.length)
  (hbody:∀(cdv:Value) (A:Around) (outer:List Env) (s:Shared) (H:Hp) (vs:List V) (Q:VK) (E:XK),Room k (A.deeper (envOfC qual (zam st) s.heap.objs.size f cdv))->sp vs H Q E->
   ∃t,PSs (cxOf CX0 P w K mg base N qual (zam st) f cdv A outer s H E).nox (zcr st) t/\t {nx:=fun _ H'=>Q .non H',rt:=Q} (start N vs) H):FnOk P w K mg base CX0 (k+1) f fd ps sp:=by
 obtain ⟨oc,od,kV,doc,pm,an,cdv,ct,osl,rfl,lk,hcd⟩:=F.ex
 refine fn_of lk hcd S len fun A outer s H vs Q E hr hsp=>?_
 obtain ⟨t,h,q⟩:=hbody cdv A outer s H vs Q E hr hsp
 exact ⟨t,h.nox,q⟩
theorem Fun.binds {x qual:Str}{st:Stmt}{f:Addr}{fd:FuncData}{ps:List Str}(F:Fun K x qual st f fd)
  (h:∀(kV doc pm:Value) (an:Option Addr) (cdv ct:Value) (us:List Value),us.length=ps.length->bindArgs (PySem.W.fnOf x qual (zdj st) (zcr st) (zam st) .none kV doc pm an cdv ct) ⟨us,[]⟩=pure (ps.zip us)):Binds K fd ps []:=by
 obtain ⟨oc,od,kV,doc,pm,an,cdv,ct,osl,rfl,lk,hcd⟩:=F.ex
 exact .all (h kV doc pm an cdv ct)
theorem fun_mk {x qual:Str}{st:Stmt}{f:Addr}{oc:Value}{od an:Option Addr}{osl:Array (Option Value)}{kV doc pm cdv ct:Value}(l:K.lookup f=some ⟨oc,od,.func (PySem.W.fnOf x qual (zdj st) (zcr st) (zam st) .none kV doc pm an cdv ct),osl⟩)
  (c:PySem.W.codeIn K cdv qual=true) (k:PySem.W.keepIn K (.ref f)=true):Fun K x qual st f (PySem.W.fnOf x qual (zdj st) (zcr st) (zam st) .none kV doc pm an cdv ct):=⟨⟨oc,od,kV,doc,pm,an,cdv,ct,osl,rfl,l,c⟩,k⟩
end
theorem zmf {A:Around}{k:Nat}(hr:Room k A):A.units+1<cLine:=Nat.lt_of_le_of_lt (Nat.add_le_add_left (by decide:1<=64) _) hr.units
theorem zar {n:Nat}(h:n<=1000):n<sizeLine:=Nat.lt_of_le_of_lt h (by decide)
section
variable {X:Cx}
theorem pv (i:Nat){x:Str}{pos:Pos}(hN:X.N[i]?=some x:=by rfl)(hv:Vis X.env.scope x:=by first|exact Or.inl rfl|exact Or.inr (Or.inl rfl)|exact Or.inr (Or.inr rfl))(hd:(x==("__debug__":Str))=false:=by decide)
  (hcd:(x==("__classdict__":Str))=false:=by decide):PE X (.Name x pos) (zdk i):=pe_var hN hv hd hcd
end
def Same (H H':Hp):Prop:=∀b o,H b=some o->H' b=some o
theorem Same.refl (H:Hp):Same H H:=fun _ _ h=>h
theorem Same.trans {H H1 H2:Hp}(a:Same H H1)(b:Same H1 H2):Same H H2:=fun c o h=>b c o (a c o h)
section
variable {κ:Type} [DecidableEq κ]
end
end L2
namespace PySem
section
variable {env:Env}
theorem ziq (names:List (Str×NameKind)):∀(cs:List (Str×Addr)),(∀n,(n,NameKind.free)∈names->∃c,env.cells.lookup n=some c)->
  ∃cl,(forIn names cs (fun (x:Str×NameKind) (r:List (Str×Addr))=>if (x.2==NameKind.free)=true then (do let c<-cellOf env x.1;pure (ForInStep.yield ((x.1,c)::r))) else pure (ForInStep.yield r)):Sem (List (Str×Addr)))=pure cl/\
   (∀n c,cl.lookup n=some c->env.cells.lookup n=some c\/cs.lookup n=some c)/\(∀n,((n,NameKind.free)∈names\/∃c,cs.lookup n=some c)->∃c,cl.lookup n=some c):=by
 induction names with
 |nil=>intro cs _;exact ⟨cs,rfl,fun n c h=>.inr h,fun n h=>h.elim (fun z=>nomatch z) id⟩
 |cons x r ih=>
  intro cs h
  obtain ⟨n,k⟩:=x
  have hr:∀n,(n,NameKind.free)∈r->∃c,env.cells.lookup n=some c:=fun m hm=>h m (mem_cons_of_mem _ hm)
  by_cases hk:k=.free
  ·subst hk
   obtain ⟨c,hc⟩:=h n mem_cons_self
   obtain ⟨cl,e,h1,h2⟩:=ih ((n,c)::cs) hr
   refine ⟨cl,?_,fun m d hd=>?_,fun m hm=>?_⟩
   ·rw [List.forIn_cons]
    simp only [beq_self_eq_true,if_true]
    have q:cellOf env n=pure c:=by unfold cellOf;rw [hc]
    rw [q]
    exact e
   ·rcases h1 m d hd with z|z
    ·exact .inl z
    ·rw [List.lookup_cons] at z
     by_cases hmn:m=n
     ·subst hmn
      simp only [beq_self_eq_true] at z
      exact .inl (hc.trans z)
     ·have:(m==n)=false:=by simpa using hmn
      rw [this] at z
      exact .inr z
   ·refine h2 m ?_
    rcases hm with z|⟨d,z⟩
    ·rcases mem_cons.mp z with z|z
     ·obtain ⟨rfl,_⟩:=Prod.mk.inj z
      exact .inr ⟨c,by simp [List.lookup_cons]⟩
     ·exact .inl z
    ·right
     rw [List.lookup_cons]
     cases (m==n)
     ·exact ⟨d,z⟩
     ·exact ⟨c,rfl⟩
  ·have hb:(k==NameKind.free)=false:=by simpa using hk
   obtain ⟨cl,e,h1,h2⟩:=ih cs hr
   refine ⟨cl,?_,h1,fun m hm=>h2 m ?_⟩
   ·rw [List.forIn_cons]
    simp only [hb,Bool.false_eq_true,if_false]
    exact e
   ·rcases hm with z|z
    ·rcases mem_cons.mp z with z|z
     ·exact absurd (Prod.mk.inj z).2.symm hk
     ·exact .inl z
    ·exact .inr z
theorem zhq {scope:Scope}(h:∀n,(n,NameKind.free)∈scope.names->∃c,env.cells.lookup n=some c):
  ∃cl,closureFor scope env=pure cl/\(∀n c,cl.lookup n=some c->env.cells.lookup n=some c)/\(∀n,(n,NameKind.free)∈scope.names->∃c,cl.lookup n=some c):=by
 obtain ⟨cl,e,h1,h2⟩:=ziq scope.names [] h
 refine ⟨cl,?_,fun n c hc=>(h1 n c hc).elim id fun z=>(by simp at z),fun n hn=>h2 n (.inl hn)⟩
 simp only [closureFor]
 have q:=congrArg (fun t=>t>>=fun r=>(pure r:Sem (List (Str×Addr)))) e
 exact q
end
section
variable {prog:Program}{w:World}{A:Around}{R:Result->Shared->Prop}{s:Shared}
theorem zio {elt target iter:Expr}{ifs:List Expr}{scope:Scope}{pos:Pos}{it acc:Value}{env:Env}(I:Nat->Shared->Prop)
  (turn:∀n s,I n s->wpAny (model prog w) A (pyNext it) (fun r s₁=>match r with
   |none=>R (.ok .next) s₁
   |some v=>wpAny (model prog w) A (letOwnedTupleGo target it v) (fun _ s₁'=>wpAny (model prog w) A (assign target env v) (fun _ s₂=>
     wpAny (model prog w) A (forIn ifs true fun c r=>if r=true then do let ok<-isTrue c env (eval c env);pure (ForInStep.yield ok) else pure (ForInStep.yield r)) (fun ok s₃=>
      if ok=true then wpAny (model prog w) A (eval elt env) (fun x s₄=>
       wpAny (model prog w) A (call (.builtin "list.append") [acc,x]) (fun _ s₅=>∃m,m<n/\I m s₅) (fun _ _=>False) s₄) (fun _ _=>False) s₃
      else∃m,m<n/\I m s₃) (fun _ _=>False) s₂) (fun _ _=>False) s₁') (fun _ _=>False) s₁) (fun _ _=>False) s)
  (n:Nat) (h:I n s):
  codeAny (model prog w) A (.compLoop (.ListComp elt [⟨target,iter,ifs,0⟩] scope pos) 0 it acc env) R s:=by
 refine codeAny_loop rfl I (fun n s hI=>?_) n h
 show wpAny _ A ((compTurn (.ListComp elt [⟨target,iter,ifs,0⟩] scope pos) 0 it acc env).onRaise (fun x=>do noteFrame x env;theTreesLotGoes x)) _ _ s
 refine wpAny_noted ?_
 rw [compTurn_list]
 refine wpAny_bind (wpAny_standAt (wpAny_bind (wpAny_mono (turn n s hI) (fun r s₁ h₁=>?_) fun _ _ h'=>h'.elim)))
 cases r with
 |none=>exact wpAny_pure h₁
 |some v=>
  refine wpAny_bind (wpAny_mono h₁ (fun _ s₁' h₁'=>?_) fun _ _ h'=>h'.elim)
  refine wpAny_bind (wpAny_mono h₁' (fun _ s₂ h₂=>wpAny_bind (wpAny_mono h₂ (fun ok s₃ h₃=>?_) fun _ _ h'=>h'.elim)) fun _ _ h'=>h'.elim)
  cases ok with
  |false=>exact wpAny_pure ⟨rfl,h₃⟩
  |true=>
   exact wpAny_bind (wpAny_bind (wpAny_mono h₃ (fun x s₄ h₄=>wpAny_bind (wpAny_mono h₄ (fun _ s₅ h₅=>wpAny_pure (wpAny_pure ⟨rfl,h₅⟩)) fun _ _ h'=>h'.elim)) fun _ _ h'=>h'.elim))
end
end PySem
namespace L2
open PySem PySem.Spec PyProof.Rows
theorem mem_of_lookup:∀{l:List (Str×NameKind)} {x:Str} {k:NameKind},l.lookup x=some k->(x,k)∈l
 |[],_,_,h=>by simp at h
 |(n,j)::r,x,k,h=>by
  rw [List.lookup_cons] at h
  by_cases e:x=n
  ·subst e
   simp only [beq_self_eq_true] at h
   cases h
   exact mem_cons_self
  ·have:(x==n)=false:=by simpa using e
   rw [this] at h
   exact mem_cons_of_mem _ (mem_of_lookup h)
theorem zkj {env:Env}:∀{names:List (Str×NameKind)} {x:Str},names.lookup x=some .free->
  (names.map fun (n,k)=>if (k==NameKind.free&&env.scope.kind==.function&&env.kindOf n==some .cell) then (n,NameKind.cell) else (n,k)).lookup x=some .cell\/
  (names.map fun (n,k)=>if (k==NameKind.free&&env.scope.kind==.function&&env.kindOf n==some .cell) then (n,NameKind.cell) else (n,k)).lookup x=some .free
 |[],_,h=>by simp at h
 |(n,k)::r,x,h=>by
  have ih:=@zkj env r x
  show List.lookup x ((if (k==NameKind.free&&env.scope.kind==.function&&env.kindOf n==some .cell)=true then (n,NameKind.cell) else (n,k))::_)=_\/List.lookup x ((if (k==NameKind.free&&env.scope.kind==.function&&env.kindOf n==some .cell)=true then (n,NameKind.cell) else (n,k))::_)=_
  cases hx:x==n with
  |true=>
   simp only [List.lookup_cons,hx] at h
   cases h
   by_cases hc:(NameKind.free==NameKind.free&&env.scope.kind==.function&&env.kindOf n==some .cell)=true
   ·rw [if_pos hc];simp only [List.lookup_cons,hx];exact .inl trivial
   ·rw [if_neg hc];simp only [List.lookup_cons,hx];exact .inr trivial
  |false=>
   simp only [List.lookup_cons,hx] at h
   by_cases hc:(k==NameKind.free&&env.scope.kind==.function&&env.kindOf n==some .cell)=true
   ·rw [if_pos hc];simp only [List.lookup_cons,hx];exact ih h
   ·rw [if_neg hc];simp only [List.lookup_cons,hx];exact ih h
theorem znv {env:Env}{scope:Scope}(hcell:∀y∈scope.names,y.2≠.cell){x:Str}{k:NameKind}(hk:k=.cell\/k=.free)(h:(relabel scope env).names.lookup x=some k):(x,NameKind.free)∈scope.names:=by
 obtain ⟨⟨n,j⟩,hm,e⟩:=mem_map.mp (mem_of_lookup h)
 by_cases hc:(j==NameKind.free&&env.scope.kind==.function&&env.kindOf n==some .cell)=true
 ·have e1:(n,NameKind.cell)=(x,k):=by simpa only [hc,if_true] using e
  have e2:j=.free:=by
   simp only [Bool.and_eq_true] at hc
   exact beq_iff_eq.mp hc.1.1
  subst e2
  cases e1
  exact hm
 ·have e1:(n,j)=(x,k):=by
   have:=e
   simp only [hc] at this
   exact this
  cases e1
  rcases hk with rfl|rfl
  ·exact absurd rfl (hcell _ hm)
  ·exact hm
section
variable {X:Cx}
def zbi (X:Cx)(N':List Str)(scope:Scope)(cl:List (Str×Addr))(C:Addr)(fp:List Addr)(s:Shared)(H:Hp):Cx:=
 {X with N:=N',s₀:=s,H₀:=H,env:=compEnvC scope cl C X.env,outer:=X.stack,stack:=X.stack,ex:=fp,fn:=fun _=>false,pn:=[],xe:=fun _ _=>False}
def PTs (X:Cx)(ifs:List Expr)(t:TT):Prop:=
 ∀(pins:List (Addr×Obj)) (s:Shared) (σ:St) (H:Hp) (Q:Bool->Hp->Prop),Inv X pins σ H s->t σ H Q->
  wpAny (model X.prog X.w) X.A (forIn ifs true fun c r=>if r=true then do let ok<-isTrue c X.env (eval c X.env);pure (ForInStep.yield ok) else pure (ForInStep.yield r)) (TP X pins σ Q) X.xe s
def tYes:TT:=fun _ H Q=>Q true H
theorem zhv:PTs X [] tYes:=fun _ _ _ H _ I h=>wpAny_tests_nil ⟨H,I,h⟩
theorem zez {c:Expr}{t:TT}(h:PT X c t):PTs X [c] t:=fun pins s σ H Q I hq=>wpAny_tests_one (h pins s σ H Q I hq)
def CompW (J:It)(D:Addr)(τ₀:St)(g:TG)(tt:TT)(te:TE)(Q:VK)(H:Hp):Prop:=
 ∃W:Nat->Nat->St->Hp->Prop,(∃m,W 0 m τ₀ (upd H D (.lst [])))/\∀i m τ H,W i m τ H->
  (J.stop i H/\Q (.ref D) H)\/
  (J.go i H/\∃N:St->Hp->Prop,(∀τ' H',N τ' H'->∃m',m'<m/\W (i+1) m' τ' H')/\
   ∀x H',J.yld i H x H'->g x τ H' fun τ2 H2=>tt τ2 H2 fun b H3=>if b=true then te τ2 H3 fun v H4=>∃ys,H4 D=some (.lst ys)/\ys.length<sizeLine/\N τ2 (upd H4 D (.lst (ys++[v]))) else N τ2 H3)
def zna (wi:TI)(caps:St->St)(g:TG)(tt:TT)(te:TE):TE:=fun σ H Q=>wi σ H fun J H1=>∀D,H1 D=none->CompW J D (caps σ) g tt te Q H1
variable {tg iter elt:Expr}{ifs:List Expr}{scope:Scope}{pos:Pos}{N':List Str}{caps:St->St}{wi:TI}{g:TG}{tt:TT}{te:TE}
theorem zoi {pins:List (Addr×Obj)}{σ:St}{H2:Hp}{s2:Shared}{J:It}{fp:List Addr}{it:Addr}{tn:Nat->Heap->Prop}{cl:List (Str×Addr)}{Q:VK}{RR:Value->Addr->Result->Shared->Prop}
  (hc:X.calm=true) (hkind:scope.kind=.function) (hcell:∀y∈scope.names,y.2≠.cell)
  (hcap:∀σ:St,σ.length=X.N.length->(caps σ).length=N'.length/\∀(i:Nat) (x:Str) (v:V),N'[i]?=some x->(caps σ)[i]?=some (some v)->scope.names.lookup x=some .free/\∃j:Nat,X.N[j]?=some x/\σ[j]?=some (some v))
  (hfree:∀n,(n,NameKind.free)∈scope.names->X.env.kindOf n=some .cell\/X.env.kindOf n=some .free)
  (hcl1:∀n c,cl.lookup n=some c->X.env.cells.lookup n=some c) (hcl2:∀n,(n,NameKind.free)∈scope.names->∃c,cl.lookup n=some c)
  (hg:∀C s H,PG (zbi X N' scope cl C fp s H) tg g) (hts:∀C s H,PTs (zbi X N' scope cl C fp s H) ifs tt) (hel:∀C s H,PE (zbi X N' scope cl C fp s H) elt te)
  (I2:Inv X pins σ H2 s2) (T:Turn X.prog X.w X.K tg J fp it tn) (st2:tn 0 s2.heap) (f2:∀b∈fp,FpOk X pins H2 b)
  (k2:∀D,H2 D=none->CompW J D (caps σ) g tt te Q H2)
  (hRR:∀D C s' H' m,Inv X pins σ H' s'->s'.heap.Ns C m->s2.heap.objs.size<=C->H' C=none->Q (.ref D) H'->RR (.ref D) C (.ok .next) s'):
  wpAny (model X.prog X.w) X.A (newList []) (fun acc s₃=>wpAny (model X.prog X.w) X.A (newFunctionEnv scope X.env.globals cl [] X.env.qual none .none (some X.env)) (fun cenv s₄=>
   codeAny (model X.prog X.w) X.A (.compStart (.ListComp elt [⟨tg,iter,ifs,0⟩] scope pos) 0 (.ref it) acc {cenv with scope:=relabel scope X.env}) (RR acc cenv.locals) s₄) X.xe s₃) X.xe s2:=by
 refine wpAny_newObj_type (wpAny_newFunctionEnv hcell (by intro y hy;simp at hy) (fun h₁ hns₁ hsb₁=>?_) hkind)
 dsimp only at hns₁ hsb₁⊢
 generalize hH2:s2.heap.push {cls:=.type "list",dict:=none,data:=.seq ([]:List Value).toArray}=HH at hns₁ hsb₁⊢
 have hC:HH.objs.size=s2.heap.objs.size+1:=by rw [<-hH2,Heap.size_push]
 have hDC:s2.heap.objs.size≠HH.objs.size:=by rw [hC];exact Nat.ne_of_lt (Nat.lt_succ_self _)
 have hCle:s2.heap.objs.size<=HH.objs.size:=by rw [hC];exact Nat.le_succ _
 have below:∀b,b<s2.heap.objs.size->b≠HH.objs.size/\b≠s2.heap.objs.size:=fun b hb=>⟨by rw [hC];exact Nat.ne_of_lt (Nat.lt_succ_of_lt hb),Nat.ne_of_lt hb⟩
 have old:∀b o,s2.heap.get? b=some o->h₁.get? b=some o:=fun b o e=>hsb₁.extBut b o (below b (Heap.lt_size e)).1 (Heap.get?_push_of_some _ (hH2▸Heap.get?_push_of_some _ e))
 have hacc:h₁.get? s2.heap.objs.size=some {cls:=.type "list",data:=.seq ([]:List Value).toArray 0}:=hsb₁.extBut _ _ hDC (Heap.get?_push_of_some _ (hH2▸Heap.get?_push_size _ rfl))
 have hDn:H2 s2.heap.objs.size=none:=I2.hok.fresh (Nat.le_refl _)
 have hCn:H2 HH.objs.size=none:=I2.hok.fresh hCle
 have fpC:FpOk X pins H2 HH.objs.size:=I2.fpOk hCle hCn
 have fplt:∀b∈fp,b<s2.heap.objs.size:=fun b hb=>by
  obtain ⟨o,e,_⟩:=T.obj 0 _ st2 b hb
  exact Heap.lt_size e
 have nstk:∀b∈fp,b∉frs X.stack:=fun b hb z=>by
  obtain ⟨_,f1,f2',_⟩:=f2 b hb
  rcases mem_cons.mp (I2.stkSub b z) with e|e
  ·exact f1 e
  ·exact f2' e
 obtain ⟨W,⟨m0,w0⟩,turn⟩:=k2 s2.heap.objs.size hDn
 have capok:=hcap σ I2.len
 have ok:(zbi X N' scope cl HH.objs.size fp s2 H2).Ok:=
  {mod:=I2.ok.mod
   kind:=hkind
   glob:=I2.ok.glob
   blt:=I2.ok.blt
   above:=hCle
   inj:=fun x y c a b=>I2.ok.inj x y c (hcl1 x c a) (hcl1 y c b)
   has:=fun x h=>hcl2 x (by
    rcases h with h|h
    ·exact znv hcell (.inl rfl) h
    ·exact znv hcell (.inr rfl) h)
   cab:=fun x c h=>(nomatch h)
   hd:=I2.ok.hd
   frames:=I2.ok.frames
   stk:=.inl rfl
   exf:=fun b hb=>⟨(below b (fplt b hb)).1,fun x c e=>(f2 b hb).2.2.2.2.1 x c (hcl1 x c e)⟩
   bs:=I2.bs
   bsz:=Nat.le_trans I2.ok.bsz I2.sz
   noex:=fun b o e hb=>by
    rcases (f2 b hb).2.2.2.1 with z|z
    ·exact I2.ok.noex b o e z
    ·exact absurd (Nat.lt_of_lt_of_le (Heap.lt_size (I2.ok.bs b o e).1) z) (Nat.lt_irrefl _)
   exfs:=nstk
   funs:=I2.stack
   frf:=I2.stkFree}
 have I4:Inv (zbi X N' scope cl HH.objs.size fp s2 H2) [] (caps σ) (upd H2 s2.heap.objs.size (.lst [])) {s2 with heap:=h₁,toks:=s2.toks+([]:List (Str×Value)).length}:=by
  refine ⟨ok,rfl,I2.bare,Un.laid old (Nat.le_refl _) hDn,⟨_,hns₁,fun i x v e1 e2 e3=>?_⟩,fun x c e=>?_,?_,fun x c e=>?_,(fun p hp=>(nomatch hp)),?_,capok.1⟩
  ·obtain ⟨lf,j,e4,e5⟩:=capok.2 i x v e1 e2
   have kx:=hfree x (mem_of_lookup lf)
   have vis:Vis X.env.scope x:=by rcases kx with k|k;exact .inr (.inl k);exact .inr (.inr k)
   obtain ⟨m,hn,hl⟩:=I2.loc
   obtain ⟨u,r,l⟩:=hl j x v e4 e5 vis
   refine ⟨u,r,.inr ⟨zkj lf,?_⟩⟩
   obtain ⟨c,hcx⟩:=hcl2 x (mem_of_lookup lf)
   have hcx':=hcl1 x c hcx
   refine ⟨c,hcx,?_⟩
   rcases l with ⟨k,_⟩|⟨_,c',ec,⟨o,ho,hd⟩⟩
   ·rcases kx with k'|k'<;>(rw [k] at k';cases k')
   ·rw [hcx'] at ec;cases ec
    exact ⟨o,old _ o ho,hd⟩
  ·obtain ⟨v,o,ho,hd⟩:=I2.cell x c (hcl1 x c e)
   exact ⟨v,o,old _ o ho,hd⟩
  ·show upd H2 s2.heap.objs.size (.lst []) HH.objs.size=none
   rw [zal (Ne.symm hDC)];exact hCn
  ·obtain ⟨v,o,ho,hd⟩:=I2.cell x c (hcl1 x c e)
   rw [zal (Nat.ne_of_lt (Heap.lt_size ho))]
   exact I2.freeC x c (hcl1 x c e)
  ·exact I2.hok.laid old (Nat.le_refl _) ⟨Nat.zero_le _,[],0,.nil,hacc⟩
 have st4:tn 0 h₁:=T.keep _ _ _ st2 fun b _ o e=>old b o e
 have stat:∀{H':Hp},(∀b∈fp,H' b=none)->∀b∈fp,FpOk (zbi X N' scope cl HH.objs.size fp s2 H2) [] H' b:=fun hn b hb=>
  ⟨hn b hb,(below b (fplt b hb)).1,nstk b hb,.inl hb,fun x c e=>(f2 b hb).2.2.2.2.1 x c (hcl1 x c e),(fun p hp=>(nomatch hp))⟩
 have loop:∀s₃:Shared,s₃={s2 with heap:=h₁,toks:=s2.toks+([]:List (Str×Value)).length}->
   codeAny (model X.prog X.w) X.A (.compLoop (.ListComp elt [⟨tg,iter,ifs,0⟩] scope pos) 0 (.ref it) (.ref s2.heap.objs.size) (compEnvC scope cl HH.objs.size X.env)) (RR (.ref s2.heap.objs.size) HH.objs.size) s₃:=by
  rintro s₃ rfl
  refine zio (fun n s'=>∃i τ H',Inv (zbi X N' scope cl HH.objs.size fp s2 H2) [] τ H' s'/\tn i s'.heap/\(∀b∈fp,H' b=none)/\W i n τ H') ?_ m0
   ⟨0,caps σ,_,I4,st4,fun b hb=>by rw [zal (below b (fplt b hb)).2];exact (f2 b hb).1,w0⟩
  rintro n s5 ⟨i,τ,H5,I5,st5,fr5,w5⟩
  rcases turn i n τ H5 w5 with ⟨stop,q⟩|⟨go,N,hN,step⟩
  ·refine thn (T.done (zbi X N' scope cl HH.objs.size fp s2 H2) rfl rfl rfl hc i [] s5 τ H5 (fun _ _=>False) I5 (stat fr5) st5 stop) fun r s6 ⟨hr,I6⟩=>?_
   subst hr
   obtain ⟨m,hn,_⟩:=I6.loc
   refine hRR _ _ s6 H5 m (I2.call' (ch:=fp) I6.os I6.base I6.hok I6.bare fun b hb=>⟨(f2 b hb).2.2.2.1,(f2 b hb).2.1,(f2 b hb).2.2.2.2.1,(f2 b hb).2.2.2.2.2⟩) hn hCle I6.free q
  ·refine thn (T.item (zbi X N' scope cl HH.objs.size fp s2 H2) rfl rfl rfl hc i [] s5 τ H5 (fun _ _=>False) I5 (stat fr5) st5 go) fun r s6 ⟨u,hr,h6⟩=>?_
   subst hr
   refine thn h6 fun _ s7 ⟨x,H7,I7,r7,y7,st7,fr7⟩=>?_
   have I7':=I7.pinned (stat fr7) (T.obj _ _ st7)
   have again:∀{τ':St} {H':Hp} {s':Shared},Inv (zbi X N' scope cl HH.objs.size fp s2 H2) ([]++zrf fp s7.heap) τ' H' s'->N τ' H'->
     ∃m,m<n/\∃i τ H',Inv (zbi X N' scope cl HH.objs.size fp s2 H2) [] τ H' s'/\tn i s'.heap/\(∀b∈fp,H' b=none)/\W i m τ H':=fun {τ' H' s'} I' n'=>by
    obtain ⟨m',hm,w'⟩:=hN τ' H' n'
    refine ⟨m',hm,i+1,τ',H',I'.unpinned,T.keep _ _ _ st7 fun b hb o e=>(I'.pin (b,o) (mem_append_right _ (mem_append_right _ (zik hb e)))).1,fun b hb=>?_,w'⟩
    obtain ⟨o,e,d⟩:=T.obj _ _ st7 b hb
    exact (I'.pin (b,o) (mem_append_right _ (mem_append_right _ (zik hb e)))).2.1
   refine thn (hg HH.objs.size s2 H2 _ s7 τ H7 x u _ I7' r7 (step x H7 y7)) fun _ s8 ⟨τ8,H8,I8,q8⟩=>?_
   refine thn (hts HH.objs.size s2 H2 _ s8 τ8 H8 _ I8 q8) fun okk s9 ⟨H9,I9,q9⟩=>?_
   cases okk with
   |false=>
    rw [if_neg Bool.false_ne_true] at q9⊢
    exact again I9 q9
   |true=>
    rw [if_pos rfl] at q9⊢
    refine thn (hel HH.objs.size s2 H2 _ s9 τ8 H9 _ I9 q9) fun y s10 ⟨v,H10,I10,r10,ys,hD,hz,n10⟩=>?_
    refine thn (zrz (X:=zbi X N' scope cl HH.objs.size fp s2 H2) _ s10 τ8 H10 (.ref s2.heap.objs.size) [v] (.ref s2.heap.objs.size) [y] (fun _ H'=>N τ8 H') I10 rfl (.cons r10 .nil) ⟨_,ys,v,rfl,rfl,hD,hz,n10⟩) fun _ s11 ⟨_,H11,I11,_,n11⟩=>?_
    exact again I11 n11
 exact codeAny_compStart_list (loop _ rfl) (T.self X.A 0 _ _ _ st4 (loop _ rfl))
theorem pe_comp (hc:X.calm=true)(hkind:scope.kind=.function)(hcell:∀y∈scope.names,y.2≠.cell)(hnames:∀y∈scope.names,y.2=.local->scope.names.lookup y.1=some .local)
  (hfree:∀n,(n,NameKind.free)∈scope.names->X.env.kindOf n=some .cell\/X.env.kindOf n=some .free)
  (hcap:∀σ:St,σ.length=X.N.length->(caps σ).length=N'.length/\∀(i:Nat) (x:Str) (v:V),N'[i]?=some x->(caps σ)[i]?=some (some v)->scope.names.lookup x=some .free/\∃j:Nat,X.N[j]?=some x/\σ[j]?=some (some v))
  (hi:PI X tg iter wi) (hg:∀cl C fp s H,PG (zbi X N' scope cl C fp s H) tg g) (hts:∀cl C fp s H,PTs (zbi X N' scope cl C fp s H) ifs tt) (hel:∀cl C fp s H,PE (zbi X N' scope cl C fp s H) elt te)
  (hs:∀x,foldedSetIterable iter X.env x=pure x:=by intro _;rfl):PE X (.ListComp elt [⟨tg,iter,ifs,0⟩] scope pos) (zna wi caps g tt te):=by
 intro pins s σ H Q I h
 rw [eval_ListComp]
 obtain ⟨cl,hclos,hcl1,hcl2⟩:=zhq (env:=X.env) (scope:=scope) (fun n hn=>I.ok.has n (hfree n hn))
 refine wpAny_comprehension_free (use:=none) rfl hs hclos hkind hnames (thn (hi pins s σ H _ I h) fun v s1 h1=>thn h1 fun itv s2 h2=>?_)
 obtain ⟨it,fp,tn,J,H2,rfl,I2,T,st2,f2,k2⟩:=h2
 refine zoi (RR:=fun acc C=>compPost (model X.prog X.w) X.A X.xe none (EP X pins σ Q) acc C) hc hkind hcell hcap hfree hcl1 hcl2 (fun C s H=>hg cl C fp s H) (fun C s H=>hts cl C fp s H) (fun C s H=>hel cl C fp s H) I2 T st2 f2 k2 ?_
 intro D C s' H' m I' hn hle hC q
 obtain ⟨f0,f1,f2',f3,f4,f5⟩:=I2.fpOk hle hC
 exact ⟨m,hn,fun h' sb=>⟨.ref D,H',I'.turned (t':=s'.toks) (fun b o hb e=>(sb.2 b hb).trans e) f0 f1 f3 f4 f5,rfl,q⟩⟩
theorem ps_comp {y:Str}{py spos:Pos}{i:Nat}(hsw:swapsWith (.ListComp elt [⟨tg,iter,ifs,0⟩] scope pos) (some (.Name y py)) spos.line X.env=pure true)
  (hN:X.N.Nodup) (hiN:X.N[i]?=some y) (hy:Loc X.env.scope y)
  (hc:X.calm=true) (hkind:scope.kind=.function) (hcell:∀y∈scope.names,y.2≠.cell) (hnames:∀y∈scope.names,y.2=.local->scope.names.lookup y.1=some .local)
  (hfree:∀n,(n,NameKind.free)∈scope.names->X.env.kindOf n=some .cell\/X.env.kindOf n=some .free)
  (hcap:∀σ:St,σ.length=X.N.length->(caps σ).length=N'.length/\∀(i:Nat) (x:Str) (v:V),N'[i]?=some x->(caps σ)[i]?=some (some v)->scope.names.lookup x=some .free/\∃j:Nat,X.N[j]?=some x/\σ[j]?=some (some v))
  (hi:PI X tg iter wi) (hg:∀cl C fp s H,PG (zbi X N' scope cl C fp s H) tg g) (hts:∀cl C fp s H,PTs (zbi X N' scope cl C fp s H) ifs tt) (hel:∀cl C fp s H,PE (zbi X N' scope cl C fp s H) elt te)
  (hs:∀x,foldedSetIterable iter X.env x=pure x:=by intro _;rfl) (hf:X.fn y=true\/X.env.scope.names.lookup y=some .local:=by first|exact .inl rfl|exact .inr rfl|assumption):
  PS X (.Assign [.Name y py] (.ListComp elt [⟨tg,iter,ifs,0⟩] scope pos) spos) (zqi (zna wi caps g tt te) (zdz i)):=by
 intro pins s σ H D I h
 rw [exec_Assign_Name_used _ _ _ _ hsw]
 refine wpAny_bind (wpAny_standAt (wpAny_bind ?_))
 obtain ⟨cl,hclos,hcl1,hcl2⟩:=zhq (env:=X.env) (scope:=scope) (fun n hn=>I.ok.has n (hfree n hn))
 show wpAny _ X.A (do let _<-comprehension (.ListComp elt [⟨tg,iter,ifs,0⟩] scope pos) scope X.env _ (newList []) false (eval iter X.env) (some (assign (.Name y py) X.env))) _ _ s
 refine wpAny_bind (wpAny_mono (wpAny_comprehension_free (use:=some (assign (.Name y py) X.env)) (Q:=fun _ s'=>SP X pins D .next s') rfl hs hclos hkind hnames
  (thn (hi pins s σ H _ I h) fun v s1 h1=>thn h1 fun itv s2 h2=>?_)) (fun _ s' hq=>wpAny_pure (wpAny_pure hq)) fun _ _ e=>e)
 obtain ⟨it,fp,tn,J,H2,rfl,I2,T,st2,f2,k2⟩:=h2
 refine zoi (RR:=fun acc C=>compPost (model X.prog X.w) X.A X.xe (some (assign (.Name y py) X.env)) (fun _ s'=>SP X pins D .next s') acc C) hc hkind hcell hcap hfree hcl1 hcl2 (fun C s H=>hg cl C fp s H) (fun C s H=>hts cl C fp s H) (fun C s H=>hel cl C fp s H) I2 T st2 f2 k2 ?_
 intro E C s' H' m I' hn hle hC q
 obtain ⟨f0,f1,f2',f3,f4,f5⟩:=I2.fpOk hle hC
 show wpAny _ X.A (assign (.Name y py) X.env (.ref E)) _ _ _
 refine wpAny_assign_Name (zqq I' hN hiN hy (v:=.ref E) rfl (fun s'' I'' ⟨a,sb,ha⟩=>?_) hf)
 have hCa:C≠a:=by
  rcases ha with rfl|ha
  ·exact f1
  ·exact Ne.symm (f4 y a ha)
 exact ⟨m,hn.sameBut sb hCa,fun h' sb'=>⟨_,H',I''.turned (t':=s''.toks) (fun b o hb e=>(sb'.2 b hb).trans e) f0 f1 f3 f4 f5,q⟩⟩
end
end L2
namespace FL
open PySem L2
inductive D where
 |non|bl (b:Bool)|int (i:Int)|str (x:Str)|tup (l:List D)|lst (l:List D)
mutual
def D.beq:D->D->Bool
 |.non,.non=>true
 |.bl a,.bl b=>a==b
 |.int a,.int b=>a==b
 |.str a,.str b=>decide (a=b)
 |.tup a,.tup b=>D.beqs a b
 |.lst a,.lst b=>D.beqs a b
 |_,_=>false
def D.beqs:List D->List D->Bool
 |[],[]=>true
 |a::r,b::t=>D.beq a b&&D.beqs r t
 |_,_=>false
end
mutual
theorem D.beq_iff:∀a b:D,D.beq a b=true↔a=b
 |.non,b=>by cases b<;>simp [D.beq]
 |.bl a,b=>by cases b<;>simp [D.beq]
 |.int a,b=>by cases b<;>simp [D.beq]
 |.str a,b=>by cases b<;>simp [D.beq]
 |.tup a,b=>by cases b<;>simp [D.beq,D.beqs_iff a]
 |.lst a,b=>by cases b<;>simp [D.beq,D.beqs_iff a]
theorem D.beqs_iff:∀a b:List D,D.beqs a b=true↔a=b
 |[],b=>by cases b<;>simp [D.beqs]
 |a::r,b=>by cases b<;>simp [D.beqs,D.beq_iff a,D.beqs_iff r]
end
instance:DecidableEq D:=fun a b=>decidable_of_iff _ (D.beq_iff a b)
mutual
inductive Rep (H:Hp):V->D->Prop
 |non:Rep H .non .non
 |bl (b:Bool):Rep H (.bl b) (.bl b)
 |int (i:Int):Rep H (.int i) (.int i)
 |str (x:Str):Rep H (.str x) (.str x)
 |tup {a:Addr} {vs:List V} {l:List D}:H a=some (.tup vs)->Reps H vs l->Rep H (.ref a) (.tup l)
 |lst {a:Addr} {vs:List V} {l:List D}:H a=some (.lst vs)->Reps H vs l->Rep H (.ref a) (.lst l)
inductive Reps (H:Hp):List V->List D->Prop
 |nil:Reps H [] []
 |cons {v:V} {d:D} {vs:List V} {ds:List D}:Rep H v d->Reps H vs ds->Reps H (v::vs) (d::ds)
end
mutual
theorem Rep.mono {H H':Hp}(e:Same H H'):∀{v:V} {d:D},Rep H v d->Rep H' v d
 |_,_,.non=>.non
 |_,_,.bl b=>.bl b
 |_,_,.int b=>.int b
 |_,_,.str b=>.str b
 |_,_,.tup h r=>.tup (e _ _ h) (Reps.mono e r)
 |_,_,.lst h r=>.lst (e _ _ h) (Reps.mono e r)
theorem Reps.mono {H H':Hp}(e:Same H H'):∀{v:List V} {d:List D},Reps H v d->Reps H' v d
 |_,_,.nil=>.nil
 |_,_,.cons h r=>.cons (Rep.mono e h) (Reps.mono e r)
end
theorem Reps.length {H:Hp}:∀{vs:List V} {ds:List D},Reps H vs ds->vs.length=ds.length
 |_,_,.nil=>rfl
 |_,_,.cons _ r=>congrArg (· +1) r.length
theorem Reps.get {H:Hp}:∀{vs:List V} {ds:List D} {i:Nat} {d:D},Reps H vs ds->ds[i]?=some d->∃v,vs[i]?=some v/\Rep H v d
 |_,_,_,_,.nil,e=>by simp at e
 |_,_,0,_,.cons h _,e=>by simp at e;subst e;exact ⟨_,rfl,h⟩
 |_,_,i+1,d,.cons _ r,e=>by
  obtain ⟨v,h1,h2⟩:=Reps.get (i:=i) (d:=d) r (by simpa using e)
  exact ⟨v,by simpa using h1,h2⟩
theorem Reps.getV {H:Hp}:∀{vs:List V} {ds:List D} {i:Nat} {v:V},Reps H vs ds->vs[i]?=some v->∃d,ds[i]?=some d/\Rep H v d
 |_,_,_,_,.nil,e=>by simp at e
 |_,_,0,_,.cons h _,e=>by simp at e;subst e;exact ⟨_,rfl,h⟩
 |_,_,i+1,d,.cons _ r,e=>by
  obtain ⟨v,h1,h2⟩:=Reps.getV (i:=i) (v:=d) r (by simpa using e)
  exact ⟨v,by simpa using h1,h2⟩
theorem Reps.append {H:Hp}:∀{vs ws:List V} {ds es:List D},Reps H vs ds->Reps H ws es->Reps H (vs++ws) (ds++es)
 |_,_,_,_,.nil,s=>s
 |_,_,_,_,.cons h r,s=>.cons h (r.append s)
theorem Reps.snoc {H:Hp}{vs:List V}{ds:List D}{v:V}{d:D}(r:Reps H vs ds)(h:Rep H v d):Reps H (vs++[v]) (ds++[d]):=r.append (.cons h .nil)
theorem Reps.take {H:Hp}:∀{vs:List V} {ds:List D} (n:Nat),Reps H vs ds->Reps H (vs.take n) (ds.take n)
 |_,_,0,_=>.nil
 |_,_,_+1,.nil=>.nil
 |_,_,n+1,.cons h r=>.cons h (r.take n)
theorem Reps.drop {H:Hp}:∀{vs:List V} {ds:List D} (n:Nat),Reps H vs ds->Reps H (vs.drop n) (ds.drop n)
 |_,_,0,r=>r
 |_,_,_+1,.nil=>.nil
 |_,_,n+1,.cons _ r=>r.drop n
theorem Reps.ints {H:Hp}:∀ns:List Int,Reps H (ns.map V.int) (ns.map D.int)
 |[]=>.nil
 |n::r=>.cons (.int n) (Reps.ints r)
theorem Rep.of_int {H:Hp}{v:V}{i:Int}(h:Rep H v (.int i)):v=.int i:=by cases h;rfl
theorem Rep.of_str {H:Hp}{v:V}{x:Str}(h:Rep H v (.str x)):v=.str x:=by cases h;rfl
theorem Rep.of_bl {H:Hp}{v:V}{b:Bool}(h:Rep H v (.bl b)):v=.bl b:=by cases h;rfl
theorem Rep.of_tup {H:Hp}{v:V}{l:List D}(h:Rep H v (.tup l)):∃a vs,v=.ref a/\H a=some (.tup vs)/\Reps H vs l:=by cases h with|tup h r=>exact ⟨_,_,rfl,h,r⟩
theorem Rep.of_lst {H:Hp}{v:V}{l:List D}(h:Rep H v (.lst l)):∃a vs,v=.ref a/\H a=some (.lst vs)/\Reps H vs l:=by cases h with|lst h r=>exact ⟨_,_,rfl,h,r⟩
mutual
theorem Rep.inj {H:Hp}:∀{v:V} {d e:D},Rep H v d->Rep H v e->d=e
 |_,_,_,.non,h=>by cases h;rfl
 |_,_,_,.bl _,h=>by cases h;rfl
 |_,_,_,.int _,h=>by cases h;rfl
 |_,_,_,.str _,h=>by cases h;rfl
 |_,_,_,.tup h r,q=>by
  cases q with
  |tup h' r'=>rw [h] at h';cases h';rw [Reps.inj r r']
  |lst h' r'=>rw [h] at h';cases h'
 |_,_,_,.lst h r,q=>by
  cases q with
  |lst h' r'=>rw [h] at h';cases h';rw [Reps.inj r r']
  |tup h' r'=>rw [h] at h';cases h'
theorem Reps.inj {H:Hp}:∀{v:List V} {d e:List D},Reps H v d->Reps H v e->d=e
 |_,_,_,.nil,h=>by cases h;rfl
 |_,_,_,.cons h r,q=>by cases q with|cons h' r'=>rw [Rep.inj h h',Reps.inj r r']
end
def but (H:Hp)(M:List Addr):Hp:=fun b=>if b∈M then none else H b
theorem but_nil (H:Hp):but H []=H:=by funext b;simp [but]
theorem zat {H:Hp}{M:List Addr}{b:Addr}(h:b∉M):but H M b=H b:=by simp [but,h]
theorem zac {H:Hp}{M:List Addr}{b:Addr}{o:HO}(h:but H M b=some o):b∉M/\H b=some o:=by
 unfold but at h
 split at h
 ·cases h
 ·exact ⟨‹_›,h⟩
theorem zqa (H:Hp)(M:List Addr):Same (but H M) H:=fun b o h=>(zac h).2
theorem _root_.L2.Same.but {H H':Hp}(e:Same H H')(M:List Addr):Same (but H M) (but H' M):=fun b o h=>by
 obtain ⟨h1,h2⟩:=zac h
 rw [zat h1];exact e b o h2
theorem zcy {H:Hp}{M:List Addr}{a:Addr}{o:HO}(h:a∈M):but (upd H a o) M=but H M:=by
 funext b
 unfold FL.but
 by_cases hb:b∈M
 ·rw [if_pos hb,if_pos hb]
 ·rw [if_neg hb,if_neg hb,zal (fun e:b=a=>hb (by rw [e];exact h))]
theorem zmp {H:Hp}{M:List Addr}{a:Addr}{o:HO}(h:a∉M):but (upd H a o) M=upd (but H M) a o:=by
 funext b
 by_cases hb:b∈M
 ·rw [zal (fun e:b=a=>h (by rw [<-e];exact hb))]
  simp [FL.but,hb]
 ·rw [zat hb]
  by_cases e:b=a
  ·subst e;rw [zae,zae]
  ·rw [zal e,zal e,zat hb]
theorem zcj {H:Hp}{M M':List Addr}(h:∀a∈M,a∈M'):Same (but H M') (but H M):=fun b o e=>by
 obtain ⟨h1,h2⟩:=zac e
 rw [zat fun z=>h1 (h b z)];exact h2
theorem zbm {H:Hp}{p:Addr}(h:H p=none)(o:HO):Same H (upd H p o):=fun b u q=>by rw [zal (zax q h)];exact q
def Live (M:List Addr)(H:Hp):Prop:=∀a∈M,H a≠none
theorem Live.nil {H:Hp}:Live [] H:=fun _ h=>nomatch h
theorem Live.same {M:List Addr}{H H':Hp}(l:Live M H)(e:Same H H'):Live M H':=fun a ha z=>by
 cases q:H a with
 |none=>exact l a ha q
 |some o=>rw [e a o q] at z;cases z
theorem Live.cons {M:List Addr}{H:Hp}{a:Addr}{o:HO}(l:Live M H)(h:H a=some o):Live (a::M) H:=fun b hb=>by
 rcases mem_cons.mp hb with e|e
 ·rw [e,h];exact fun z=>nomatch z
 ·exact l b e
theorem Live.fresh {M:List Addr}{H:Hp}{p:Addr}(l:Live M H)(h:H p=none):p∉M:=fun z=>l p z h
theorem Live.upd {M:List Addr}{H:Hp}{a:Addr}{o:HO}(l:Live M H):Live M (L2.upd H a o):=fun b hb z=>by
 by_cases e:b=a
 ·subst e;rw [zae] at z;cases z
 ·rw [zal e] at z;exact l b hb z
theorem zey {H:Hp}{M:List Addr}{p:Addr}{vs:List V}{ds:List D}(l:Live M H)(h:H p=none)(r:Reps (but H M) vs ds):Rep (but (upd H p (.tup vs)) M) (.ref p) (.tup ds):=by
 rw [zmp (l.fresh h)]
 exact .tup zae (r.mono (zbm (by rw [zat (l.fresh h)];exact h) _))
theorem zg9 {H:Hp}{M:List Addr}{p:Addr}{vs:List V}{ds:List D}(l:Live M H)(h:H p=none)(r:Reps (but H M) vs ds):Rep (but (upd H p (.lst vs)) M) (.ref p) (.lst ds):=by
 rw [zmp (l.fresh h)]
 exact .lst zae (r.mono (zbm (by rw [zat (l.fresh h)];exact h) _))
theorem zep {H:Hp}{M:List Addr}{a:Addr}{vs:List V}{ds:List D}(hM:a∉M)(h:H a=some (.lst vs))(r:Reps (but H (a::M)) vs ds):Rep (but H M) (.ref a) (.lst ds):=
 .lst (by rw [zat hM];exact h) (r.mono (zcj fun b hb=>mem_cons_of_mem _ hb))
theorem zli {H:Hp}{M:List Addr}{a:Addr}{o:HO}{v:V}{d:D}(h:H a=none)(r:Rep (but H M) v d):Rep (but (upd H a o) (a::M)) v d:=by
 rw [zcy (mem_cons_self)]
 refine r.mono fun b u e=>?_
 obtain ⟨h1,h2⟩:=zac e
 rw [zat]
 ·exact h2
 ·intro z
  rcases mem_cons.mp z with rfl|z
  ·rw [h] at h2;cases h2
  ·exact h1 z
theorem zji {H:Hp}{M:List Addr}{a:Addr}{o:HO}(h:H a=none):∀{vs:List V} {ds:List D},Reps (but H M) vs ds->Reps (but (upd H a o) (a::M)) vs ds
 |_,_,.nil=>.nil
 |_,_,.cons q r=>.cons (zli h q) (zji h r)
def EvM (te:TE)(G:Hp)(σ:St)(d:D):Prop:=
 ∀M H,Same G (but H M)->Live M H->∀Q:VK,(∀v H',Same H H'->Rep (but H' M) v d->Q v H')->te σ H Q
def EvA (ta:TA)(G:Hp)(σ:St)(ds:List D):Prop:=
 ∀M H,Same G (but H M)->Live M H->∀Q:List V->Hp->Prop,(∀vs H',Same H H'->Reps (but H' M) vs ds->Q vs H')->ta σ H Q
def EvT (tt:TT)(G:Hp)(σ:St)(b:Bool):Prop:=
 ∀M H,Same G (but H M)->Live M H->∀Q:Bool->Hp->Prop,(∀H',Same H H'->Q b H')->tt σ H Q
theorem EvM.at {te:TE}{M:List Addr}{H:Hp}{σ:St}{d:D}{Q:VK}(h:EvM te (but H M) σ d)(l:Live M H)(k:∀v H',Same H H'->Rep (but H' M) v d->Q v H'):te σ H Q:=h M H (Same.refl _) l Q k
theorem EvM.eq {te:TE}{G:Hp}{σ:St}{d d':D}(h:EvM te G σ d)(e:d=d'):EvM te G σ d':=e▸h
theorem EvT.eq {te:TT}{G:Hp}{σ:St}{d d':Bool}(h:EvT te G σ d)(e:d=d'):EvT te G σ d':=e▸h
section
variable {G:Hp}{σ:St}{ta tb tc:TE}{tt tu:TT}{t:TA}{d d1 d2:D}{ds:List D}{K:PySem.W.Frag}
theorem zch {i:Nat}{v:V}(e:σ[i]?=some (some v))(r:Rep G v d):EvM (zdk i) G σ d:=fun M H s l Q k=>⟨v,e,k v H (Same.refl _) (r.mono s)⟩
theorem ev_C {v:V}(r:∀H,Rep H v d):EvM (tC v) G σ d:=fun M H s l Q k=>k _ H (Same.refl _) (r _)
theorem zak {i:Int}:EvM (tC (.int i)) G σ (.int i):=ev_C fun _=>.int i
theorem zbf {x:Str}:EvM (tC (.str x)) G σ (.str x):=ev_C fun _=>.str x
theorem ev_bl {b:Bool}:EvM (tC (.bl b)) G σ (.bl b):=ev_C fun _=>.bl b
theorem ev_non:EvM (tC .non) G σ .non:=ev_C fun _=>.non
theorem ziu {r:R2}(hr:∀M H x y,Live M H->Rep (but H M) x d1->Rep (but H M) y d2->∀Q:VK,(∀v H',Same H H'->Rep (but H' M) v d->Q v H')->r x y H Q)(ha:EvM ta G σ d1)(hb:EvM tb G σ d2):EvM (tOp r ta tb) G σ d:=
 fun M H s l Q k=>ha M H s l _ fun x H1 s1 rx=>hb M H1 (s.trans (s1.but M)) (l.same s1) _ fun y H2 s2 ry=>
  hr M H2 x y (l.same (s1.trans s2)) (rx.mono (s2.but M)) ry Q fun v H3 s3 r3=>k v H3 (s1.trans (s2.trans s3)) r3
theorem ev_i0 {g:Int->Int->V}{i j:Int}(hg:∀H',Rep H' (g i j) d)(ha:EvM ta G σ (.int i))(hb:EvM tb G σ (.int j)):EvM (tOp (rI0 g) ta tb) G σ d:=
 ziu (fun M H x y l rx ry Q k=>⟨i,j,rx.of_int,ry.of_int,k _ H (Same.refl _) (hg _)⟩) ha hb
theorem ev_i {C:Int->Int->Prop}{g:Int->Int->V}{i j:Int}(hc:C i j)(hg:∀H',Rep H' (g i j) d)(ha:EvM ta G σ (.int i))(hb:EvM tb G σ (.int j)):EvM (tOp (rI C g) ta tb) G σ d:=
 ziu (fun M H x y l rx ry Q k=>⟨i,j,rx.of_int,ry.of_int,hc,k _ H (Same.refl _) (hg _)⟩) ha hb
theorem ziv {i j:Int}(ha:EvM ta G σ (.int i))(hb:EvM tb G σ (.int j)):EvM (tOp (rI0 fun i j=>.int (i+j)) ta tb) G σ (.int (i+j)):=ev_i0 (fun _=>.int _) ha hb
theorem ev_sub {i j:Int}(ha:EvM ta G σ (.int i))(hb:EvM tb G σ (.int j)):EvM (tOp (rI0 fun i j=>.int (i-j)) ta tb) G σ (.int (i-j)):=ev_i0 (fun _=>.int _) ha hb
theorem ev_mul {i j:Int}(hc:CMul i j)(ha:EvM ta G σ (.int i))(hb:EvM tb G σ (.int j)):EvM (tOp (rI CMul fun i j=>.int (i*j)) ta tb) G σ (.int (i*j)):=ev_i hc (fun _=>.int _) ha hb
theorem zek {i j:Int}(hc:0<j)(ha:EvM ta G σ (.int i))(hb:EvM tb G σ (.int j)):EvM (tOp (rI (fun _ j=>0<j) fun i j=>.int (i%j)) ta tb) G σ (.int (i%j)):=ev_i (C:=fun _ j=>0<j) hc (fun _=>.int _) ha hb
theorem zfb {i j:Int}(hc:CDiv i j)(ha:EvM ta G σ (.int i))(hb:EvM tb G σ (.int j)):EvM (tOp (rI CDiv fun i j=>.int (i/j)) ta tb) G σ (.int (i/j)):=ev_i hc (fun _=>.int _) ha hb
theorem ev_pow {i j:Int}(hc:CPow i j)(ha:EvM ta G σ (.int i))(hb:EvM tb G σ (.int j)):EvM (tOp (rI CPow fun i j=>.int (i^j.toNat)) ta tb) G σ (.int (i^j.toNat)):=ev_i hc (fun _=>.int _) ha hb
theorem zsi {i j:Int}(ha:EvM ta G σ (.int i))(hb:EvM tb G σ (.int j)):EvM (tOp (rI0 fun i j=>.bl (decide (i<j))) ta tb) G σ (.bl (decide (i<j))):=ev_i0 (fun _=>.bl _) ha hb
theorem ev_gt {i j:Int}(ha:EvM ta G σ (.int i))(hb:EvM tb G σ (.int j)):EvM (tOp (rI0 fun i j=>.bl (decide (j<i))) ta tb) G σ (.bl (decide (j<i))):=ev_i0 (fun _=>.bl _) ha hb
theorem ev_ge {i j:Int}(ha:EvM ta G σ (.int i))(hb:EvM tb G σ (.int j)):EvM (tOp (rI0 fun i j=>.bl (decide (j<=i))) ta tb) G σ (.bl (decide (j<=i))):=ev_i0 (fun _=>.bl _) ha hb
theorem zmi {i:Int}(ha:EvM ta G σ (.int i)):EvM (tUn (rU fun i=>.int (-i)) ta) G σ (.int (-i)):=
 fun M H s l Q k=>ha M H s l _ fun x H1 s1 rx=>⟨i,rx.of_int,k _ H1 s1 (.int _)⟩
def D.sc:D->Bool
 |.int _=>true|.str _=>true|_=>false
theorem scal_of {H H':Hp}{x y:V}{d e:D}(rx:Rep H x d)(ry:Rep H' y e)(hd:d.sc=true)(he:e.sc=true):scal x y=true/\decide (x=y)=decide (d=e):=by
 cases rx with
 |int i=>
  cases ry with
  |int j=>exact ⟨rfl,by simp⟩
  |str j=>exact ⟨rfl,by simp⟩
  |_=>exact absurd he (by simp [D.sc])
 |str i=>
  cases ry with
  |int j=>exact ⟨rfl,by simp⟩
  |str j=>exact ⟨rfl,by simp⟩
  |_=>exact absurd he (by simp [D.sc])
 |_=>exact absurd hd (by simp [D.sc])
theorem zaf:EvA zev G σ []:=fun M H s l Q k=>k [] H (Same.refl _) .nil
theorem zaa (ha:EvM ta G σ d)(ht:EvA t G σ ds):EvA (zbp ta t) G σ (d::ds):=
 fun M H s l Q k=>ha M H s l _ fun x H1 s1 rx=>ht M H1 (s.trans (s1.but M)) (l.same s1) _ fun vs H2 s2 rs=>k _ H2 (s1.trans s2) (.cons (rx.mono (s2.but M)) rs)
theorem zcq (h:EvA t G σ ds)(hz:ds.length<=sizeLine:=by exact Nat.le_of_lt (zar (by simp))):EvM (tTup t) G σ (.tup ds):=
 fun M H s l Q k=>h M H s l _ fun vs H1 s1 rs=>⟨by rw [rs.length];exact hz,fun p hp=>k _ _ (s1.trans (zbm hp _)) (zey (l.same s1) hp rs)⟩
theorem zgp (h:EvA t G σ ds)(hz:ds.length<=sizeLine:=by exact Nat.le_of_lt (zar (by simp))):EvM (tLst t) G σ (.lst ds):=
 fun M H s l Q k=>h M H s l _ fun vs H1 s1 rs=>⟨by rw [rs.length];exact hz,fun p hp=>k _ _ (s1.trans (zbm hp _)) (zg9 (l.same s1) hp rs)⟩
theorem atI_rep {H:Hp}{vs:List V}{ds:List D}{i:Int}{d:D}(r:Reps H vs ds)(h:atI ds i=some d):∃v,atI vs i=some v/\Rep H v d:=by
 unfold atI at h⊢
 rw [r.length]
 cases e:ixN ds.length i with
 |none=>rw [e] at h;cases h
 |some j=>rw [e] at h;exact r.get h
theorem ev_cb {r:List V->Hp->VK->Prop}(hr:∀M H xs,Live M H->Reps (but H M) xs ds->∀Q:VK,(∀v H',Same H H'->Rep (but H' M) v d->Q v H')->r xs H Q)(h:EvA t G σ ds):EvM (tCB r t) G σ d:=
 fun M H s l Q k=>h M H s l _ fun vs H1 s1 rs=>hr M H1 vs (l.same s1) rs Q fun v H2 s2 r2=>k v H2 (s1.trans s2) r2
theorem zov {H:Hp}{xs:List V}{d:D}(h:Reps H xs [d]):∃x,xs=[x]/\Rep H x d:=by
 cases h with|cons q r=>cases r;exact ⟨_,rfl,q⟩
theorem reps2 {H:Hp}{xs:List V}{d e:D}(h:Reps H xs [d,e]):∃x y,xs=[x,y]/\Rep H x d/\Rep H y e:=by
 cases h with|cons q r=>cases r with|cons q' r=>cases r;exact ⟨_,_,rfl,q,q'⟩
theorem zdv {l:List D}(h:EvA t G σ [.lst l]):EvM (tCB (fun xs H Q=>∃p ys,xs=[.ref p]/\(SqL K H p ys\/SqT K H p ys)/\Q (.int ys.length) H) t) G σ (.int l.length):=
 ev_cb (fun M H xs lv rs Q k=>by
  obtain ⟨x,rfl,q⟩:=zov rs
  obtain ⟨a,vs,rfl,h1,h2⟩:=q.of_lst
  refine ⟨a,vs,rfl,.inl (SqL.of (zac h1).2),?_⟩
  rw [h2.length]
  exact k _ H (Same.refl _) (.int _)) h
theorem zgc {l:List D}(h:EvA t G σ [.tup l]):EvM (tCB (fun xs H Q=>∃p ys,xs=[.ref p]/\(SqL K H p ys\/SqT K H p ys)/\Q (.int ys.length) H) t) G σ (.int l.length):=
 ev_cb (fun M H xs lv rs Q k=>by
  obtain ⟨x,rfl,q⟩:=zov rs
  obtain ⟨a,vs,rfl,h1,h2⟩:=q.of_tup
  refine ⟨a,vs,rfl,.inr (SqT.of (zac h1).2),?_⟩
  rw [h2.length]
  exact k _ H (Same.refl _) (.int _)) h
theorem ev_listL {l:List D}(h:EvA t G σ [.lst l]):
  EvM (tCB (fun xs H Q=>∃p ys,xs=[.ref p]/\(SqL K H p ys\/SqT K H p ys)/\∀l,H l=none->Q (.ref l) (upd H l (.lst ys))) t) G σ (.lst l):=
 ev_cb (fun M H xs lv rs Q k=>by
  obtain ⟨x,rfl,q⟩:=zov rs
  obtain ⟨a,vs,rfl,h1,h2⟩:=q.of_lst
  exact ⟨a,vs,rfl,.inl (SqL.of (zac h1).2),fun p hp=>k _ _ (zbm hp _) (zg9 lv hp h2)⟩) h
theorem zid {l:List D}(h:EvA t G σ [.lst l]):
  EvM (tCB (fun xs H Q=>∃p ys,xs=[.ref p]/\((SqL K H p ys/\∀l,H l=none->Q (.ref l) (upd H l (.tup ys)))\/(SqT K H p ys/\Q (.ref p) H))) t) G σ (.tup l):=
 ev_cb (fun M H xs lv rs Q k=>by
  obtain ⟨x,rfl,q⟩:=zov rs
  obtain ⟨a,vs,rfl,h1,h2⟩:=q.of_lst
  exact ⟨a,vs,rfl,.inl ⟨SqL.of (zac h1).2,fun p hp=>k _ _ (zbm hp _) (zey lv hp h2)⟩⟩) h
theorem zav {b:Bool}(h:EvM ta G σ (.bl b)):EvT (zww ta) G σ b:=fun M H s l Q k=>h M H s l _ fun v H1 s1 r1=>⟨b,r1.of_bl,k H1 s1⟩
theorem zby {b:Bool}(h:EvM ta G σ (.bl b)):EvT (tB ta) G σ b:=fun M H s l Q k=>h M H s l _ fun v H1 s1 r1=>⟨b,r1.of_bl,k H1 s1⟩
theorem zbo {b:Bool}(h:EvT tt G σ b):EvT (tNot tt) G σ (!b):=fun M H s l Q k=>h M H s l _ fun H1 s1=>k H1 s1
theorem zic:EvT tYes G σ true:=fun M H s l Q k=>k H (Same.refl _)
theorem zgb {b c:Bool}(h:EvT tt G σ b)(h2:b=true->EvT tu G σ c):EvT (tAnd tt tu) G σ (b&&c):=fun M H s l Q k=>h M H s l _ fun H1 s1=>by
 cases b with
 |true=>rw [if_pos rfl];exact h2 rfl M H1 (s.trans (s1.but M)) (l.same s1) _ fun H2 s2=>k H2 (s1.trans s2)
 |false=>rw [if_neg Bool.false_ne_true];exact k H1 s1
theorem zdu {b c:Bool}(h:EvT tt G σ b)(h2:b=false->EvT tu G σ c):EvT (tOr tt tu) G σ (b||c):=fun M H s l Q k=>h M H s l _ fun H1 s1=>by
 cases b with
 |true=>rw [if_pos rfl];exact k H1 s1
 |false=>rw [if_neg Bool.false_ne_true];exact h2 rfl M H1 (s.trans (s1.but M)) (l.same s1) _ fun H2 s2=>k H2 (s1.trans s2)
theorem zfh {b c:Bool}(h:EvM ta G σ (.bl b))(h2:b=true->EvM tb G σ (.bl c)):EvM (tAndV ta tb) G σ (.bl (b&&c)):=fun M H s l Q k=>h M H s l _ fun v H1 s1 r1=>⟨b,r1.of_bl,by
 cases b with
 |true=>rw [if_pos rfl];exact h2 rfl M H1 (s.trans (s1.but M)) (l.same s1) _ fun v H2 s2 r2=>k v H2 (s1.trans s2) r2
 |false=>rw [if_neg Bool.false_ne_true];exact k _ H1 s1 (.bl _)⟩
theorem ev_or {b c:Bool}(h:EvM ta G σ (.bl b))(h2:b=false->EvM tb G σ (.bl c)):EvM (tOrV ta tb) G σ (.bl (b||c)):=fun M H s l Q k=>h M H s l _ fun v H1 s1 r1=>⟨b,r1.of_bl,by
 cases b with
 |true=>rw [if_pos rfl];exact k _ H1 s1 (.bl _)
 |false=>rw [if_neg Bool.false_ne_true];exact h2 rfl M H1 (s.trans (s1.but M)) (l.same s1) _ fun v H2 s2 r2=>k v H2 (s1.trans s2) r2⟩
theorem ev_not {b:Bool}(h:EvM ta G σ (.bl b)):EvM (tNotV ta) G σ (.bl (!b)):=fun M H s l Q k=>h M H s l _ fun v H1 s1 r1=>⟨b,r1.of_bl,k _ H1 s1 (.bl _)⟩
end
section
variable {M:List Addr}{H:Hp}{σ:St}{ta:TE}{tt:TT}{d:D}{E:zka}
theorem st_if {b:Bool}{ts us:TS}(l:Live M H)(h:EvT tt (but H M) σ b)(k1:b=true->∀H',Same H H'->ts E σ H')(k2:b=false->∀H',Same H H'->us E σ H'):tIfS tt ts us E σ H:=h M H (Same.refl _) l _ fun H' s=>by
 cases b with
 |true=>rw [if_pos rfl];exact k1 rfl H' s
 |false=>rw [if_neg Bool.false_ne_true];exact k2 rfl H' s
end
end FL
namespace PySem
open Sem (wp)
theorem zni:typeLookup (.type "list") "keys"=pure none:=by rw [typeLookup_type,builtinLookup_eq_fast];kernel_rfl
set_option maxHeartbeats 2000000 in
theorem zjq {prog:Program}{w:World}{A:Around}{E:Value->Shared->Prop}{s:Shared}{a:Addr}{o:Obj}{xs:Array Value}{k:Nat}{name:Str}{Q:Option Value->Shared->Prop}
  (hx:s.heap.get? a=some o) (hc:o.cls=.type "list") (hdat:o.data=.seq xs k) (hd:o.dict=none) (hmiss:typeLookup (.type "list") name=pure none) (hname:(["__module__","__name__","__qualname__","__doc__","__annotations__"]:List Str).contains name=false) (hA:A.handled=none)
  (h:∀h' tk,(∀b o,s.heap.get? b=some o->h'.get? b=some o)->Q none {s with heap:=h',toks:=tk}) (hsz:name.length+100<=sizeLine:=by size_fits):
  wpAny (model prog w) A (getAttr? (.ref a) name) Q E s:=by
 obtain ⟨c,dct,dat,sl⟩:=o
 simp only at hc hdat hd
 subst hc hdat hd
 obtain ⟨hp,g,d,tk,os⟩:=s
 have hT:∀tk',(⟨hp,g,d,tk',os⟩:Shared).TypeIs (.ref a) "list":=fun _=>⟨_,hx,rfl⟩
 have f1:=sub_AttributeError
 have f3:=F.slot_list_getattribute.lookup
 have f4:=F.slot_list_getattribute.bind (.ref a)
 have f5:=am_list_getattr_none
 unfold getAttr? getAttrBy? getAttrBy
 repeat (any_goals (first|assumption|exact hT _|((with_reducible show wpAny _ _ (call (Value.builtin "list.__getattribute__") _ _) _ _ _);refine call_meets F.slot_list_getattribute (hT _) am_entry_list_getattribute (F.args_list_getattribute_2 _ _) (meets_getattribute_miss_list a xs k sl name _ hmiss hname hsz) ⟨hx,hA,fun h' tk' e hx'=>?_⟩)|wp_step))
 obtain ⟨t',u',he⟩:=hx'.there
 show wpAny _ _ (getattributeRaised _ _ _ _ _ _ _) _ _ _
 unfold getattributeRaised
 repeat (any_goals (first|assumption|wp_step))
 exact h _ _ hx'.of.keeps
namespace F
theorem entry_dict_update_loop:entryFor table "dict.update.loop"=some Builtin.«dict.update.loop»:=entryFor_of_tree (by kernel_rfl)
theorem plain_dict_update_loop:plainId "dict.update.loop"=true:=by decide+kernel
end F
section
variable {prog:Program}{w:World}{K:Type} [DecidableEq K] {knd:KeyKind prog w K}{A:Around}{R:Result->Shared->Prop}{s:Shared}
def PairAt (knd:KeyKind prog w K)(h:Heap)(u:Value)(p:K×Value):Prop:=∃b kv,u=.ref b/\h.IsTuple b #[kv,p.2]/\knd.is p.1 kv=true
theorem zlu {b:Addr}{xs:Array Value}{A:Around}{E:Value->Shared->Prop}{s:Shared}{Q:List Value->Shared->Prop}(ht:s.heap.IsTuple b xs)(hq:Q xs.toList s):wpAny (model prog w) A (Builtin.Dict.pairItems (.ref b)) Q E s:=by
 obtain ⟨o,ho,hc,n,hd⟩:=ht
 unfold Builtin.Dict.pairItems
 refine wpAny_bind (wpAny_typeOf (show s.TypeIs (.ref b) "tuple" from ⟨o,ho,hc⟩) ?_)
 rw [if_pos (by decide)]
 refine wpAny_bind ?_
 unfold seqItems?
 refine wpAny_bind (wpAny_load ho ?_)
 rw [hd]
 exact wpAny_pure (wpAny_pure hq)
theorem zel {d it l:Addr}{items:Array Value}{res:Value}(hA:A.handled=none):∀(rest:List (K×Value)) (i:Nat) (s:Shared) (vs:List (K×Value)),items.size=i+rest.length->
  (∀j p,rest[j]?=some p->∃u,items[i+j]?=some u/\PairAt knd s.heap u p)->s.heap.IsListIter it l i->s.heap.IsList l items->s.heap.DictOf knd d vs->vs.length+rest.length<=sizeLine->
  (∀h' tk,h'.DictOf knd d (merged vs rest)->(∀b o,b≠d->b≠it->s.heap.get? b=some o->h'.get? b=some o)->R (.ok (.ret res)) {s with heap:=h',toks:=tk})->
  codeAny (model prog w) A (.builtin "dict.update.loop" ⟨[.ref d,.ref it,rawInt i,res],[]⟩) R s
 |[],i,s,vs,hsz,hp,hit,hl,hd,hz,hR=>by
  refine codeAny_builtin F.entry_dict_update_loop ?_
  rw [Around.under_plainId F.plain_dict_update_loop _]
  show wpAny _ A.in1 (pyNext (.ref it)>>=_) _ _ s
  have hdi:d≠it:=by
   rintro rfl
   obtain ⟨o,ho,hc,hdd⟩:=hit
   obtain ⟨o',es,ep,ho',hc',hdd',_⟩:=hd
   rw [ho] at ho';cases ho';rw [hdd] at hdd';cases hdd'
  refine wpAny_bind (wpAny_pyNext_list_end hA hit hl (by simp at hsz⊢;omega) fun h' ext=>?_)
  show wpAny _ A.in1 (Builtin.Dict.addKeywords d []>>=fun _=>ret res) _ _ _
  refine wpAny_bind (wpAny_pure (wpAny_pure (hR h' s.toks ?_ fun b o _ hb e=>ext b o hb e)))
  obtain ⟨o,es,ep,ho,r⟩:=hd
  exact ⟨o,es,ep,ext _ _ hdi ho,r⟩
 |p::rest,i,s,vs,hsz,hp,hit,hl,hd,hz,hR=>by
  refine codeAny_builtin F.entry_dict_update_loop ?_
  rw [Around.under_plainId F.plain_dict_update_loop _]
  show wpAny _ A.in1 (pyNext (.ref it)>>=_) _ _ s
  obtain ⟨u,hu,b,kv,rfl,htup,hk⟩:=hp 0 p rfl
  have hdi:d≠it:=by
   rintro rfl
   obtain ⟨o,ho,hc,hdd⟩:=hit
   obtain ⟨o',es,ep,ho',hc',hdd',_⟩:=hd
   rw [ho] at ho';cases ho';rw [hdd] at hdd';cases hdd'
  have hli:l≠it:=by
   rintro rfl
   obtain ⟨o,ho,hc,hdd⟩:=hit
   obtain ⟨o',ho',hc',n,hdd'⟩:=hl
   rw [ho] at ho';cases ho';rw [hdd] at hdd';cases hdd'
  have hld:l≠d:=by
   rintro rfl
   obtain ⟨o,es,ep,ho,hc,hdd,_⟩:=hd
   obtain ⟨o',ho',hc',n,hdd'⟩:=hl
   rw [ho] at ho';cases ho';rw [hdd] at hdd';cases hdd'
  have tne:∀{b:Addr} {xs:Array Value},s.heap.IsTuple b xs->b≠d/\b≠it:=fun {b xs} ht=>by
   obtain ⟨o,ho,hc,n,hdd⟩:=ht
   refine ⟨?_,?_⟩
   ·rintro rfl
    obtain ⟨o',es,ep,ho',hc',hdd',_⟩:=hd
    rw [ho] at ho';cases ho';rw [hdd] at hdd';cases hdd'
   ·rintro rfl
    obtain ⟨o',ho',hc',hdd'⟩:=hit
    rw [ho] at ho';cases ho';rw [hdd] at hdd';cases hdd'
  refine wpAny_bind (wpAny_pyNext_list_item hit hl (x:=.ref b) (by simpa using hu) fun h1 hit1 sb1=>?_)
  have ht1:h1.IsTuple b #[kv,p.2]:=by
   obtain ⟨o,ho,r⟩:=htup
   exact ⟨o,(sb1.2 b (tne ⟨o,ho,r⟩).2).trans ho,r⟩
  have hd1:h1.DictOf knd d vs:=by
   obtain ⟨o,es,ep,ho,r⟩:=hd
   exact ⟨o,es,ep,(sb1.2 d hdi).trans ho,r⟩
  refine wpAny_bind (wpAny_holding (wpAny_bind (wpAny_tryCatch (zlu (s:={s with heap:=h1}) ht1 ?_))))
  show wpAny _ A.in1 (holding [kv,p.2] (dictSet d kv p.2)) _ _ _
  refine wpAny_holding (wpAny_dictSet_pairs (s:={s with heap:=h1}) (hsz:=by simp at hz;omega) hk hd1 fun h2 hd2 sb2=>?_)
  have hit2:h2.IsListIter it l (i+1):=by
   obtain ⟨o,ho,r⟩:=hit1
   exact ⟨o,(sb2.2 it (Ne.symm hdi)).trans ho,r⟩
  have hl2:h2.IsList l items:=by
   obtain ⟨o,ho,r⟩:=hl
   exact ⟨o,(sb2.2 l hld).trans ((sb1.2 l hli).trans ho),r⟩
  have hstep:(rawInt i:Value)=rawInt i:=rfl
  refine wpAny_pure ⟨plainId_quiet F.plain_dict_update_loop _,?_⟩
  have e1:((i:Int)+1)=((i+1:Nat):Int):=by omega
  rw [e1]
  refine zel hA rest (i+1) _ (stored vs p.1 p.2) (by simp at hsz;omega) (fun j q hq=>?_) hit2 hl2 hd2 ?_ fun h' tk hd' kp=>?_
  ·obtain ⟨u',hu',b',kv',rfl,ht',hk'⟩:=hp (j+1) q (by simpa using hq)
   refine ⟨.ref b',by rw [<-hu'];congr 1;omega,b',kv',rfl,?_,hk'⟩
   obtain ⟨n1,n2⟩:=tne ht'
   obtain ⟨o,ho,r⟩:=ht'
   exact ⟨o,(sb2.2 b' n1).trans ((sb1.2 b' n2).trans ho),r⟩
  ·have:=stored_length_le vs p.1 p.2
   simp at hz;omega
  ·exact hR h' tk hd' fun b o n1 n2 e=>kp b o n1 n2 ((sb2.2 b n1).trans ((sb1.2 b n2).trans e))
end
end PySem
namespace PySem
section
variable {prog:Program}{w:World}{K:Type} [DecidableEq K] {knd:KeyKind prog w K}{A:Around}{E:Value->Shared->Prop}{s:Shared}
theorem zmo {l:Addr}{o:Obj}{items:Array Value}{n:Nat}{rest:List (K×Value)}{Q:Value->Shared->Prop}(hA:A.handled=none)
  (ho:s.heap.get? l=some o) (hc:o.cls=.type "list") (hdn:o.dict=none) (hdat:o.data=.seq items n) (hsz:items.size=rest.length)
  (hp:∀(j:Nat) p,rest[j]?=some p->∃u,items[j]?=some u/\PairAt knd s.heap u p) (hz:rest.length<=sizeLine)
  (h:∀h' tk,h'.DictOf knd s.heap.objs.size (merged [] rest)->(∀b o,s.heap.get? b=some o->h'.get? b=some o)->Q (.ref s.heap.objs.size) {s with heap:=h',toks:=tk}):
  wpAny (model prog w) A (call (.type "dict") [.ref l]) Q E s:=by
 refine callType_codes (Q₁:=fun obj s₁=>obj=.ref s.heap.objs.size/\s₁={s with heap:=s.heap.push {cls:=.type "dict",data:=.dict #[]}}) F.kt_called_dict (F.kt_typeCall_dict_1 _) F.entry_dict_init (kt_code_dict_new _ ⟨rfl,rfl⟩) ?_
 rintro obj s₁ ⟨rfl,rfl⟩
 have hnew:(s.heap.push {cls:=.type "dict",data:=.dict #[]}).DictOf knd s.heap.objs.size []:=Heap.DictOf.new s.heap
 have k0:∀b o,s.heap.get? b=some o->(s.heap.push {cls:=.type "dict",data:=.dict #[]}).get? b=some o:=fun b o e=>Heap.get?_push_of_some _ e
 generalize hD:s.heap.objs.size=D at*
 generalize hH:s.heap.push {cls:=.type "dict",data:=.dict #[]}=H0 at*
 refine ⟨hnew.typeIs,F.args_dict_init_2 _ _,?_⟩
 unfold Builtin.«dict.__init__»
 refine wpAny_bind ?_
 unfold Builtin.Dict.selfAndRest
 refine wpAny_bind (wpAny_notOrdered_dict hnew.typeIs ?_)
 show wpAny _ _ (pure (D,[Value.ref l])) _ _ _
 refine wpAny_pure ?_
 show wpAny _ _ (Builtin.Dict.updateFrom "dict.__init__" D (.ref l) [] .none) _ _ _
 unfold Builtin.Dict.updateFrom
 refine wpAny_bind (wpAny_typeOf (show ({s with heap:=H0}:Shared).TypeIs (.ref l) "list" from ⟨o,k0 _ _ ho,hc⟩) ?_)
 rw [if_pos (by decide)]
 refine wpAny_bind (zjq (s:={s with heap:=H0}) (k0 _ _ ho) hc hdat hdn zni (by decide) hA fun h1 tk1 k1=>?_)
 refine wpAny_bind (wpAny_rule ?_)
 refine wpAny_bind (wpAny_pyIter_list (s:={s with heap:=h1,toks:=tk1}) (l:=l) (items:=items) ⟨o,k1 _ _ (k0 _ _ ho),hc,n,hdat⟩ ?_)
 have k2:∀b ob,s.heap.get? b=some ob->(h1.push {cls:=.type "list_iterator",data:=.fields #[.ref l,.int 0 0]}).get? b=some ob:=fun b ob e=>Heap.get?_push_of_some _ (k1 b ob (k0 b ob e))
 have hd2:(h1.push {cls:=.type "list_iterator",data:=.fields #[.ref l,.int 0 0]}).DictOf knd D []:=by
  obtain ⟨od,es,ep,hod,r⟩:=hnew
  exact ⟨od,es,ep,Heap.get?_push_of_some _ (k1 _ _ hod),r⟩
 refine wpAny_pure ⟨plainId_quiet F.plain_dict_update_loop _,?_⟩
 refine zel (A:=A.in1) (knd:=knd) (l:=l) (items:=items) (R:=wants (fun r s₂=>r=.none/\Q (.ref D) s₂) E) hA rest 0 {s with heap:=h1.push {cls:=.type "list_iterator",data:=.fields #[.ref l,.int 0 0]},toks:=tk1} [] (by omega) (fun j p hj=>?_) ⟨_,Heap.get?_push_size _ rfl,rfl,rfl⟩ ⟨o,k2 _ _ ho,hc,n,hdat⟩ hd2 (by simpa using hz) fun h' tk hd' kp=>?_
 ·obtain ⟨u,hu,b,kv,rfl,⟨ob,hob,r⟩,hk⟩:=hp j p hj
  exact ⟨.ref b,by simpa using hu,b,kv,rfl,⟨ob,k2 _ _ hob,r⟩,hk⟩
 ·refine ⟨rfl,h h' tk hd' fun b ob e=>kp b ob ?_ ?_ (k2 b ob e)⟩
  ·exact Nat.ne_of_lt (by rw [<-hD];exact Heap.lt_size e)
  ·exact Nat.ne_of_lt (Heap.lt_size (k1 b ob (k0 b ob e)))
end
end PySem
namespace FL
open PySem L2
mutual
def zgw:D->D->Bool
 |.int _,.int _=>true
 |.int _,.str _=>true
 |.str _,.int _=>true
 |.str _,.str _=>true
 |.tup a,.tup b=>zld a b
 |.lst a,.lst b=>zld a b
 |_,_=>false
def zld:List D->List D->Bool
 |a::r,b::t=>zgw a b&&zld r t
 |_,_=>true
end
mutual
def D.dep:D->Nat
 |.tup l=>D.deps l+1
 |.lst l=>D.deps l+1
 |_=>0
def D.deps:List D->Nat
 |[]=>0
 |a::r=>max (D.dep a) (D.deps r)
end
theorem zju:∀{l:List D} {j:Nat} {d:D},l[j]?=some d->d.dep<=D.deps l
 |[],_,_,h=>by simp at h
 |a::r,0,d,h=>by simp at h;subst h;exact Nat.le_max_left _ _
 |a::r,j+1,d,h=>by
  have:=zju (l:=r) (j:=j) (d:=d) (by simpa using h)
  exact Nat.le_trans this (Nat.le_max_right _ _)
theorem zif:∀{l m:List D} {j:Nat} {d e:D},zld l m=true->l[j]?=some d->m[j]?=some e->zgw d e=true
 |[],_,_,_,_,_,h,_=>by simp at h
 |_::_,[],_,_,_,_,_,h=>by simp at h
 |a::r,b::t,0,d,e,h,h1,h2=>by
  simp at h1 h2;subst h1;subst h2
  rw [zld,Bool.and_eq_true] at h
  exact h.1
 |a::r,b::t,j+1,d,e,h,h1,h2=>by
  rw [zld,Bool.and_eq_true] at h
  exact zif (l:=r) (m:=t) (j:=j) h.2 (by simpa using h1) (by simpa using h2)
theorem zim {l m:List D}:((List.range (min l.length m.length)).all (fun j=>decide (l[j]?=m[j]?))&&l.length==m.length)=decide (l=m):=by
 rw [Bool.eq_iff_iff,Bool.and_eq_true,all_eq_true,beq_iff_eq,decide_eq_true_iff]
 constructor
 ·rintro ⟨h1,h2⟩
  refine List.ext_getElem? fun j=>?_
  by_cases hj:j<min l.length m.length
  ·exact of_decide_eq_true (h1 j (List.mem_range.mpr hj))
  ·rw [getElem?_eq_none (by omega),getElem?_eq_none (by omega)]
 ·rintro rfl
  exact ⟨fun j _=>by simp,rfl⟩
theorem zgr {P:Program}{w:World}{K:PySem.W.Frag}{xs:List V}{us:List Value}{j:Nat}{u:Value}(r:Vals xs us)(h:us[j]?=some u):∃x,xs[j]?=some x/\RelV x u:=by
 have hl:=r.length
 obtain ⟨hj,_⟩:=List.getElem?_eq_some_iff.mp h
 have hx:xs[j]?=some (xs[j]'(by omega)):=getElem?_eq_getElem (by omega)
 obtain ⟨u',h1,h2⟩:=r.get hx
 rw [h] at h1;cases h1
 exact ⟨_,hx,h2⟩
open SeqAt in
theorem zup {P:Program}{w:World}{G H:Hp}{s:Shared}(ok:HOk P w H s.heap)(hG:Same G H):∀(n:Nat) {d e:D} {x y:V} {u z:Value} {A:Around},d.dep<=n->Rep G x d->Rep G y e->RelV x u->RelV y z->zgw d e=true->A.units+n<cLine->
  EqAt A s u z (decide (d=e)):=by
 intro n
 induction n with
 |zero=>
  intro d e x y u z A hd rx ry ru rz hc hu
  cases rx with
  |int i=>
   obtain ⟨t,rfl⟩:=ru
   cases ry with
   |int j=>
    obtain ⟨t',rfl⟩:=rz
    have q:decide (D.int i=D.int j)=(i==j):=by rw [Bool.eq_iff_iff];simp
    rw [q];exact EqAt.int_int i t j t'
   |str j=>
    obtain ⟨t',rfl⟩:=rz
    have q:decide (D.int i=D.str j)=false:=by simp
    rw [q];exact EqAt.int_str i t j t'
   |_=>exact absurd hc (by simp [zgw])
  |str i=>
   obtain ⟨t,rfl⟩:=ru
   cases ry with
   |int j=>
    obtain ⟨t',rfl⟩:=rz
    have q:decide (D.str i=D.int j)=false:=by simp
    rw [q];exact EqAt.str_int i t j t'
   |str j=>
    obtain ⟨t',rfl⟩:=rz
    have q:decide (D.str i=D.str j)=(i==j):=by rw [Bool.eq_iff_iff];simp
    rw [q];exact EqAt.str_str i t j t'
   |_=>exact absurd hc (by simp [zgw])
  |non=>exact absurd hc (by simp [zgw])
  |bl _=>exact absurd hc (by simp [zgw])
  |tup _ _=>simp [D.dep] at hd
  |lst _ _=>simp [D.dep] at hd
 |succ n ih=>
  intro d e x y u z A hd rx ry ru rz hc hu
  cases rx with
  |int i=>
   obtain ⟨t,rfl⟩:=ru
   cases ry with
   |int j=>
    obtain ⟨t',rfl⟩:=rz
    have q:decide (D.int i=D.int j)=(i==j):=by rw [Bool.eq_iff_iff];simp
    rw [q];exact EqAt.int_int i t j t'
   |str j=>
    obtain ⟨t',rfl⟩:=rz
    have q:decide (D.int i=D.str j)=false:=by simp
    rw [q];exact EqAt.int_str i t j t'
   |_=>exact absurd hc (by simp [zgw])
  |str i=>
   obtain ⟨t,rfl⟩:=ru
   cases ry with
   |int j=>
    obtain ⟨t',rfl⟩:=rz
    have q:decide (D.str i=D.int j)=false:=by simp
    rw [q];exact EqAt.str_int i t j t'
   |str j=>
    obtain ⟨t',rfl⟩:=rz
    have q:decide (D.str i=D.str j)=(i==j):=by rw [Bool.eq_iff_iff];simp
    rw [q];exact EqAt.str_str i t j t'
   |_=>exact absurd hc (by simp [zgw])
  |non=>exact absurd hc (by simp [zgw])
  |bl _=>exact absurd hc (by simp [zgw])
  |@tup a vs l ha ra=>
   cases ru
   cases ry with
   |@tup b ws m hb rb=>
    cases rz
    rw [zgw] at hc
    by_cases hab:a=b
    ·subst hab
     rw [ha] at hb;cases hb
     rw [Reps.inj ra rb,decide_eq_true rfl]
     exact EqAt.same _
    ·obtain ⟨_,its,r1,p1⟩:=(show ObjOk P w H s.heap a (.tup vs) from ok a _ (hG _ _ ha))
     obtain ⟨_,its2,r2,p2⟩:=(show ObjOk P w H s.heap b (.tup ws) from ok b _ (hG _ _ hb))
     have n1:its.toArray.size=l.length:=by rw [List.size_toArray,<-r1.length,ra.length]
     have n2:its2.toArray.size=m.length:=by rw [List.size_toArray,<-r2.length,rb.length]
     have q:decide (D.tup l=D.tup m)=((List.range (min its.toArray.size its2.toArray.size)).all (fun j=>decide (l[j]?=m[j]?))&&its.toArray.size==its2.toArray.size):=by
      rw [n1,n2,zim,Bool.eq_iff_iff];simp
     rw [q]
     refine EqAt.of_refs hab (RcAt.tuples p1 p2 (by omega) fun j h1 h2=>?_)
     obtain ⟨x',hx,rx'⟩:=zgr (P:=P) (w:=w) (K:=[]) r1 (j:=j) (u:=its.toArray[j]) (by simp)
     obtain ⟨y',hy,ry'⟩:=zgr (P:=P) (w:=w) (K:=[]) r2 (j:=j) (u:=its2.toArray[j]) (by simp)
     obtain ⟨d',hd',rd'⟩:=ra.getV hx
     obtain ⟨e',he',re'⟩:=rb.getV hy
     have q2:decide (l[j]?=m[j]?)=decide (d'=e'):=by rw [hd',he',Bool.eq_iff_iff];simp
     rw [q2]
     have hdd:d'.dep<=n:=by
      have:=zju hd'
      simp only [D.dep] at hd
      omega
     exact ih hdd rd' re' rx' ry' (zif hc hd' he') (by show A.units+1+n<cLine;omega)
   |_=>exact absurd hc (by simp [zgw])
  |@lst a vs l ha ra=>
   cases ru
   cases ry with
   |@lst b ws m hb rb=>
    cases rz
    rw [zgw] at hc
    by_cases hab:a=b
    ·subst hab
     rw [ha] at hb;cases hb
     rw [Reps.inj ra rb,decide_eq_true rfl]
     exact EqAt.same _
    ·obtain ⟨_,its,k1,r1,p1⟩:=(show ObjOk P w H s.heap a (.lst vs) from ok a _ (hG _ _ ha))
     obtain ⟨_,its2,k2,r2,p2⟩:=(show ObjOk P w H s.heap b (.lst ws) from ok b _ (hG _ _ hb))
     have n1:its.toArray.size=l.length:=by rw [List.size_toArray,<-r1.length,ra.length]
     have n2:its2.toArray.size=m.length:=by rw [List.size_toArray,<-r2.length,rb.length]
     by_cases hlm:l.length=m.length
     ·have q:decide (D.lst l=D.lst m)=((List.range its.toArray.size).all (fun j=>decide (l[j]?=m[j]?))):=by
       have:=zim (l:=l) (m:=m)
       rw [n1]
       have e1:min l.length m.length=l.length:=by omega
       rw [e1] at this
       have e2:(l.length==m.length)=true:=by simpa using hlm
       rw [e2,Bool.and_true] at this
       rw [this,Bool.eq_iff_iff];simp
      rw [q]
      refine EqAt.of_refs hab (RcAt.lists ⟨_,p1,rfl,_,rfl⟩ ⟨_,p2,rfl,_,rfl⟩ (by omega) (by omega) fun j h1 h2=>?_)
      obtain ⟨x',hx,rx'⟩:=zgr (P:=P) (w:=w) (K:=[]) r1 (j:=j) (u:=its.toArray[j]) (by simp)
      obtain ⟨y',hy,ry'⟩:=zgr (P:=P) (w:=w) (K:=[]) r2 (j:=j) (u:=its2.toArray[j]) (by simp)
      obtain ⟨d',hd',rd'⟩:=ra.getV hx
      obtain ⟨e',he',re'⟩:=rb.getV hy
      have q2:decide (l[j]?=m[j]?)=decide (d'=e'):=by rw [hd',he',Bool.eq_iff_iff];simp
      rw [q2]
      have hdd:d'.dep<=n:=by
       have:=zju hd'
       simp only [D.dep] at hd
       omega
      exact ih hdd rd' re' rx' ry' (zif hc hd' he') (by show A.units+1+n<cLine;omega)
     ·have q:decide (D.lst l=D.lst m)=false:=by
       rw [decide_eq_false_iff_not]
       intro z;cases z;exact hlm rfl
      rw [q]
      exact EqAt.of_refs hab (RcAt.lists_lengths ⟨_,p1,rfl,_,rfl⟩ ⟨_,p2,rfl,_,rfl⟩ (by rw [n1,n2];simpa using hlm) (by omega))
   |_=>exact absurd hc (by simp [zgw])
section
variable {X:Cx}
open SeqAt
def Two (x y:V)(H:Hp)(d e:D):Prop:=∃M,Rep (but H M) x d/\Rep (but H M) y e/\zgw d e=true/\d.dep<=40
def rEqD:R2:=fun x y H Q=>∃d e,Two x y H d e/\Q (.bl (decide (d=e))) H
def rNeD:R2:=fun x y H Q=>∃d e,Two x y H d e/\Q (.bl (!decide (d=e))) H
theorem rich_same {A:Around}{s:Shared}{pins:List (Addr×Obj)}{σ:St}{H:Hp}(I:Inv X pins σ H s){a:Addr}{M:List Addr}{d:D}(r:Rep (but H M) (.ref a) d)(hc:zgw d d=true)(hd:d.dep<=40)(hu:A.units+50<cLine):
  (∃its n,s.heap.IsTuple a its/\RcAt A s (.ref a) (.ref a) true/\RcNeAt A s (.ref a) (.ref a) false/\n=its.size)\/(∃its n,s.heap.IsList a its/\RcAt A s (.ref a) (.ref a) true/\RcNeAt A s (.ref a) (.ref a) false/\n=its.size):=by
 have hin:A.in1.units+45<cLine:=by show A.units+1+45<cLine;omega
 cases r with
 |@tup _ vs l ha ra=>
  left
  obtain ⟨_,its,r1,p1⟩:=(show ObjOk X.prog X.w H s.heap a (.tup vs) from I.hok a _ (zac ha).2)
  have he:∀j (h1:j<its.toArray.size) (h2:j<its.toArray.size),EqAt A.in1 s its.toArray[j] its.toArray[j] ((fun _=>true) j):=fun j _ _=>EqAt.same _
  have q1:=RcAt.tuples p1 p1 (by omega) he
  have q2:=RcNeAt.tuples p1 p1 (by omega) he
  have e1:((List.range (min its.toArray.size its.toArray.size)).all (fun _=>true)&&its.toArray.size==its.toArray.size)=true:=by simp
  rw [e1] at q1 q2
  exact ⟨_,_,p1,q1,q2,rfl⟩
 |@lst _ vs l ha ra=>
  right
  obtain ⟨_,its,k1,r1,p1⟩:=(show ObjOk X.prog X.w H s.heap a (.lst vs) from I.hok a _ (zac ha).2)
  have he:∀j (h1:j<its.toArray.size) (h2:j<its.toArray.size),EqAt A.in1 s its.toArray[j] its.toArray[j] ((fun _=>true) j):=fun j _ _=>EqAt.same _
  have p1':s.heap.IsList a its.toArray:=⟨_,p1,rfl,_,rfl⟩
  have q1:=RcAt.lists p1' p1' rfl (by omega) he
  have q2:=RcNeAt.lists p1' p1' rfl (by omega) he
  have e1:((List.range its.toArray.size).all (fun _=>true))=true:=by simp
  rw [e1] at q1 q2
  exact ⟨_,_,p1',q1,q2,rfl⟩
theorem zvk {A:Around}{s:Shared}{pins:List (Addr×Obj)}{σ:St}{H:Hp}(I:Inv X pins σ H s){a b:Addr}{M:List Addr}{d e:D}(ra:Rep (but H M) (.ref a) d)(rb:Rep (but H M) (.ref b) e)(hc:zgw d e=true)(hd:d.dep<=40)(hu:A.units+50<cLine):
  RcAt A s (.ref a) (.ref b) (decide (d=e))/\RcNeAt A s (.ref a) (.ref b) (!decide (d=e)):=by
 have hin:A.in1.units+45<cLine:=by show A.units+1+45<cLine;omega
 cases ra with
 |@tup _ vs l ha ra=>
  cases rb with
  |@tup _ ws m hb rb=>
   rw [zgw] at hc
   obtain ⟨_,its,r1,p1⟩:=(show ObjOk X.prog X.w H s.heap a (.tup vs) from I.hok a _ (zac ha).2)
   obtain ⟨_,its2,r2,p2⟩:=(show ObjOk X.prog X.w H s.heap b (.tup ws) from I.hok b _ (zac hb).2)
   have n1:its.toArray.size=l.length:=by rw [List.size_toArray,<-r1.length,ra.length]
   have n2:its2.toArray.size=m.length:=by rw [List.size_toArray,<-r2.length,rb.length]
   have q:decide (D.tup l=D.tup m)=((List.range (min its.toArray.size its2.toArray.size)).all (fun j=>decide (l[j]?=m[j]?))&&its.toArray.size==its2.toArray.size):=by
    rw [n1,n2,zim,Bool.eq_iff_iff];simp
   have he:∀j (h1:j<its.toArray.size) (h2:j<its2.toArray.size),EqAt A.in1 s its.toArray[j] its2.toArray[j] ((fun j=>decide (l[j]?=m[j]?)) j):=fun j h1 h2=>by
    obtain ⟨x',hx,rx'⟩:=zgr (P:=X.prog) (w:=X.w) (K:=X.K) r1 (j:=j) (u:=its.toArray[j]) (by simp)
    obtain ⟨y',hy,ry'⟩:=zgr (P:=X.prog) (w:=X.w) (K:=X.K) r2 (j:=j) (u:=its2.toArray[j]) (by simp)
    obtain ⟨d',hd',rd'⟩:=ra.getV hx
    obtain ⟨e',he',re'⟩:=rb.getV hy
    have q2:decide (l[j]?=m[j]?)=decide (d'=e'):=by rw [hd',he',Bool.eq_iff_iff];simp
    show EqAt A.in1 s _ _ (decide (l[j]?=m[j]?))
    rw [q2]
    have hdd:d'.dep<=40:=by
     have:=zju hd'
     simp only [D.dep] at hd
     omega
    exact zup I.hok (zqa H M) 40 hdd rd' re' rx' ry' (zif hc hd' he') (by omega)
   rw [q]
   exact ⟨RcAt.tuples p1 p2 (by omega) he,RcNeAt.tuples p1 p2 (by omega) he⟩
  |_=>exact absurd hc (by simp [zgw])
 |@lst _ vs l ha ra=>
  cases rb with
  |@lst _ ws m hb rb=>
   rw [zgw] at hc
   obtain ⟨_,its,k1,r1,p1⟩:=(show ObjOk X.prog X.w H s.heap a (.lst vs) from I.hok a _ (zac ha).2)
   obtain ⟨_,its2,k2,r2,p2⟩:=(show ObjOk X.prog X.w H s.heap b (.lst ws) from I.hok b _ (zac hb).2)
   have p1':s.heap.IsList a its.toArray:=⟨_,p1,rfl,_,rfl⟩
   have p2':s.heap.IsList b its2.toArray:=⟨_,p2,rfl,_,rfl⟩
   have n1:its.toArray.size=l.length:=by rw [List.size_toArray,<-r1.length,ra.length]
   have n2:its2.toArray.size=m.length:=by rw [List.size_toArray,<-r2.length,rb.length]
   by_cases hlm:l.length=m.length
   ·have q:decide (D.lst l=D.lst m)=((List.range its.toArray.size).all (fun j=>decide (l[j]?=m[j]?))):=by
     have:=zim (l:=l) (m:=m)
     rw [n1]
     have e1:min l.length m.length=l.length:=by omega
     rw [e1] at this
     have e2:(l.length==m.length)=true:=by simpa using hlm
     rw [e2,Bool.and_true] at this
     rw [this,Bool.eq_iff_iff];simp
    have he:∀j (h1:j<its.toArray.size) (h2:j<its2.toArray.size),EqAt A.in1 s its.toArray[j] its2.toArray[j] ((fun j=>decide (l[j]?=m[j]?)) j):=fun j h1 h2=>by
     obtain ⟨x',hx,rx'⟩:=zgr (P:=X.prog) (w:=X.w) (K:=X.K) r1 (j:=j) (u:=its.toArray[j]) (by simp)
     obtain ⟨y',hy,ry'⟩:=zgr (P:=X.prog) (w:=X.w) (K:=X.K) r2 (j:=j) (u:=its2.toArray[j]) (by simp)
     obtain ⟨d',hd',rd'⟩:=ra.getV hx
     obtain ⟨e',he',re'⟩:=rb.getV hy
     have q2:decide (l[j]?=m[j]?)=decide (d'=e'):=by rw [hd',he',Bool.eq_iff_iff];simp
     show EqAt A.in1 s _ _ (decide (l[j]?=m[j]?))
     rw [q2]
     have hdd:d'.dep<=40:=by
      have:=zju hd'
      simp only [D.dep] at hd
      omega
     exact zup I.hok (zqa H M) 40 hdd rd' re' rx' ry' (zif hc hd' he') (by omega)
    rw [q]
    exact ⟨RcAt.lists p1' p2' (by omega) (by omega) he,RcNeAt.lists p1' p2' (by omega) (by omega) he⟩
   ·have q:decide (D.lst l=D.lst m)=false:=by
     rw [decide_eq_false_iff_not]
     intro z;cases z;exact hlm rfl
    rw [q]
    exact ⟨RcAt.lists_lengths p1' p2' (by rw [n1,n2];simpa using hlm) (by omega),RcNeAt.lists_lengths p1' p2' (by rw [n1,n2];simpa using hlm) (by omega)⟩
  |_=>exact absurd hc (by simp [zgw])
theorem cmpb_sc {G:Hp}{x y:V}{d e:D}(rx:Rep G x d)(ry:Rep G y e)(hc:zgw d e=true):(d.sc=true/\e.sc=true)\/∃a b,x=.ref a/\y=.ref b:=by
 cases rx with
 |int i=>cases ry<;>first|exact .inl ⟨rfl,rfl⟩|exact absurd hc (by simp [zgw])
 |str i=>cases ry<;>first|exact .inl ⟨rfl,rfl⟩|exact absurd hc (by simp [zgw])
 |tup _ _=>cases ry<;>first|exact .inr ⟨_,_,rfl,rfl⟩|exact absurd hc (by simp [zgw])
 |lst _ _=>cases ry<;>first|exact .inr ⟨_,_,rfl,rfl⟩|exact absurd hc (by simp [zgw])
 |_=>exact absurd hc (by simp [zgw])
theorem op_eqD (hu:X.A.units+50<cLine):OpR X (compareOp .Eq) rEqD:=by
 intro pins s σ H x y v u Q I rx ry h
 obtain ⟨d,e,⟨M,r1,r2,hc,hd⟩,q⟩:=h
 rcases cmpb_sc r1 r2 hc with ⟨h1,h2⟩|⟨a,b,rfl,rfl⟩
 ·obtain ⟨h3,h4⟩:=scal_of r1 r2 h1 h2
  rw [<-h4] at q
  exact op_eq pins s σ H x y v u Q I rx ry ⟨h3,q⟩
 ·cases rx;cases ry
  exact (zvk I r1 r2 hc hd hu).1 _ _ _ _ ⟨.bl _,H,I,rfl,q⟩
theorem op_neD (hu:X.A.units+50<cLine):OpR X (compareOp .NotEq) rNeD:=by
 intro pins s σ H x y v u Q I rx ry h
 obtain ⟨d,e,⟨M,r1,r2,hc,hd⟩,q⟩:=h
 rcases cmpb_sc r1 r2 hc with ⟨h1,h2⟩|⟨a,b,rfl,rfl⟩
 ·obtain ⟨h3,h4⟩:=scal_of r1 r2 h1 h2
  rw [<-h4] at q
  exact op_ne pins s σ H x y v u Q I rx ry ⟨h3,q⟩
 ·cases rx;cases ry
  exact (zvk I r1 r2 hc hd hu).2 _ _ _ _ ⟨.bl _,H,I,rfl,q⟩
def rInD (neg:Bool):R2:=fun x y H Q=>∃M d es,Rep (but H M) x d/\(Rep (but H M) y (.lst es)\/Rep (but H M) y (.tup es))/\(∀e∈es,zgw e d=true/\e.dep<=40)/\Q (.bl (if neg then !decide (d∈es) else decide (d∈es))) H
theorem zlo {pins:List (Addr×Obj)}{σ:St}{H:Hp}{s:Shared}{A:Around}(I:Inv X pins σ H s){M:List Addr}{x:V}{u:Value}{d:D}{es:List D}{vs:List V}{its:List Value}(rx:Rep (but H M) x d)(ru:RelV x u)(rs:Reps (but H M) vs es)(rv:Vals vs its)(hall:∀e∈es,zgw e d=true/\e.dep<=40)(hu:A.units+50<cLine):
  ∃f:Value->Bool,(∀y,y∈its.toArray->EqAt A.in1 s y u (f y))/\its.toArray.any f=decide (d∈es):=by
 classical
 refine ⟨fun y=>decide (∃v e,RelV v y/\Rep (but H M) v e/\e=d),fun y hy=>?_,?_⟩
 ·have hy':y∈its:=by simpa using hy
  obtain ⟨j,hj,hjy⟩:=List.getElem_of_mem hy'
  obtain ⟨v,hv,rv'⟩:=zgr (P:=X.prog) (w:=X.w) (K:=X.K) rv (j:=j) (u:=y) (by rw [getElem?_eq_getElem hj,hjy])
  obtain ⟨e,he,re⟩:=rs.getV hv
  have hm:e∈es:=mem_of_getElem? he
  have q:decide (∃v e,RelV v y/\Rep (but H M) v e/\e=d)=decide (e=d):=by
   rw [Bool.eq_iff_iff,decide_eq_true_iff,decide_eq_true_iff]
   constructor
   ·rintro ⟨v',e',r1,r2,r3⟩
    rw [rv'.inj r1] at re
    rw [Rep.inj re r2];exact r3
   ·intro z;exact ⟨v,e,rv',re,z⟩
  show EqAt A.in1 s y u (decide (∃v e,RelV v y/\Rep (but H M) v e/\e=d))
  rw [q]
  exact zup I.hok (zqa H M) 40 (hall e hm).2 re rx rv' ru (hall e hm).1 (by show A.units+1+40<cLine;omega)
 ·rw [Bool.eq_iff_iff,Array.any_eq_true,decide_eq_true_iff]
  constructor
  ·rintro ⟨j,hj,h⟩
   obtain ⟨v',e',r1,r2,r3⟩:=of_decide_eq_true h
   obtain ⟨v,hv,rv'⟩:=zgr (P:=X.prog) (w:=X.w) (K:=X.K) rv (j:=j) (u:=its.toArray[j]) (by simp)
   obtain ⟨e,he,re⟩:=rs.getV hv
   rw [rv'.inj r1] at re
   rw [<-r3,<-Rep.inj re r2]
   exact mem_of_getElem? he
  ·intro hm
   obtain ⟨j,hj,hjd⟩:=List.getElem_of_mem hm
   have hl:=rs.length
   have hl2:=rv.length
   obtain ⟨v,hv,rv'⟩:=rs.get (i:=j) (d:=d) (by rw [getElem?_eq_getElem hj,hjd])
   obtain ⟨y,hy,ry⟩:=rv.get hv
   have hjs:j<its.toArray.size:=by simp;omega
   refine ⟨j,hjs,decide_eq_true ⟨v,d,?_,rv',rfl⟩⟩
   have:its.toArray[j]=y:=by
    rw [getElem?_eq_getElem (by simpa using hjs)] at hy
    simpa using hy
   rw [this];exact ry
theorem op_inD (hu:X.A.units+50<cLine):OpR X (compareOp .In) (rInD false):=by
 intro pins s σ H x y v u Q I rx ry h
 obtain ⟨M,d,es,r1,r2,hall,q⟩:=h
 rcases r2 with r2|r2
 ·obtain ⟨a,vs,rfl,h1,h2⟩:=r2.of_lst
  cases ry
  obtain ⟨_,its,n,rv,p⟩:=(show ObjOk X.prog X.w H s.heap a (.lst vs) from I.hok a _ (zac h1).2)
  obtain ⟨f,hf,he⟩:=zlo I r1 rx h2 rv hall hu
  refine in_listAt f ⟨_,p,rfl,_,rfl⟩ hf ?_
  rw [he]
  exact ⟨.bl _,H,I,rfl,q⟩
 ·obtain ⟨a,vs,rfl,h1,h2⟩:=r2.of_tup
  cases ry
  obtain ⟨_,its,rv,p⟩:=(show ObjOk X.prog X.w H s.heap a (.tup vs) from I.hok a _ (zac h1).2)
  obtain ⟨f,hf,he⟩:=zlo I r1 rx h2 rv hall hu
  refine in_tupleAt f p hf ?_
  rw [he]
  exact ⟨.bl _,H,I,rfl,q⟩
theorem zrj (hu:X.A.units+50<cLine):OpR X (compareOp .NotIn) (rInD true):=by
 intro pins s σ H x y v u Q I rx ry h
 obtain ⟨M,d,es,r1,r2,hall,q⟩:=h
 rcases r2 with r2|r2
 ·obtain ⟨a,vs,rfl,h1,h2⟩:=r2.of_lst
  cases ry
  obtain ⟨_,its,n,rv,p⟩:=(show ObjOk X.prog X.w H s.heap a (.lst vs) from I.hok a _ (zac h1).2)
  obtain ⟨f,hf,he⟩:=zlo I r1 rx h2 rv hall hu
  refine notIn_listAt f ⟨_,p,rfl,_,rfl⟩ hf ?_
  rw [he]
  exact ⟨.bl _,H,I,rfl,q⟩
 ·obtain ⟨a,vs,rfl,h1,h2⟩:=r2.of_tup
  cases ry
  obtain ⟨_,its,rv,p⟩:=(show ObjOk X.prog X.w H s.heap a (.tup vs) from I.hok a _ (zac h1).2)
  obtain ⟨f,hf,he⟩:=zlo I r1 rx h2 rv hall hu
  refine notIn_tupleAt f p hf ?_
  rw [he]
  exact ⟨.bl _,H,I,rfl,q⟩
def zym (K:PySem.W.Frag)(H:Hp):List V->List (Key×V)->Prop:=Paired fun v kv=>∃b,v=.ref b/\SqT K H b [kV kv.1,kv.2]
theorem zvr {pins:List (Addr×Obj)}{σ:St}{H:Hp}{s:Shared}(I:Inv X pins σ H s):∀{vs:List V} {kvs:List (Key×V)} {its:List Value},zym X.K H vs kvs->Vals vs its->
  ∃rest:List (Key×Value),KV kvs rest/\∀(j:Nat) (p:Key×Value),rest[j]?=some p->∃u,its.toArray[j]?=some u/\PairAt (zc9 X.prog X.w) s.heap u p
 |_,_,_,.nil,.nil=>⟨[],.nil,fun j p h=>by simp at h⟩
 |_,_,_,.cons (b:=kv) ⟨b,hb,hq⟩ t,.cons (b:=u) r rr=>by
  subst hb
  obtain rfl:u=Value.ref b:=r
  obtain ⟨rest,h1,h2⟩:=zvr I t rr
  obtain ⟨its',rv,p,_⟩:=I.tuple hq
  obtain ⟨u1,u2,rfl,r1,r2⟩:=Vals.two rv
  refine ⟨(kv.1,u2)::rest,.cons ⟨rfl,r2⟩ h1,fun j p' hj=>?_⟩
  cases j with
  |zero=>
   simp at hj;subst hj
   exact ⟨.ref b,by simp,b,u1,rfl,p,zpn r1⟩
  |succ j=>
   obtain ⟨u',hu',hp'⟩:=h2 j p' (by simpa using hj)
   exact ⟨u',by simpa using hu',hp'⟩
theorem zst (hc:X.calm=true):zmy X (.type "dict") (fun xs H Q=>∃a vs kvs,xs=[.ref a]/\SqL X.K H a vs/\zym X.K H vs kvs/\∀p,H p=none->Q (.ref p) (upd H p (.dK (zbk [] kvs)))):=by
 intro pins s σ H xs us Q I r h
 obtain ⟨a,vs,kvs,rfl,hq,hp,q⟩:=h
 obtain ⟨u,rfl,ru⟩:=zkc r
 cases ru
 obtain ⟨its,rv,⟨o,n,ho,hcl,hdn,hdat⟩,hz⟩:=I.list hq
 obtain ⟨rest,h1,h2⟩:=zvr I hp rv
 have hlen:kvs.length=rest.length:=Paired.length h1
 have hvl:vs.length=kvs.length:=Paired.length hp
 have hil:=rv.length
 refine zmo (knd:=zc9 X.prog X.w) (I.ok.hd hc) ho hcl hdn hdat (by simp;omega) h2 (by omega) fun h' tk hd' kp=>?_
 have hm:=KV.merge (kvs:=[]) (vs:=[]) h1 .nil
 have hml:=zhj kvs []
 refine ⟨.ref s.heap.objs.size,_,I.laid (a:=s.heap.objs.size) (o:=.dK (zbk [] kvs)) (t':=tk) kp (Nat.le_refl _) (zwf (by simp at hml;omega) (beq_eq_false_iff_ne.mpr (Ne.symm (Nat.ne_of_lt I.big))) hm hd'),rfl,q _ (I.hok.fresh (Nat.le_refl _))⟩
end
end FL
namespace FL
open PySem L2
def zte (wi:TI)(G:Hp)(σ:St)(ds:List D):Prop:=∀M H,Same G (but H M)->Live M H->∀R:It->Hp->Prop,
 (∀J H1,Same H H1->(∀(j:Nat) d M' H',ds[j]?=some d->Same (but H1 M) (but H' M')->Live M' H'->J.go j H'/\∀x H'',J.yld j H' x H''->Same H' H''/\Rep (but H'' M') x d)->(∀M' H',Same (but H1 M) (but H' M')->J.stop ds.length H')->R J H1)->wi σ H R
section
variable {G:Hp}{σ:St}{ta tb tl te:TE}{tt:TT}{t:TA}{d:D}{ds:List D}{K:PySem.W.Frag}{wi:TI}
theorem walk_list (h:EvM tl G σ (.lst ds)):zte (zum K tl) G σ ds:=fun M H s l R k=>h M H s l _ fun x H1 s1 rx=>by
 obtain ⟨a,vs,rfl,h1,h2⟩:=rx.of_lst
 refine ⟨a,rfl,⟨vs,SqL.of (zac h1).2⟩,k _ H1 s1 (fun j d M' H' hj hs hl=>?_) (fun M' H' hs=>?_)⟩
 ·have ha:=(zac (hs _ _ h1)).2
  obtain ⟨v,hv,rv⟩:=h2.get hj
  refine ⟨⟨vs,v,SqL.of ha,hv⟩,fun x H'' ⟨e,hy⟩=>?_⟩
  subst e
  have hx:=hy vs (SqL.of ha)
  rw [hv] at hx;cases hx
  exact ⟨Same.refl _,rv.mono hs⟩
 ·have ha:=(zac (hs _ _ h1)).2
  exact ⟨vs,SqL.of ha,by rw [h2.length];exact Nat.le_refl _⟩
theorem walk_tup (h:EvM tl G σ (.tup ds)):zte (iTup K tl) G σ ds:=fun M H s l R k=>h M H s l _ fun x H1 s1 rx=>by
 obtain ⟨a,vs,rfl,h1,h2⟩:=rx.of_tup
 refine ⟨a,rfl,⟨vs,SqT.of (zac h1).2⟩,k _ H1 s1 (fun j d M' H' hj hs hl=>?_) (fun M' H' hs=>?_)⟩
 ·have ha:=(zac (hs _ _ h1)).2
  obtain ⟨v,hv,rv⟩:=h2.get hj
  refine ⟨⟨vs,v,SqT.of ha,hv⟩,fun x H'' ⟨e,hy⟩=>?_⟩
  subst e
  have hx:=hy vs (SqT.of ha)
  rw [hv] at hx;cases hx
  exact ⟨Same.refl _,rv.mono hs⟩
 ·have ha:=(zac (hs _ _ h1)).2
  exact ⟨vs,SqT.of ha,by rw [h2.length];exact Nat.le_refl _⟩
theorem zhh (lo:Int)(n j:Nat)(d:D)(h:((List.range n).map fun (k:Nat)=>D.int (lo+k))[j]?=some d):j<n/\d=.int (lo+j):=by
 rw [getElem?_map] at h
 cases e:(List.range n)[j]? with
 |none=>rw [e] at h;cases h
 |some q=>
  rw [e] at h
  obtain ⟨h1,h2⟩:=List.getElem?_eq_some_iff.mp e
  simp at h1 h2
  subst h2
  exact ⟨h1,(Option.some.inj h).symm⟩
theorem zhf {n:Nat}(hn:n<2^62)(h:EvA t G σ [.int n]):zte (iRng1 t) G σ ((List.range n).map fun (k:Nat)=>D.int (0+k)):=fun M H s l R k=>h M H s l _ fun vs H1 s1 rs=>by
 obtain ⟨x,rfl,rx⟩:=zov rs
 refine ⟨(n:Int),by rw [rx.of_int],by omega,by omega,?_⟩
 refine k _ H1 s1 (fun j d M' H' hj hs hl=>?_) (fun M' H' hs=>?_)
 ·obtain ⟨h1,rfl⟩:=zhh 0 n j d hj
  refine ⟨by show j<((n:Int)).toNat;omega,fun x H'' ⟨e,hy⟩=>?_⟩
  subst e;subst hy
  exact ⟨Same.refl _,.int _⟩
 ·show ((n:Int)).toNat<=_
  simp
theorem zfu {H H':Hp}{M:List Addr}{D:Addr}(h:H D=none)(s:Same H H'):Same (but H M) (but H' (D::M)):=fun b o e=>by
 obtain ⟨h1,h2⟩:=zac e
 rw [zat]
 ·exact s b o h2
 ·intro z
  rcases mem_cons.mp z with rfl|z
  ·rw [h] at h2;cases h2
  ·exact h1 z
theorem zer {caps:St->St}{i:Nat}{p:D->Bool}{f:D->D}(hw:zte wi G σ ds)
  (ht:∀G' v d,Same G G'->d∈ds->Rep G' v d->EvT tt G' ((caps σ).set i (some v)) (p d))
  (he:∀G' v d,Same G G'->d∈ds->p d=true->Rep G' v d->EvM te G' ((caps σ).set i (some v)) (f d)) (hz:ds.length<sizeLine):
  EvM (zna wi caps (zdz i) tt te) G σ (.lst ((ds.filter p).map f)):=fun M H s l Q k=>hw M H s l _ fun J H1 s1 hgo hstop D hD=>by
 have lf:D∉M:=(l.same s1).fresh hD
 have sG1:Same G (but H1 M):=s.trans (s1.but M)
 refine ⟨fun j m τ H'=>m=ds.length-j/\j<=ds.length/\(∀v,τ.set i (some v)=(caps σ).set i (some v))/\Same H1 H'/\∃ys,H' D=some (.lst ys)/\Reps (but H' (D::M)) ys (((ds.take j).filter p).map f),
  ⟨ds.length,by simp,Nat.zero_le _,fun _=>rfl,zbm hD _,[],zae,by simpa using Reps.nil⟩,?_⟩
 rintro j m τ H' ⟨rfl,hj,hτ,s2,ys,hD',ry⟩
 have hs:Same (but H1 M) (but H' (D::M)):=zfu hD s2
 have hl:Live (D::M) H':=((l.same s1).same s2).cons hD'
 by_cases hlt:j<ds.length
 ·have hd:ds[j]?=some ds[j]:=getElem?_eq_getElem hlt
  obtain ⟨go,gy⟩:=hgo j _ (D::M) H' hd hs hl
  refine .inr ⟨go,fun τ' H''=>(∀v,τ'.set i (some v)=(caps σ).set i (some v))/\Same H1 H''/\∃ys,H'' D=some (.lst ys)/\Reps (but H'' (D::M)) ys (((ds.take (j+1)).filter p).map f),
   fun τ' H'' ⟨a,b,c⟩=>⟨ds.length-(j+1),by omega,rfl,hlt,a,b,c⟩,fun x H'' hy=>?_⟩
  obtain ⟨s3,rx⟩:=gy x H'' hy
  have hm:ds[j]∈ds:=getElem_mem hlt
  have sG:Same G (but H'' (D::M)):=sG1.trans (hs.trans (s3.but _))
  have hl3:=hl.same s3
  show tt (τ.set i (some x)) H'' _
  rw [hτ x]
  have tk:(ds.take (j+1)).filter p=(ds.take j).filter p++(if p ds[j]=true then [ds[j]] else []):=by
   rw [take_add_one,hd,filter_append]
   congr 1
   by_cases hp:p ds[j]=true
   ·simp [hp]
   ·simp [hp]
  refine ht _ x _ sG hm rx (D::M) H'' (Same.refl _) hl3 _ fun H4 s4=>?_
  have setset:∀v,((caps σ).set i (some x)).set i (some v)=(caps σ).set i (some v):=fun v=>by rw [set_set]
  by_cases hp:p ds[j]=true
  ·rw [if_pos hp]
   refine he _ x _ (sG.trans (s4.but _)) hm hp (rx.mono (s4.but _)) (D::M) H4 (Same.refl _) (hl3.same s4) _ fun v H5 s5 r5=>?_
   have hD5:H5 D=some (.lst ys):=s5 _ _ (s4 _ _ (s3 _ _ hD'))
   have hlen:=ry.length
   have hle:(((ds.take j).filter p).map f).length<=j:=by
    rw [length_map]
    have:=length_filter_le p (ds.take j)
    rw [length_take] at this
    omega
   refine ⟨ys,hD5,by omega,setset,?_,ys++[v],zae,?_⟩
   ·intro b o e
    rw [zal (zax e hD)]
    exact s5 _ _ (s4 _ _ (s3 _ _ (s2 _ _ e)))
   ·rw [zcy mem_cons_self,tk,if_pos hp,map_append]
    exact (ry.mono (((s3.trans s4).trans s5).but _)).snoc r5
  ·rw [if_neg hp]
   refine ⟨setset,s2.trans (s3.trans s4),ys,s4 _ _ (s3 _ _ hD'),?_⟩
   rw [tk,if_neg hp,append_nil]
   exact ry.mono ((s3.trans s4).but _)
 ·have e:j=ds.length:=by omega
  subst e
  refine .inl ⟨hstop (D::M) H' hs,k _ H' (s1.trans s2) (zep lf hD' ?_)⟩
  rw [take_of_length_le (Nat.le_refl _)] at ry
  exact ry
theorem zwg {xs:List V}(k:Nat):cutV xs (some (k:Int)) none=xs.drop k:=by
 unfold cutV
 rw [HT.sIx_nat,HT.sIx_none]
 by_cases h:k<=xs.length
 ·rw [Nat.min_eq_left h,take_of_length_le (by simp)]
 ·rw [Nat.min_eq_right (by omega),List.drop_of_length_le (Nat.le_refl _),List.drop_of_length_le (by omega),List.take_nil]
theorem cut_to {xs:List V}(k:Nat):cutV xs none (some (k:Int))=xs.take k:=by
 unfold cutV
 rw [HT.sIx_nat,HT.sIx_none,List.drop_zero,Nat.sub_zero]
 by_cases h:k<=xs.length
 ·rw [Nat.min_eq_left h]
 ·rw [Nat.min_eq_right (by omega),take_of_length_le (Nat.le_refl _),take_of_length_le (by omega)]
theorem ev_from {k:Nat}{l:List D}(ha:EvM ta G σ (.lst l)):EvM (tSl (rSlL K) ta (tPart (tC (.int (k:Int)))) ztf) G σ (.lst (l.drop k)):=
 fun M H s lv Q q=>ha M H s lv _ fun x H1 s1 rx=>⟨(k:Int),rfl,by
  obtain ⟨a,vs,rfl,h1,h2⟩:=rx.of_lst
  refine ⟨a,vs,rfl,SqL.of (zac h1).2,fun p hp=>?_⟩
  rw [zwg]
  exact q _ _ (s1.trans (zbm hp _)) (zg9 (lv.same s1) hp (h2.drop k))⟩
theorem zwc {k:Nat}{l:List D}(hk:0<k)(hl:0<l.length)(ha:EvM ta G σ (.tup l)):EvM (tSl (rSlT K) ta (tPart (tC (.int (k:Int)))) ztf) G σ (.tup (l.drop k)):=
 fun M H s lv Q q=>ha M H s lv _ fun x H1 s1 rx=>⟨(k:Int),rfl,by
  obtain ⟨a,vs,rfl,h1,h2⟩:=rx.of_tup
  refine ⟨a,vs,rfl,SqT.of (zac h1).2,?_,fun p hp=>?_⟩
  ·rw [HT.sIx_nat]
   have:=h2.length
   omega
  ·rw [zwg]
   exact q _ _ (s1.trans (zbm hp _)) (zey (lv.same s1) hp (h2.drop k))⟩
theorem ev_inL {es:List D}(hall:∀e∈es,zgw e d=true/\e.dep<=40)(ha:EvM ta G σ d)(hb:EvM tb G σ (.lst es)):EvM (tOp (rInD false) ta tb) G σ (.bl (decide (d∈es))):=
 ziu (fun M H x y l rx ry Q k=>⟨M,d,es,rx,.inl ry,hall,k _ H (Same.refl _) (.bl _)⟩) ha hb
theorem ev_inT {es:List D}(hall:∀e∈es,zgw e d=true/\e.dep<=40)(ha:EvM ta G σ d)(hb:EvM tb G σ (.tup es)):EvM (tOp (rInD false) ta tb) G σ (.bl (decide (d∈es))):=
 ziu (fun M H x y l rx ry Q k=>⟨M,d,es,rx,.inr ry,hall,k _ H (Same.refl _) (.bl _)⟩) ha hb
theorem ev_ninL {es:List D}(hall:∀e∈es,zgw e d=true/\e.dep<=40)(ha:EvM ta G σ d)(hb:EvM tb G σ (.lst es)):EvM (tOp (rInD true) ta tb) G σ (.bl (!decide (d∈es))):=
 ziu (fun M H x y l rx ry Q k=>⟨M,d,es,rx,.inl ry,hall,k _ H (Same.refl _) (.bl _)⟩) ha hb
end
theorem zfr {wi:TI}{g:TG}{tb:TS}{E:zka}{σ:St}{H:Hp}{M:List Addr}{ds:List D}(hw:zte wi (but H M) σ ds)(l:Live M H)
  (k:∀H1,Same H H1->∃Pv:Nat->St->Hp->Prop,Pv 0 σ H1/\(∀j σ' H',Pv j σ' H'->Same (but H1 M) (but H' M)/\Live M H')/\
   (∀(j:Nat) d x σ' H' H'',ds[j]?=some d->Pv j σ' H'->Same H' H''->Rep (but H'' M) x d->g x σ' H'' fun σ2 H2=>tb {E with nx:=Pv (j+1),ct:=Pv (j+1),bk:=E.nx} σ2 H2)/\∀σ' H',Pv ds.length σ' H'->E.nx σ' H'):
  tFor wi g tb E σ H:=hw M H (Same.refl _) l _ fun J H1 s1 hgo hstop=>by
 obtain ⟨Pv,p0,hV,hstep,hend⟩:=k H1 s1
 refine ⟨fun j m σ' H'=>m=ds.length-j/\j<=ds.length/\Pv j σ' H',⟨ds.length,by simp,Nat.zero_le _,p0⟩,?_⟩
 rintro j m σ' H' ⟨rfl,hj,p⟩
 obtain ⟨hs,hl⟩:=hV j σ' H' p
 by_cases hlt:j<ds.length
 ·have hd:ds[j]?=some ds[j]:=getElem?_eq_getElem hlt
  obtain ⟨go,gy⟩:=hgo j _ M H' hd hs hl
  refine .inr ⟨go,Pv (j+1),fun σ2 H2 p2=>⟨ds.length-(j+1),by omega,rfl,hlt,p2⟩,fun x H'' hy=>?_⟩
  obtain ⟨s3,rx⟩:=gy x H'' hy
  exact hstep j _ x σ' H' H'' hd p s3 rx
 ·have e:j=ds.length:=by omega
  subst e
  exact .inl ⟨hstop M H' hs,hend σ' H' p⟩
def zas (idx:List Nat)(k:Nat):St->St:=fun σ=>idx.map (fun j=>(σ[j]?).join)++List.replicate k none
def zoj (N N':List Str)(names:List (Str×NameKind)):List Nat->Nat->Bool
 |[],_=>true
 |j::r,i=>(match N'[i]?,N[j]? with|some x,some y=>decide (x=y)&&(names.lookup x==some .free)|_,_=>false)&&zoj N N' names r (i+1)
theorem zsp {N N':List Str}{names:List (Str×NameKind)}:∀{idx:List Nat} {i0:Nat},zoj N N' names idx i0=true->∀(i j:Nat),idx[i]?=some j->∃x,N'[i0+i]?=some x/\N[j]?=some x/\names.lookup x=some .free
 |[],_,_,i,j,h=>by simp at h
 |q::r,i0,hc,i,j,h=>by
  rw [zoj,Bool.and_eq_true] at hc
  cases i with
  |zero=>
   simp at h;subst h
   have h1:=hc.1
   cases e1:N'[i0]? with
   |none=>rw [e1] at h1;cases h1
   |some x=>
    cases e2:N[q]? with
    |none=>rw [e1,e2] at h1;cases h1
    |some y=>
     rw [e1,e2] at h1
     simp only [Bool.and_eq_true,decide_eq_true_eq,beq_iff_eq] at h1
     obtain ⟨rfl,h2⟩:=h1
     exact ⟨x,by simpa using e1,rfl,h2⟩
  |succ i=>
   obtain ⟨x,h1,h2,h3⟩:=zsp hc.2 i j (by simpa using h)
   exact ⟨x,by rw [<-h1];congr 1;omega,h2,h3⟩
theorem caps_ok {N N':List Str}{names:List (Str×NameKind)}{idx:List Nat}{k:Nat}(hl:N'.length=idx.length+k)(hc:zoj N N' names idx 0=true):∀σ:St,σ.length=N.length->
  (zas idx k σ).length=N'.length/\∀(i:Nat) (x:Str) (v:V),N'[i]?=some x->(zas idx k σ)[i]?=some (some v)->names.lookup x=some .free/\∃j:Nat,N[j]?=some x/\σ[j]?=some (some v):=by
 intro σ hσ
 refine ⟨by simp [zas,hl],fun i x v hx hv=>?_⟩
 unfold zas at hv
 by_cases hi:i<idx.length
 ·rw [getElem?_append_left (by simpa using hi),getElem?_map,getElem?_eq_getElem hi] at hv
  obtain ⟨y,h1,h2,h3⟩:=zsp hc i idx[i] (getElem?_eq_getElem hi)
  rw [Nat.zero_add,hx] at h1
  cases h1
  refine ⟨h3,idx[i],h2,?_⟩
  simp only [Option.map_some,Option.some.injEq] at hv
  cases e:σ[idx[i]]? with
  |none=>rw [e] at hv;cases hv
  |some w=>rw [e] at hv;simp at hv;rw [hv]
 ·rw [getElem?_append_right (by simpa using hi)] at hv
  obtain ⟨h1,h2⟩:=List.getElem?_eq_some_iff.mp hv
  simp at h2
def zlh (esc:Scope)(scope:Scope):Bool:=
 (scope.names.all fun y=>decide (y.2≠.cell))&&(scope.names.all fun y=> !(y.2==.local)||(scope.names.lookup y.1==some .local))&&(scope.names.all fun y=> !(y.2==.free)||(esc.names.lookup y.1==some .cell)||(esc.names.lookup y.1==some .free))
theorem zlq {esc scope:Scope}(h:zlh esc scope=true):(∀y∈scope.names,y.2≠.cell)/\(∀y∈scope.names,y.2=.local->scope.names.lookup y.1=some .local)/\
  ∀n,(n,NameKind.free)∈scope.names->esc.names.lookup n=some .cell\/esc.names.lookup n=some .free:=by
 rw [zlh,Bool.and_eq_true,Bool.and_eq_true,all_eq_true,all_eq_true,all_eq_true] at h
 obtain ⟨⟨h1,h2⟩,h3⟩:=h
 refine ⟨fun y hy=>of_decide_eq_true (h1 y hy),fun y hy e=>?_,fun n hn=>?_⟩
 ·have:=h2 y hy
  rw [e] at this
  simpa using this
 ·have:=h3 _ hn
  simpa using this
section
variable {X:Cx}{tg iter elt:Expr}{ifs:List Expr}{scope:Scope}{pos:Pos}{wi:TI}{g:TG}{tt:TT}{te:TE}
theorem zdn (N':List Str)(idx:List Nat)(k:Nat)(hi:PI X tg iter wi)(hg:∀cl C fp s H,PG (zbi X N' scope cl C fp s H) tg g)(hts:∀cl C fp s H,PTs (zbi X N' scope cl C fp s H) ifs tt)(hel:∀cl C fp s H,PE (zbi X N' scope cl C fp s H) elt te)
  (hc:X.calm=true:=by rfl) (hkind:scope.kind=.function:=by rfl) (hck:zlh X.env.scope scope=true:=by rfl) (hl:N'.length=idx.length+k:=by rfl) (hcp:zoj X.N N' scope.names idx 0=true:=by rfl)
  (hs:∀x,foldedSetIterable iter X.env x=pure x:=by intro _;rfl):PE X (.ListComp elt [⟨tg,iter,ifs,0⟩] scope pos) (zna wi (zas idx k) g tt te):=
 let h:=zlq hck
 pe_comp hc hkind h.1 h.2.1 h.2.2 (caps_ok hl hcp) hi hg hts hel hs
theorem zij {y:Str}{py spos:Pos}{i:Nat}(N':List Str)(idx:List Nat)(k:Nat)(hN:X.N.Nodup)(hiN:X.N[i]?=some y)(hy:Loc X.env.scope y)(hi:PI X tg iter wi)(hg:∀cl C fp s H,PG (zbi X N' scope cl C fp s H) tg g)(hts:∀cl C fp s H,PTs (zbi X N' scope cl C fp s H) ifs tt)(hel:∀cl C fp s H,PE (zbi X N' scope cl C fp s H) elt te)
  (hsw:swapsWith (.ListComp elt [⟨tg,iter,ifs,0⟩] scope pos) (some (.Name y py)) spos.line X.env=pure true:=by rfl)
  (hc:X.calm=true:=by rfl) (hkind:scope.kind=.function:=by rfl) (hck:zlh X.env.scope scope=true:=by rfl) (hl:N'.length=idx.length+k:=by rfl) (hcp:zoj X.N N' scope.names idx 0=true:=by rfl)
  (hs:∀x,foldedSetIterable iter X.env x=pure x:=by intro _;rfl) (hf:X.fn y=true\/X.env.scope.names.lookup y=some .local:=by first|exact .inl rfl|exact .inr rfl|assumption):
  PS X (.Assign [.Name y py] (.ListComp elt [⟨tg,iter,ifs,0⟩] scope pos) spos) (zqi (zna wi (zas idx k) g tt te) (zdz i)):=
 let h:=zlq hck
 ps_comp hsw hN hiN hy hc hkind h.1 h.2.1 h.2.2 (caps_ok hl hcp) hi hg hts hel hs hf
end
end FL
namespace FL
open PySem L2
def D.tyn:D->String
 |.non=>"NoneType"|.bl _=>"bool"|.int _=>"int"|.str _=>"str"|.tup _=>"tuple"|.lst _=>"list"
theorem rep_ty {K:PySem.W.Frag}{H:Hp}{M:List Addr}{x:V}{d:D}(r:Rep (but H M) x d):zwm K H x (.type d.tyn):=by
 cases r with
 |non=>exact .non
 |bl b=>exact .bl b
 |int b=>exact .int b
 |str b=>exact .str b
 |tup h _=>exact .tup (zac h).2
 |lst h _=>exact .lst (zac h).2
def rIs (K:PySem.W.Frag):List V->Hp->VK->Prop:=fun xs H Q=>∃x n t b,xs=[x,.ty n]/\zwm K H x t/\PySem.W.kitOne K t (.type n)=some b/\Q (.bl b) H
theorem zut {X:Cx}:zmy X (.builtin "isinstance") (rIs X.K):=by
 intro pins s σ H xs us Q I r h
 obtain ⟨x,n,t,b,rfl,ty,e,q⟩:=h
 obtain ⟨u,w,rfl,ru,rw'⟩:=vals2 r
 cases rw'
 exact isinst_ok I ru ty e fun tk=>⟨.bl b,H,I.tok _,rfl,q⟩
theorem kit_indep (K:PySem.W.Frag)(a b:String):PySem.W.kitOne K (.type a) (.type b)=PySem.W.kitOne [] (.type a) (.type b):=rfl
section
variable {G:Hp}{σ:St}{ta:TE}{d:D}{K:PySem.W.Frag}
theorem zgd {n:String}{b:Bool}(h:EvM ta G σ d)(hk:PySem.W.kitOne [] (.type d.tyn) (.type n)=some b):EvM (tCB (rIs K) (zbp ta (zbp (tC (.ty n)) zev))) G σ (.bl b):=
 fun M H s l Q k=>h M H s l _ fun x H1 s1 rx=>⟨x,n,_,b,rfl,rep_ty rx,by rw [kit_indep];exact hk,k _ H1 s1 (.bl b)⟩
def isI:D->Bool
 |.int _=>true|.bl _=>true|_=>false
def isB:D->Bool
 |.bl _=>true|_=>false
def isS:D->Bool
 |.str _=>true|_=>false
def isT:D->Bool
 |.tup _=>true|_=>false
def isL:D->Bool
 |.lst _=>true|_=>false
theorem zil (h:EvM ta G σ d):EvM (tCB (rIs K) (zbp ta (zbp (tC (.ty "int")) zev))) G σ (.bl (isI d)):=by
 cases d with
 |bl _=>exact zgd h rfl
 |int _=>exact zgd h rfl
 |_=>exact zgd h rfl
theorem ev_isBool (h:EvM ta G σ d):EvM (tCB (rIs K) (zbp ta (zbp (tC (.ty "bool")) zev))) G σ (.bl (isB d)):=by
 cases d<;>exact zgd h rfl
theorem zeq (h:EvM ta G σ d):EvM (tCB (rIs K) (zbp ta (zbp (tC (.ty "str")) zev))) G σ (.bl (isS d)):=by
 cases d<;>exact zgd h rfl
theorem zdi (h:EvM ta G σ d):EvM (tCB (rIs K) (zbp ta (zbp (tC (.ty "tuple")) zev))) G σ (.bl (isT d)):=by
 cases d<;>exact zgd h rfl
theorem zmj (h:EvM ta G σ d):EvM (tCB (rIs K) (zbp ta (zbp (tC (.ty "list")) zev))) G σ (.bl (isL d)):=by
 cases d<;>exact zgd h rfl
end
end FL
namespace FL
open PySem L2
structure Has (P:Program)(w:World)(K:PySem.W.Frag)(mg:Str->Option Value)(base:Heap)(n:Nat)(x:Str)(ps:List Str)(sp:Sp):Prop where
 ex:∃f fd,FnOk P w K mg base CX0 n f fd ps sp/\Binds K fd ps []/\PySem.W.keepIn K (.ref f)=true/\mg x=some (.ref f)
theorem zca {X:Cx}{n:Nat}{x:Str}{ps:List Str}{sp:Sp}{e:Expr}{es:List Expr}{t:TA}{p pos:Pos}{m:Nat}(h:Has X.prog X.w X.K X.mg X.base n x ps sp)(hr:Room m X.A)(ha:PA X (e::es) t)(hle:n<=m:=by decide)
  (hg:Gl X x:=by rfl) (hdb:(x==("__debug__":Str))=false:=by decide) (he:starEach (e::es) X.env=(false,eval e X.env)::starEach es X.env:=by rfl) (hpl:(backTo pos (starEach es X.env)).any (·.1)=false:=by rfl):
  PE X (.Call (.Name x p) (e::es) [] pos) (zks sp [] E0 t):=by
 obtain ⟨f,fd,F,b,k,hm⟩:=h.ex
 exact pe_call (F.mono hle) hr hg hm k b .nil pass0 ha hdb he hpl
structure Bl (mg:Str->Option Value):Prop where
 len:mg "len"=none
 isinstance:mg "isinstance"=none
 range:mg "range"=none
 int:mg "int"=none
 str:mg "str"=none
 bool:mg "bool"=none
 list:mg "list"=none
 tuple:mg "tuple"=none
 dict:mg "dict"=none
 zip:mg "zip"=none
 enumerate:mg "enumerate"=none
 all:mg "all"=none
 reversed:mg "reversed"=none
section
variable {X:Cx}{e:Expr}{es:List Expr}{t:TA}{te:TE}{tg iter:Expr}{p pos:Pos}
theorem pi_or {wi wj:TI}(h:PI X tg iter wi)(h':PI X tg iter wj):PI X tg iter (fun σ H R=>wi σ H R\/wj σ H R):=by
 intro pins s σ H R I q
 rcases q with q|q
 ·exact h pins s σ H R I q
 ·exact h' pins s σ H R I q
theorem zcg (h:PE X iter te):PI X tg iter (fun σ H R=>zum X.K te σ H R\/iTup X.K te σ H R):=pi_or (pi_list h) (pi_tup h)
theorem zdb (B:Bl X.mg)(h:PE X e te)(hg:Gl X "len":=by rfl)(he:starEach [e] X.env=(false,eval e X.env)::starEach [] X.env:=by rfl):PE X (.Call (.Name "len" p) [e] [] pos) (tCB (fun xs H Q=>∃p ys,xs=[.ref p]/\(SqL X.K H p ys\/SqT X.K H p ys)/\Q (.int ys.length) H) (zbp te zev)):=
 zln zss hg B.len PySem.boot_len (zab h zah he) (he:=he)
theorem zeb {n:String}{x:Str}{p':Pos}(B:Bl X.mg)(h:PE X e te)(hx:X.mg x=none)(hb:bootBuiltins x=some (.type n))(hg:Gl X "isinstance":=by rfl)(hg':Gl X x:=by rfl)(hn:x≠"__name__":=by decide)(hd:(x==("__debug__":Str))=false:=by decide)
  (he:starEach [e,.Name x p'] X.env=(false,eval e X.env)::starEach [.Name x p'] X.env:=by rfl) (he':starEach [.Name x p'] X.env=(false,eval (.Name x p') X.env)::starEach [] X.env:=by rfl):
  PE X (.Call (.Name "isinstance" p) [e,.Name x p'] [] pos) (tCB (rIs X.K) (zbp te (zbp (tC (.ty n)) zev))):=
 zln zut hg B.isinstance PyProof.Rows.boot_isinstance (zab h (zab (pe_bltn (v:=.ty n) hg' hx hb rfl hn hd) zah he') he) (he:=he) (hpl:=by rw [he'];rfl)
theorem zhx (B:Bl X.mg)(h:PE X e te)(hg:Gl X "tuple":=by rfl)(he:starEach [e] X.env=(false,eval e X.env)::starEach [] X.env:=by rfl):PE X (.Call (.Name "tuple" p) [e] [] pos)
  (tCB (fun xs H Q=>∃p ys,xs=[.ref p]/\((SqL X.K H p ys/\∀l,H l=none->Q (.ref l) (upd H l (.tup ys)))\/(SqT X.K H p ys/\Q (.ref p) H))) (zbp te zev)):=
 zhz zpz hg B.tuple PyProof.Rows.boot_tuple (zab h zah he) (he:=he)
theorem zvq (B:Bl X.mg)(h:PE X e te)(hg:Gl X "list":=by rfl)(he:starEach [e] X.env=(false,eval e X.env)::starEach [] X.env:=by rfl):PE X (.Call (.Name "list" p) [e] [] pos)
  (tCB (fun xs H Q=>∃p ys,xs=[.ref p]/\(SqL X.K H p ys\/SqT X.K H p ys)/\∀l,H l=none->Q (.ref l) (upd H l (.lst ys))) (zbp te zev)):=
 zhz zsr hg B.list PyProof.Rows.boot_list (zab h zah he) (he:=he)
theorem zpb (B:Bl X.mg)(h:PE X e te)(hc:X.calm=true:=by rfl)(hg:Gl X "dict":=by rfl)(he:starEach [e] X.env=(false,eval e X.env)::starEach [] X.env:=by rfl):PE X (.Call (.Name "dict" p) [e] [] pos)
  (tCB (fun xs H Q=>∃a vs kvs,xs=[.ref a]/\SqL X.K H a vs/\zym X.K H vs kvs/\∀p,H p=none->Q (.ref p) (upd H p (.dK (zbk [] kvs)))) (zbp te zev)):=
 zhz (zst hc) hg B.dict PyProof.Rows.boot_dict (zab h zah he) (he:=he)
theorem zay {a b:Expr}{ta tb:TE}(ha:PE X a ta)(hb:PE X b tb)(hs:zva b:=by intro _ _;rfl):PE X (.Subscript a b pos) (tOp (rIx X.K) ta tb):=pe_ix ix_seq ha hb hs
theorem zgl (hu:X.A.units+50<cLine):OpR X (compareOp .Eq) (fun x y H Q=>rEqD x y H Q\/rEq x y H Q):=(op_eqD hu).or op_eq
theorem zff (hu:X.A.units+50<cLine):OpR X (compareOp .NotEq) (fun x y H Q=>rNeD x y H Q\/rNe x y H Q):=(op_neD hu).or op_ne
theorem zdf {o:Expr}{to:TE}{apos cpos spos:Pos}(ho:PE X o to)(h:PE X e te)(he:starEach [e] X.env=(false,eval e X.env)::starEach [] X.env:=by rfl)(hbase:attributeBase o "append" X.env (eval o X.env)=eval o X.env:=by rfl)
  (hfew:((backTo cpos (starEach [e] X.env)).all (fun x=> !x.1)&&(backToKw cpos (keywordEach [] X.env)).all (fun x=>x.1.isSome)&&decide ([e].length+([]:List Keyword).length+(if ([]:List Keyword).isEmpty then 0 else 1)<30))=true:=by rfl)
  (hline:(apos.endLine==cpos.line)=true:=by rfl) (hplain:(backTo cpos (starEach [] X.env)).any (·.1)=false:=by rfl) (hs:swapsWith (.Call (.Attribute o "append" apos) [e] [] cpos) none spos.line X.env=pure false:=by rfl):
  PS X (.Expr (.Call (.Attribute o "append" apos) [e] [] cpos) spos) (zop (tBM X.K "list" zix to (zbp te zev))):=
 ziy (pe_bm PySem.F.plainAttrs_list PySem.F.slot_list_append PySem.F.type_list_append zrz ho (zab h zah he) hbase hfew hline he hplain) hs
end
section
variable {X:Cx}{N':List Str}{scope:Scope}{cl:List (Str×Addr)}{C:Addr}{fp:List Addr}{s:Shared}{H:Hp}{e a b:Expr}{te ta tb:TE}{p pos:Pos}
theorem zhy (ha:PE (zbi X N' scope cl C fp s H) a ta)(hb:PE (zbi X N' scope cl C fp s H) b tb)(hs:zva b:=by intro _ _;rfl):PE (zbi X N' scope cl C fp s H) (.Subscript a b pos) (tOp (rIx X.K) ta tb):=zay ha hb hs
theorem ztu {es:List Expr}{k:Nat}{t:TGs}{n:Nat}(hc:X.calm=true)(h:PGs (zbi X N' scope cl C fp s H) es t)(hn:(assignEach es (zbi X N' scope cl C fp s H).env).length=n:=by rfl)(hst:(assignEach es (zbi X N' scope cl C fp s H).env).findIdx? (·.1)=none:=by rfl):
  PG (zbi X N' scope cl C fp s H) (.Tuple es k pos) (gTup X.K n t):=znt (X:=zbi X N' scope cl C fp s H) hc h hn hst
end
section
variable {G:Hp}{σ:St}{ta tb te:TE}{d:D}{ds:List D}{K:PySem.W.Frag}
theorem zgi {i:Int}(h:atI ds i=some d)(ha:EvM ta G σ (.lst ds))(hb:EvM tb G σ (.int i)):EvM (tOp (rIx K) ta tb) G σ d:=
 fun M H s l Q k=>ha M H s l _ fun x H1 s1 rx=>hb M H1 (s.trans (s1.but M)) (l.same s1) _ fun y H2 s2 ry=>by
  obtain ⟨a,vs,rfl,h1,h2⟩:=(rx.mono (s2.but M)).of_lst
  obtain ⟨v,h3,h4⟩:=atI_rep h2 h
  exact .inl ⟨a,vs,i,v,rfl,ry.of_int,SqL.of (zac h1).2,h3,k v H2 (s1.trans s2) h4⟩
theorem zbw {i:Int}(h:atI ds i=some d)(ha:EvM ta G σ (.tup ds))(hb:EvM tb G σ (.int i)):EvM (tOp (rIx K) ta tb) G σ d:=
 fun M H s l Q k=>ha M H s l _ fun x H1 s1 rx=>hb M H1 (s.trans (s1.but M)) (l.same s1) _ fun y H2 s2 ry=>by
  obtain ⟨a,vs,rfl,h1,h2⟩:=(rx.mono (s2.but M)).of_tup
  obtain ⟨v,h3,h4⟩:=atI_rep h2 h
  exact .inr (.inl ⟨a,vs,i,v,rfl,ry.of_int,SqT.of (zac h1).2,h3,k v H2 (s1.trans s2) h4⟩)
theorem zoh {d1 d2:D}(hc:zgw d1 d2=true)(hd:d1.dep<=40)(ha:EvM ta G σ d1)(hb:EvM tb G σ d2):EvM (tOp (fun x y H Q=>rEqD x y H Q\/rEq x y H Q) ta tb) G σ (.bl (decide (d1=d2))):=
 ziu (fun M H x y l rx ry Q k=>.inl ⟨d1,d2,⟨M,rx,ry,hc,hd⟩,k _ H (Same.refl _) (.bl _)⟩) ha hb
theorem zjs {d1 d2:D}(hc:zgw d1 d2=true)(hd:d1.dep<=40)(ha:EvM ta G σ d1)(hb:EvM tb G σ d2):EvM (tOp (fun x y H Q=>rNeD x y H Q\/rNe x y H Q) ta tb) G σ (.bl (!decide (d1=d2))):=
 ziu (fun M H x y l rx ry Q k=>.inl ⟨d1,d2,⟨M,rx,ry,hc,hd⟩,k _ H (Same.refl _) (.bl _)⟩) ha hb
theorem zie {i j:Int}(ha:EvM ta G σ (.int i))(hb:EvM tb G σ (.int j)):EvM (tOp (fun x y H Q=>rEqD x y H Q\/rEq x y H Q) ta tb) G σ (.bl (decide (i=j))):=
 (zoh rfl (Nat.zero_le _) ha hb).eq (by simp)
theorem zog {i j:Int}(ha:EvM ta G σ (.int i))(hb:EvM tb G σ (.int j)):EvM (tOp (fun x y H Q=>rNeD x y H Q\/rNe x y H Q) ta tb) G σ (.bl (!decide (i=j))):=
 (zjs rfl (Nat.zero_le _) ha hb).eq (by simp)
theorem zbn (h:EvM te G σ (.lst ds)):zte (fun σ H R=>zum K te σ H R\/iTup K te σ H R) G σ ds:=fun M H s l R k=>.inl (walk_list h M H s l R k)
theorem zfc (h:EvM te G σ (.tup ds)):zte (fun σ H R=>zum K te σ H R\/iTup K te σ H R) G σ ds:=fun M H s l R k=>.inr (walk_tup h M H s l R k)
theorem st_append {M:List Addr}{H:Hp}{E:zka}{i:Nat}{a:Addr}{vs:List V}(l:Live M H)(e:σ[i]?=some (some (.ref a)))(ha:H a=some (.lst vs))(hz:vs.length<sizeLine)(h:EvM te (but H M) σ d)
  (k:∀v H',Same H H'->Rep (but H' M) v d->E.nx σ (upd H' a (.lst (vs++[v])))):zop (tBM K "list" zix (zdk i) (zbp te zev)) E σ H:=
 ⟨.ref a,e,(show tyV K "list" (.ref a) H from .inl ⟨rfl,vs,SqL.of ha⟩),h.at l fun v H' s r=>⟨a,vs,v,rfl,rfl,s _ _ ha,hz,k v H' s r⟩⟩
end
theorem ze9 {α:Type}{l:List α}{i:Int}(h0:0<=i){x:α}(h:l[i.toNat]?=some x):atI l i=some x:=by
 have:i=((i.toNat:Nat):Int):=by omega
 rw [this]
 exact zqd h
end FL
namespace FL
open PySem L2
abbrev Dn:=List (Option D)
structure EnvR (G:Hp)(σ:St)(δ:Dn):Prop where
 len:σ.length=δ.length
 get:∀(i:Nat) (d:D),δ[i]?=some (some d)->∃v,σ[i]?=some (some v)/\Rep G v d
theorem EnvR.mono {G G':Hp}{σ:St}{δ:Dn}(h:EnvR G σ δ)(e:Same G G'):EnvR G' σ δ:=⟨h.len,fun i d q=>let ⟨v,a,b⟩:=h.get i d q;⟨v,a,b.mono e⟩⟩
theorem EnvR.same {M:List Addr}{H H':Hp}{σ:St}{δ:Dn}(h:EnvR (but H M) σ δ)(e:Same H H'):EnvR (but H' M) σ δ:=h.mono (e.but M)
theorem EnvR.set {G:Hp}{σ:St}{δ:Dn}{v:V}{d:D}(h:EnvR G σ δ)(i:Nat)(r:Rep G v d):EnvR G (σ.set i (some v)) (δ.set i (some d)):=by
 refine ⟨by simp [h.len],fun j e q=>?_⟩
 have hl:=h.len
 by_cases hj:i=j
 ·subst hj
  by_cases hi:i<δ.length
  ·rw [getElem?_set_self hi] at q
   cases q
   exact ⟨v,getElem?_set_self (by omega),r⟩
  ·rw [getElem?_eq_none (by simpa using Nat.le_of_not_lt hi)] at q;cases q
 ·rw [getElem?_set_ne hj] at q⊢
  exact h.get j e q
theorem EnvR.off {G:Hp}{σ:St}{δ:Dn}(h:EnvR G σ δ)(i:Nat)(o:Option V):EnvR G (σ.set i o) (δ.set i none):=by
 refine ⟨by simp [h.len],fun j e q=>?_⟩
 by_cases hj:i=j
 ·subst hj
  by_cases hi:i<δ.length
  ·rw [getElem?_set_self hi] at q;cases q
  ·rw [getElem?_eq_none (by simpa using Nat.le_of_not_lt hi)] at q;cases q
 ·rw [getElem?_set_ne hj] at q⊢
  exact h.get j e q
theorem EnvR.weak {G:Hp}{σ:St}{δ δ':Dn}(h:EnvR G σ δ)(hl:δ'.length=δ.length)(w:∀(i:Nat) (d:D),δ'[i]?=some (some d)->δ[i]?=some (some d)):EnvR G σ δ':=
 ⟨h.len.trans hl.symm,fun i d q=>h.get i d (w i d q)⟩
section
variable {G:Hp}{σ:St}{δ:Dn}{d:D}{b:Bool}{M:List Addr}{H:Hp}{ta:TE}{tt:TT}{E:zka}
theorem zaw {i:Nat}(h:EnvR G σ δ)(e:δ[i]?=some (some d)):EvM (zdk i) G σ d:=let ⟨v,a,r⟩:=h.get i d e;zch a r
theorem zx9 {i:Nat}(l:Live M H)(hE:EnvR (but H M) σ δ)(h:EvM ta (but H M) σ d)(k:∀σ' H',Same H H'->Live M H'->EnvR (but H' M) σ' (δ.set i (some d))->E.nx σ' H'):zqi ta (zdz i) E σ H:=
 h.at l fun v H' s r=>k _ H' s (l.same s) ((hE.same s).set i r)
theorem zes (l:Live M H)(h:EvM ta (but H M) σ d)(k:∀v H',Same H H'->Rep (but H' M) v d->E.rt v H'):tRet ta E σ H:=h.at l k
theorem zk9 {ts us:TS}(l:Live M H)(hE:EnvR (but H M) σ δ)(h:EvT tt (but H M) σ b)(k1:b=true->∀H',Same H H'->Live M H'->EnvR (but H' M) σ δ->ts E σ H')(k2:b=false->∀H',Same H H'->Live M H'->EnvR (but H' M) σ δ->us E σ H'):tIfS tt ts us E σ H:=
 st_if l h (fun e H' s=>k1 e H' s (l.same s) (hE.same s)) (fun e H' s=>k2 e H' s (l.same s) (hE.same s))
end
theorem EnvR.drop {G:Hp}{σ:St}{δ:Dn}(h:EnvR G σ δ)(i:Nat):EnvR G σ (δ.set i none):=
 h.weak (by simp) fun j d q=>by
  by_cases hj:i=j
  ·subst hj
   by_cases hi:i<δ.length
   ·rw [getElem?_set_self hi] at q;cases q
   ·rw [getElem?_eq_none (by simpa using Nat.le_of_not_lt hi)] at q;cases q
  ·rw [getElem?_set_ne hj] at q;exact q
theorem nx {E:zka}{σ:St}{H:Hp}(h:E.nx σ H):tNext E σ H:=h
theorem s_ifK {δ:Dn}{b:Bool}{M:List Addr}{H:Hp}{tt:TT}{E:zka}{σ:St}{ts us:TS}(P:St->Hp->Prop)(l:Live M H)(hE:EnvR (but H M) σ δ)(h:EvT tt (but H M) σ b)
  (k1:(∀σ H,P σ H->E.nx σ H)->b=true->∀H',Same H H'->Live M H'->EnvR (but H' M) σ δ->ts E σ H') (k2:(∀σ H,P σ H->E.nx σ H)->b=false->∀H',Same H H'->Live M H'->EnvR (but H' M) σ δ->us E σ H') (hk:∀σ H,P σ H->E.nx σ H):tIfS tt ts us E σ H:=
 zk9 l hE h (k1 hk) (k2 hk)
theorem zbs {G:Hp}{vs:List V}{ds:List D}(h:Reps G vs ds)(N:List Str):EnvR G (L2.start N vs) (ds.map some++List.replicate (N.length-ds.length) none):=by
 refine ⟨by simp [L2.start,h.length],fun i d q=>?_⟩
 have hl:=h.length
 unfold L2.start
 by_cases hi:i<ds.length
 ·rw [getElem?_append_left (by simpa using hi),getElem?_map] at q
  cases e:ds[i]? with
  |none=>rw [e] at q;cases q
  |some d'=>
   rw [e] at q
   cases q
   obtain ⟨v,h1,h2⟩:=h.get e
   exact ⟨v,by rw [getElem?_append_left (by simpa using (by omega:i<vs.length)),getElem?_map,h1];rfl,h2⟩
 ·rw [getElem?_append_right (by simpa using Nat.le_of_not_lt hi)] at q
  obtain ⟨h1,h2⟩:=List.getElem?_eq_some_iff.mp q
  simp at h2
theorem zoa {A:Around}{k:Nat}(hr:Room k A):A.units+50<cLine:=by have:=hr.units;omega
theorem zfe {a b:D}(ha:a.sc=true)(hb:b.sc=true):zgw a b=true/\a.dep<=40:=by
 cases a with
 |int i=>cases b<;>first|exact ⟨rfl,Nat.zero_le _⟩|exact absurd hb (by simp [D.sc])
 |str i=>cases b<;>first|exact ⟨rfl,Nat.zero_le _⟩|exact absurd hb (by simp [D.sc])
 |_=>exact absurd ha (by simp [D.sc])
def spLaw (K:PySem.W.Frag):Sp:=fun vs H Q _=>∃(a:Addr) (ns:List Int),vs=[.ref a]/\SqL K H a (ns.map V.int)/\ns.length<=63/\∀H',Q (.bl true) H'
theorem cut500 {ns:List Int}(h:ns.length<=63):cutV (ns.map V.int) none (some 500)=ns.map V.int:=by
 have:=cut_to (xs:=ns.map V.int) 500
 rw [take_of_length_le (by simp;omega)] at this
 exact this
theorem env_law {H:Hp}{p:Addr}{ns:List Int}(N:List Str)(a:Addr)(n:Nat)(hN:N.length=n+1):EnvR (but (upd H p (.lst (ns.map V.int))) []) ((L2.start N [.ref a]).set 0 (some (.ref p))) (some (.lst (ns.map D.int))::List.replicate n none):=by
 have h0:EnvR (but (upd H p (.lst (ns.map V.int))) []) (L2.start N [.ref a]) (none::List.replicate n none):=by
  refine ⟨by simp [L2.start,hN],fun i d q=>?_⟩
  obtain ⟨h1,h2⟩:=List.getElem?_eq_some_iff.mp q
  have:(none::List.replicate n none:Dn)=List.replicate (n+1) none:=rfl
  rw [List.getElem_of_eq this] at h2
  simp at h2
 have r:Rep (but (upd H p (.lst (ns.map V.int))) []) (.ref p) (.lst (ns.map D.int)):=.lst (by rw [but_nil];exact zae) (Reps.ints ns)
 exact h0.set 0 r
def zus (l:List D)(k:Int):D:=if k<l.length then l.getD k.toNat .non else .int 0
theorem cell_int (ns:List Int)(k:Nat):zus (ns.map D.int) k=.int (ns.getD k 0):=by
 unfold zus
 by_cases h:k<ns.length
 ·rw [if_pos (by simpa using h)]
  simp [List.getD,h]
 ·rw [if_neg (by simpa using h)]
  have:ns.getD k 0=0:=by simp [List.getD,getElem?_eq_none (Nat.le_of_not_lt h)]
  rw [this]
end FL
namespace PySem
structure Inn (prog:Program)(w:World)(i l:Addr)(St:Nat->Heap->Prop)(item:Nat->Option Value):Prop where
 here:∀k h,St k h->∃o vs,h.get? i=some o/\o.data=.fields vs
 keep:∀k h h',St k h->(∀o,h.get? i=some o->h'.get? i=some o)->(∀o,h.get? l=some o->h'.get? l=some o)->St k h'
 one:∀(A:Around) (E:Value->Shared->Prop) (k:Nat) (s:Shared) (x:Value) (Q:Value->Shared->Prop),St k s.heap->item k=some x->(∀h',St (k+1) h'->Heap.SameBut i s.heap h'->Q x {s with heap:=h'})->wpAny (model prog w) A (Builtin.SmallTypes.nextOf (.ref i)) Q E s
 over:∀(A:Around) (E:Value->Shared->Prop) (k:Nat) (s:Shared) (Q:Value->Shared->Prop),A.handled=none->St k s.heap->item k=none->(∀h' e,Heap.ExtBut i s.heap h'->(∃o,h'.get? e=some o/\o.cls=.type "StopIteration")->E (.ref e) {s with heap:=h'})->wpAny (model prog w) A (Builtin.SmallTypes.nextOf (.ref i)) Q E s
section
variable {prog:Program}{w:World}{A:Around}{E:Value->Shared->Prop}{s:Shared}
theorem znh {it l:Addr}{i:Nat}{items:Array Value}{x:Value}{Q:Value->Shared->Prop}(hit:s.heap.IsTupleIter it l i)(hl:s.heap.IsTuple l items)(hx:items[i]?=some x)
  (hQ:∀h',h'.IsTupleIter it l (i+1)->Heap.SameBut it s.heap h'->Q x {s with heap:=h'}):wpAny (model prog w) A (Builtin.SmallTypes.nextOf (.ref it)) Q E s:=by
 obtain ⟨o,ho,hc,hd⟩:=id hit
 obtain ⟨ot,hot,_,nt,hdt⟩:=hl
 unfold Builtin.SmallTypes.nextOf
 refine wpAny_bind (wpAny_callSpecial?_slot (name:=Str.ofString "__next__") hit.typeIs F.slot_tuple_iterator_next (wpAny_call_entry F.slot_tuple_iterator_next hit.typeIs F.entry_tuple_iterator_next ?_ (F.args_tuple_iterator_next_1 _)))
 show wpAny _ _ (field (.ref it) 0>>=_) _ _ s
 refine wpAny_bind (wpAny_field ho hd (x:=.ref l) rfl ?_)
 show wpAny _ _ (if (Value.ref l==Value.none)=true then _ else _) _ _ s
 rw [if_neg (show¬((Value.ref l==Value.none)=true) from Bool.false_ne_true)]
 show wpAny _ _ (field (.ref it) 1>>=_) _ _ s
 refine wpAny_bind (wpAny_field ho hd (x:=.int i 0) rfl ?_)
 show wpAny _ _ (seqItems? (.ref l)>>=_) _ _ s
 refine wpAny_bind (wpAny_seqItems hot hdt ?_)
 simp only [Int.toNat_natCast,hx]
 refine wpAny_bind (wpAny_setField ho hd (by simp) (wpAny_pure ⟨x,rfl,wpAny_pure (hQ _ ⟨_,Heap.get?_update_self _ ho (Obj.isFreed_of_fields (Obj.data_mapFields hd _)),(Obj.cls_mapFields ..).trans hc,?_⟩ (Heap.SameBut.update ..))⟩))
 rw [Obj.data_mapFields hd]
 simp [rawInt]
theorem zly {it l:Addr}{i:Nat}{items:Array Value}{Q:Value->Shared->Prop}(hh:A.handled=none)(hit:s.heap.IsTupleIter it l i)(hl:s.heap.IsTuple l items)(hx:items[i]?=none)
  (hE:∀h' e,Heap.ExtBut it s.heap h'->(∃o,h'.get? e=some o/\o.cls=.type "StopIteration")->E (.ref e) {s with heap:=h'}):wpAny (model prog w) A (Builtin.SmallTypes.nextOf (.ref it)) Q E s:=by
 obtain ⟨o,ho,hc,hd⟩:=id hit
 obtain ⟨ot,hot,_,nt,hdt⟩:=hl
 unfold Builtin.SmallTypes.nextOf
 refine wpAny_bind (wpAny_callSpecial?_slot (name:=Str.ofString "__next__") hit.typeIs F.slot_tuple_iterator_next (wpAny_call_entry F.slot_tuple_iterator_next hit.typeIs F.entry_tuple_iterator_next ?_ (F.args_tuple_iterator_next_1 _)))
 show wpAny _ _ (field (.ref it) 0>>=_) _ _ s
 refine wpAny_bind (wpAny_field ho hd (x:=.ref l) rfl ?_)
 show wpAny _ _ (if (Value.ref l==Value.none)=true then _ else _) _ _ s
 rw [if_neg (show¬((Value.ref l==Value.none)=true) from Bool.false_ne_true)]
 show wpAny _ _ (field (.ref it) 1>>=_) _ _ s
 refine wpAny_bind (wpAny_field ho hd (x:=.int i 0) rfl ?_)
 show wpAny _ _ (seqItems? (.ref l)>>=_) _ _ s
 refine wpAny_bind (wpAny_seqItems hot hdt ?_)
 simp only [Int.toNat_natCast,hx]
 refine wpAny_bind (wpAny_rule (wpAny_bind (wpAny_setField ho hd (by simp) ?_)))
 show wpAny _ _ (newExc (.type "StopIteration") []>>=_) _ _ _
 refine wpAny_bind ?_
 simp only [newExc,newTuple]
 refine wpAny_bind (wpAny_newObj_type ?_ (by size_fits))
 refine wpAny_bind (m:=firstArgMember _ _) (wpAny_of_eq (a:=Value.none) (by first|rfl|(simp only [firstArgMember];rfl)) ?_)
 refine wpAny_newObj_type ?_ (by size_fits)
 simp only [raiseNew]
 refine wpAny_bind (wpAny_handled ?_)
 first|rw [show A.in1.handled=none from hh]|rw [hh]
 exact wpAny_bind (wpAny_pure (wpAny_throw (hE _ _ (((Heap.SameBut.update ..).extBut.push _).push _) ⟨_,Heap.get?_push_size _ rfl,rfl⟩)))
theorem zul {i l:Addr}{xs:Array Value}:Inn prog w i l (fun k h=>h.IsTupleIter i l k/\h.IsTuple l xs/\l≠i) (fun k=>xs[k]?) where
 here:=fun k h ⟨⟨o,e,_,d⟩,_⟩=>⟨o,_,e,d⟩
 keep:=fun k h h' ⟨⟨o,e,r⟩,⟨o2,e2,r2⟩,n⟩ k1 k2=>⟨⟨o,k1 _ e,r⟩,⟨o2,k2 _ e2,r2⟩,n⟩
 one:=fun A E k s x Q ⟨h1,h2,n⟩ hx hq=>znh h1 h2 hx fun h' a b=>hq h' ⟨a,h2.extBut b.extBut n,n⟩ b
 over:=fun A E k s Q hh ⟨h1,h2,n⟩ hx hq=>zly hh h1 h2 hx fun h' e a b=>hq h' e a b
variable {z TI TO i1 i2 l1 l2:Addr}{S1 S2:Nat->Heap->Prop}{it1 it2:Nat->Option Value}
structure zta (prog:Program)(w:World)(S1 S2:Nat->Heap->Prop)(z TI TO i1 i2 l1 l2:Addr)(f0:Value)(k:Nat)(h:Heap):Prop where
 zip:IsZip h z TI TO f0
 ins:IsPair h TI (.ref i1) (.ref i2)
 out:∃a b,IsPair h TO a b
 one:S1 k h
 two:S2 k h
theorem zipN_item {k:Nat}{x y:Value}{Q:Value->Shared->Prop}(I1:Inn prog w i1 l1 S1 it1)(I2:Inn prog w i2 l2 S2 it2)(D:ZipApart z TI TO i1 i2 l1 l2)(Z:zta prog w S1 S2 z TI TO i1 i2 l1 l2 .none k s.heap)(hx:it1 k=some x)(hy:it2 k=some y)
  (hQ:∀h',zta prog w S1 S2 z TI TO i1 i2 l1 l2 (rawInt s.heap.objs.size) (k+1) h'->IsPair h' s.heap.objs.size x y->(∀c o,c≠z->c≠TO->c≠i1->c≠i2->s.heap.get? c=some o->h'.get? c=some o)->Q (.ref s.heap.objs.size) {s with heap:=h'}):
  wpAny (model prog w) A (Builtin.«zip.__next__» ⟨[.ref z],[]⟩) (fun fin s'=>∃v,fin=.done (.ret v)/\Q v s') E s:=by
 obtain ⟨hz,hTI,⟨a,b,hTO⟩,h1,h2⟩:=Z
 show wpAny _ _ (field (.ref z) 2>>=_) _ _ _
 refine wpAny_bind (wpAny_field hz rfl (x:=.bool false) rfl ?_)
 show wpAny _ _ (field (.ref z) 3>>=_) _ _ _
 refine wpAny_bind (wpAny_field hz rfl (x:=.ref TI) rfl (wpAny_bind (wpAny_seqItems hTI rfl ?_)))
 show wpAny _ _ (Builtin.SmallTypes.ownedTupleIsFree (.ref z)>>=_) _ _ _
 unfold Builtin.SmallTypes.ownedTupleIsFree
 refine wpAny_bind (wpAny_bind (wpAny_field hz rfl (x:=.none) rfl (wpAny_pure ?_)))
 simp only [if_true]
 refine wpAny_bind (wpAny_rule (wpAny_bind (wpAny_field hz rfl (x:=.ref TO) rfl (wpAny_bind (wpAny_setField_rec hz (by simp) fun ha hza sa=>?_)))))
 replace hza:IsZip ha z TI TO .ellipsis:=hza
 refine wpAny_bind ?_
 simp only [zipIdx_cons,List.zipIdx_nil,List.forIn_cons,List.forIn_nil]
 refine wpAny_bind (wpAny_bind (wpAny_onRaise ?_))
 show wpAny _ _ (Builtin.SmallTypes.nextOf (.ref i1)>>=_) _ _ _
 have h1a:S1 k ha:=I1.keep _ _ _ h1 (fun o e=>sa.extBut _ _ D.i1z e) (fun o e=>sa.extBut _ _ D.l1z e)
 refine wpAny_bind (I1.one _ _ k {s with heap:=ha} x _ h1a hx fun hb h1b sb=>wpAny_pure ?_)
 have hTOb:IsPair hb TO a b:=sb.extBut _ _ D.TOi1 (sa.extBut _ _ D.TOz hTO)
 refine wpAny_bind (wpAny_seqItems hTOb rfl (wpAny_bind (wpAny_updateSeq_pair hTOb fun hc hTOc sc=>?_)))
 replace hTOc:IsPair hc TO x b:=hTOc
 refine wpAny_bind (wpAny_letGo (wpAny_pure (wpAny_bind (wpAny_bind (wpAny_onRaise ?_)))))
 show wpAny _ _ (Builtin.SmallTypes.nextOf (.ref i2)>>=_) _ _ _
 have h2c:S2 k hc:=I2.keep _ _ _ h2 (fun o e=>sc.extBut _ _ D.TOi2.symm (sb.extBut _ _ D.i12.symm (sa.extBut _ _ D.i2z e))) (fun o e=>sc.extBut _ _ D.l2TO (sb.extBut _ _ D.l2i1 (sa.extBut _ _ D.l2z e)))
 refine wpAny_bind (I2.one _ _ k {s with heap:=hc} y _ h2c hy fun hd h2d sd=>wpAny_pure ?_)
 have hTOd:IsPair hd TO x b:=sd.extBut _ _ D.TOi2 hTOc
 refine wpAny_bind (wpAny_seqItems hTOd rfl (wpAny_bind (wpAny_updateSeq_pair hTOd fun he hTOe se=>?_)))
 replace hTOe:IsPair he TO x y:=hTOe
 refine wpAny_bind (wpAny_letGo (wpAny_pure (wpAny_pure (wpAny_bind (wpAny_seqItems hTOe rfl (wpAny_bind (wpAny_newTuple ?_)))))))
 have hsz:he.objs.size=s.heap.objs.size:=by rw [se.1,sd.1,sc.1,sb.1,sa.1]
 have hze:IsZip he z TI TO .ellipsis:=se.extBut _ _ D.TOz.symm (sd.extBut _ _ D.i2z.symm (sc.extBut _ _ D.TOz.symm (sb.extBut _ _ D.i1z.symm hza)))
 have hke:∀c o,c≠z->c≠TO->c≠i1->c≠i2->s.heap.get? c=some o->he.get? c=some o:=fun c o c1 c2 c3 c4 e=>se.extBut _ _ c2 (sd.extBut _ _ c4 (sc.extBut _ _ c2 (sb.extBut _ _ c3 (sa.extBut _ _ c1 e))))
 have h1e:S1 (k+1) he:=I1.keep _ _ _ h1b (fun o e=>se.extBut _ _ D.TOi1.symm (sd.extBut _ _ D.i12 (sc.extBut _ _ D.TOi1.symm e))) (fun o e=>se.extBut _ _ D.l1TO (sd.extBut _ _ D.l1i2 (sc.extBut _ _ D.l1TO e)))
 have h2e:S2 (k+1) he:=I2.keep _ _ _ h2d (fun o e=>se.extBut _ _ D.TOi2.symm e) (fun o e=>se.extBut _ _ D.l2TO e)
 show wpAny _ _ (Builtin.SmallTypes.ownedTupleHandOut (.ref z) (.ref he.objs.size)>>=_) _ _ _
 unfold Builtin.SmallTypes.ownedTupleHandOut
 have hzf:IsZip (he.push {cls:=.type "tuple",data:=.seq #[x,y]}) z TI TO .ellipsis:=Heap.get?_push_of_some _ hze
 refine wpAny_bind (wpAny_bind (wpAny_setField_rec hzf (by simp) fun hg hzg sg=>?_))
 replace hzg:IsZip hg z TI TO (rawInt he.objs.size):=hzg
 refine wpAny_setField_rec hzg (by simp) fun hi hzi si=>?_
 replace hzi:IsZip hi z TI TO (rawInt he.objs.size):=hzi
 have up:∀c o,c≠z->he.get? c=some o->hi.get? c=some o:=fun c o c1 e=>si.extBut _ _ c1 (sg.extBut _ _ c1 (Heap.get?_push_of_some _ e))
 have zlt:he.objs.size≠z:=Nat.ne_of_gt (Heap.lt_size hze)
 have hT:IsPair hi he.objs.size x y:=si.extBut _ _ zlt (sg.extBut _ _ zlt (Heap.get?_push_size _ rfl))
 rw [hsz] at hzi hT
 refine wpAny_pure ⟨_,rfl,?_⟩
 show Q (.ref he.objs.size) _
 rw [hsz]
 exact hQ hi ⟨hzi,up _ _ D.TIz (hke _ _ D.TIz D.TITO D.TIi1 D.TIi2 hTI),⟨_,_,up _ _ D.TOz hTOe⟩,I1.keep _ _ _ h1e (fun o e=>up _ o D.i1z e) (fun o e=>up _ o D.l1z e),I2.keep _ _ _ h2e (fun o e=>up _ o D.i2z e) (fun o e=>up _ o D.l2z e)⟩ hT fun c o c1 c2 c3 c4 e=>up c o c1 (hke c o c1 c2 c3 c4 e)
theorem zipN_over {k:Nat}{Q:Fin->Shared->Prop}(hh:A.handled=none)(I1:Inn prog w i1 l1 S1 it1)(D:ZipApart z TI TO i1 i2 l1 l2)(Z:zta prog w S1 S2 z TI TO i1 i2 l1 l2 .none k s.heap)(hx:it1 k=none)
  (hE:∀h' e,(∀c o,c≠z->c≠i1->s.heap.get? c=some o->h'.get? c=some o)->(∃o,h'.get? e=some o/\o.cls=.type "StopIteration")->E (.ref e) {s with heap:=h'}):
  wpAny (model prog w) A (Builtin.«zip.__next__» ⟨[.ref z],[]⟩) Q E s:=by
 obtain ⟨hz,hTI,⟨a,b,hTO⟩,h1,h2⟩:=Z
 show wpAny _ _ (field (.ref z) 2>>=_) _ _ _
 refine wpAny_bind (wpAny_field hz rfl (x:=.bool false) rfl ?_)
 show wpAny _ _ (field (.ref z) 3>>=_) _ _ _
 refine wpAny_bind (wpAny_field hz rfl (x:=.ref TI) rfl (wpAny_bind (wpAny_seqItems hTI rfl ?_)))
 show wpAny _ _ (Builtin.SmallTypes.ownedTupleIsFree (.ref z)>>=_) _ _ _
 unfold Builtin.SmallTypes.ownedTupleIsFree
 refine wpAny_bind (wpAny_bind (wpAny_field hz rfl (x:=.none) rfl (wpAny_pure ?_)))
 simp only [if_true]
 refine wpAny_bind (wpAny_rule (wpAny_bind (wpAny_field hz rfl (x:=.ref TO) rfl (wpAny_bind (wpAny_setField_rec hz (by simp) fun ha hza sa=>?_)))))
 replace hza:IsZip ha z TI TO .ellipsis:=hza
 refine wpAny_bind ?_
 simp only [zipIdx_cons,List.zipIdx_nil,List.forIn_cons,List.forIn_nil]
 refine wpAny_bind (wpAny_bind (wpAny_onRaise ?_))
 show wpAny _ _ (Builtin.SmallTypes.nextOf (.ref i1)>>=_) _ _ _
 have h1a:S1 k ha:=I1.keep _ _ _ h1 (fun o e=>sa.extBut _ _ D.i1z e) (fun o e=>sa.extBut _ _ D.l1z e)
 refine wpAny_bind (I1.over _ _ k {s with heap:=ha} _ hh h1a hx fun hb e sb ⟨oe,hoe,hce⟩=>?_)
 have hzb:IsZip hb z TI TO .ellipsis:=sb _ _ D.i1z.symm hza
 have hez:e≠z:=fun q=>by subst q;rw [hzb] at hoe;cases hoe;simp at hce
 exact wpAny_setField_rec hzb (by simp) fun hc _ sc=>hE hc e (fun c o c1 c2 q=>sc.extBut _ _ c1 (sb _ _ c2 (sa.extBut _ _ c1 q))) ⟨oe,sc.extBut _ _ hez hoe,hce⟩
theorem ztt {k:Nat}{x y:Value}{Q:Option Value->Shared->Prop}(I1:Inn prog w i1 l1 S1 it1)(I2:Inn prog w i2 l2 S2 it2)(D:ZipApart z TI TO i1 i2 l1 l2)(Z:zta prog w S1 S2 z TI TO i1 i2 l1 l2 .none k s.heap)(hx:it1 k=some x)(hy:it2 k=some y)
  (hQ:∀h',zta prog w S1 S2 z TI TO i1 i2 l1 l2 (rawInt s.heap.objs.size) (k+1) h'->IsPair h' s.heap.objs.size x y->(∀c o,c≠z->c≠TO->c≠i1->c≠i2->s.heap.get? c=some o->h'.get? c=some o)->Q (some (.ref s.heap.objs.size)) {s with heap:=h'}):
  wpAny (model prog w) A (pyNext (.ref z)) Q E s:=by
 have hT:s.TypeIs (.ref z) "zip":=⟨_,Z.zip,rfl⟩
 unfold pyNext
 exact wpAny_bind (wpAny_attempt (wpAny_callSpecial?_slot (name:=Str.ofString "__next__") hT F.slot_zip_next (wpAny_call_entry F.slot_zip_next hT F.entry_zip_next (zipN_item I1 I2 D Z hx hy fun h' a b c=>wpAny_pure (hQ h' a b c)) (F.args_zip_next_1 _))))
theorem zow {k:Nat}{Q:Option Value->Shared->Prop}(hh:A.handled=none)(I1:Inn prog w i1 l1 S1 it1)(D:ZipApart z TI TO i1 i2 l1 l2)(Z:zta prog w S1 S2 z TI TO i1 i2 l1 l2 .none k s.heap)(hx:it1 k=none)
  (hQ:∀h',(∀c o,c≠z->c≠i1->s.heap.get? c=some o->h'.get? c=some o)->Q none {s with heap:=h'}):wpAny (model prog w) A (pyNext (.ref z)) Q E s:=by
 have hT:s.TypeIs (.ref z) "zip":=⟨_,Z.zip,rfl⟩
 unfold pyNext
 refine wpAny_bind (wpAny_attempt (wpAny_callSpecial?_slot (name:=Str.ofString "__next__") hT F.slot_zip_next (wpAny_call_entry F.slot_zip_next hT F.entry_zip_next (zipN_over hh I1 D Z hx fun h' e kp ⟨o,ho,hc⟩=>?_) (F.args_zip_next_1 _))))
 exact wpAny_bind (wpAny_isInstance (T:="StopIteration") (b:=true) ⟨o,ho,hc⟩ isSubtype_stop (wpAny_pure (hQ _ kp)))
end
abbrev ztA (h:Heap)(a:Addr):Heap:=h.push {cls:=.type "tuple_iterator",data:=.fields #[.ref a,.int 0 0]}
abbrev ztB (h:Heap)(a b:Addr):Heap:=(ztA h a).push {cls:=.type "tuple_iterator",data:=.fields #[.ref b,.int 0 0]}
abbrev ztC (h:Heap)(a b:Addr):Heap:=(ztB h a b).push {cls:=.type "tuple",data:=.seq #[.ref h.objs.size,.ref (ztA h a).objs.size]}
abbrev ztD (h:Heap)(a b:Addr):Heap:=(ztC h a b).push {cls:=.type "tuple",data:=.seq #[.none,.none]}
abbrev ztE (h:Heap)(a b:Addr):Heap:=(ztD h a b).push {cls:=.type "zip",data:=.fields #[.none,.bool false,.bool false,.ref (ztB h a b).objs.size,.ref (ztC h a b).objs.size]}
theorem zxl (a b:Addr)(xs ys:Array Value):Meets (Builtin.«zip.__new__» ⟨[.type "zip",.ref a,.ref b],[]⟩) (fun _ R s=>s.heap.IsTuple a xs/\s.heap.IsTuple b ys/\R (.ok (.ret (.ref (ztD s.heap a b).objs.size))) {s with heap:=ztE s.heap a b}):=
 .of_wp fun prog w A R s h=>by
  obtain ⟨hp,g,d,tk,os⟩:=s
  obtain ⟨ha,hb,h⟩:=h
  have hsub:=sub_zip
  have h1:Heap.IsTuple (Shared.heap ⟨hp,g,d,tk,os⟩) a xs:=ha
  have h2:Heap.IsTuple (Shared.heap ⟨hp.push {cls:=.type "tuple_iterator",data:=.fields #[.ref a,.int 0 0]},g,d,tk,os⟩) b ys:=Heap.IsTuple.push hb _
  wp_walk using wpAny_pyIter_tuple h1,wpAny_pyIter_tuple h2
  exact ⟨_,rfl,h⟩
theorem call_zipT {prog:Program}{w:World}{A:Around}{E:Value->Shared->Prop}{s:Shared}{a b:Addr}{xs ys:Array Value}{Q:Value->Shared->Prop}(ha:s.heap.IsTuple a xs)(hb:s.heap.IsTuple b ys)
  (h:∀h' n,n=s.heap.objs.size->IsZip h' (n+4) (n+2) (n+3) .none->IsPair h' (n+2) (.ref n) (.ref (n+1))->IsPair h' (n+3) .none .none->h'.IsTupleIter n a 0->h'.IsTupleIter (n+1) b 0->(∀c o,s.heap.get? c=some o->h'.get? c=some o)->Q (.ref (n+4)) {s with heap:=h'}):
  wpAny (model prog w) A (call (.type "zip") [.ref a,.ref b]) Q E s:=by
 refine callType_new F.called_zip (by decide) (F.typeCall_zip_2 _ _) (F.newCall_zip_2 _ _) (fun obj=>F.args_object_init_3 obj _ _) F.entry_zip_new (zxl a b xs ys) ⟨ha,hb,?_⟩
 have zA:(ztA s.heap a).objs.size=s.heap.objs.size+1:=Heap.size_push ..
 have zB:(ztB s.heap a b).objs.size=s.heap.objs.size+2:=by rw [Heap.size_push,zA]
 have zC:(ztC s.heap a b).objs.size=s.heap.objs.size+3:=by rw [Heap.size_push,zB]
 have zD:(ztD s.heap a b).objs.size=s.heap.objs.size+4:=by rw [Heap.size_push,zC]
 have gE:(ztE s.heap a b).get? (ztD s.heap a b).objs.size=some _:=Heap.get?_push_size _ rfl
 have gD:(ztE s.heap a b).get? (ztC s.heap a b).objs.size=some _:=Heap.get?_push_of_some _ (Heap.get?_push_size _ rfl)
 have gC:(ztE s.heap a b).get? (ztB s.heap a b).objs.size=some _:=Heap.get?_push_of_some _ (Heap.get?_push_of_some _ (Heap.get?_push_size _ rfl))
 have gB:(ztE s.heap a b).get? (ztA s.heap a).objs.size=some _:=Heap.get?_push_of_some _ (Heap.get?_push_of_some _ (Heap.get?_push_of_some _ (Heap.get?_push_size _ rfl)))
 have gA:(ztE s.heap a b).get? s.heap.objs.size=some _:=Heap.get?_push_of_some _ (Heap.get?_push_of_some _ (Heap.get?_push_of_some _ (Heap.get?_push_of_some _ (Heap.get?_push_size _ rfl))))
 show _/\_
 rw [zB,zC,zD] at gE
 rw [zA,zB] at gC
 rw [zC] at gD
 rw [zA] at gB
 rw [zD]
 exact ⟨⟨_,gE,rfl⟩,h _ _ rfl gE gC gD ⟨_,gA,rfl,rfl⟩ ⟨_,gB,rfl,rfl⟩ fun c o q=>Heap.get?_push_of_some _ (Heap.get?_push_of_some _ (Heap.get?_push_of_some _ (Heap.get?_push_of_some _ (Heap.get?_push_of_some _ q))))⟩
end PySem
namespace L2
open PySem PySem.Spec PyProof.Rows
section
variable {X:Cx}{pins:List (Addr×Obj)}{σ:St}{H:Hp}{s:Shared}
theorem Inv.turnLay {ch:List Addr}{h':Heap}{T:Addr}{o:HO}{t':Nat}(I:Inv X pins σ H s)(hf:∀b∈ch,FpOk X pins H b)(hT:s.heap.objs.size<=T)(k:∀b u,b∉ch->s.heap.get? b=some u->h'.get? b=some u)
  (new:ObjOk X.prog X.w (upd H T o) h' T o):Inv X pins σ (upd H T o) {s with heap:=h',toks:=t'}:=by
 have hTn:H T=none:=I.hok.fresh hT
 have fT:=I.fpOk hT hTn
 have tne:∀b u,H b=some u->b≠T:=fun b u e=>zax e hTn
 have nch:∀b u,H b=some u->b∉ch:=fun b u e hb=>by have:=(hf b hb).1;rw [e] at this;cases this
 refine I.step (g':=s.gens) (d':=s.drawn) (ch:=T::ch) (fun b hb=>?_) (fun b u _ _ hc e _=>k b u (fun z=>hc (mem_cons_of_mem _ z)) e) (fun b u _ _ hc e _=>⟨u.slots,k b u (fun z=>hc (mem_cons_of_mem _ z)) e⟩) (fun b u hc e n=>?_)
  (fun b u hc e=>⟨u,k b u (fun z=>hc (mem_cons_of_mem _ z)) e⟩) (fun b xs e=>by rw [zal (tne b _ e)];exact e) (fun b q xs e=>by rw [zal (tne b _ e)];exact e) (fun b ps e=>⟨#[],by rw [zal (tne b _ e),e];simp⟩) (fun m hm=>?_) (fun b u e=>?_) I.bare
 ·rcases mem_cons.mp hb with rfl|hb
  ·exact ⟨fT.2.2.2.1,fT.2.1,fT.2.2.2.2.1,fT.2.2.2.2.2⟩
  ·have f:=hf b hb
   exact ⟨f.2.2.2.1,f.2.1,f.2.2.2.2.1,f.2.2.2.2.2⟩
 ·rw [zal fun z=>hc (by rw [z];exact mem_cons_self)];exact n
 ·obtain ⟨ob,es,ep,ho,r⟩:=hm
  exact ⟨ob,es,ep,k _ ob (fun z=>(hf _ z).2.1 rfl) ho,r⟩
 ·by_cases hb:b=T
  ·subst hb;rw [zae] at e;cases e;exact new
  ·rw [zal hb] at e
   refine (I.hok b u e).stay (fun c v hc q=>k c v ?_ q) (fun c q=>by rw [zal (tne c _ q)];exact q) fun c xs q=>by rw [zal (tne c _ q)];exact q
   rcases hc with rfl|hc
   ·exact nch _ _ e
   ·exact nch _ _ hc
theorem Inv.turnN {ch:List Addr}{h':Heap}{t':Nat}(I:Inv X pins σ H s)(hf:∀b∈ch,FpOk X pins H b)(k:∀b u,b∉ch->s.heap.get? b=some u->h'.get? b=some u):Inv X pins σ H {s with heap:=h',toks:=t'}:=by
 have nch:∀b u,H b=some u->b∉ch:=fun b u e hb=>by have:=(hf b hb).1;rw [e] at this;cases this
 refine I.step (g':=s.gens) (d':=s.drawn) (ch:=ch) (fun b hb=>?_) (fun b u _ _ hc e _=>k b u hc e) (fun b u _ _ hc e _=>⟨u.slots,k b u hc e⟩) (fun b u hc e n=>n)
  (fun b u hc e=>⟨u,k b u hc e⟩) (fun b xs e=>e) (fun b q xs e=>e) (fun b ps e=>⟨#[],by rw [e];simp⟩) (fun m hm=>?_) (fun b u e=>?_) I.bare
 ·have f:=hf b hb
  exact ⟨f.2.2.2.1,f.2.1,f.2.2.2.2.1,f.2.2.2.2.2⟩
 ·obtain ⟨ob,es,ep,ho,r⟩:=hm
  exact ⟨ob,es,ep,k _ ob (fun z=>(hf _ z).2.1 rfl) ho,r⟩
 ·refine (I.hok b u e).stay (fun c v hc q=>k c v ?_ q) (fun c q=>q) fun c xs q=>q
  rcases hc with rfl|hc
  ·exact nch _ _ e
  ·exact nch _ _ hc
end
def Itz (K:PySem.W.Frag)(a b:Addr):It:=
 ⟨fun i H=>∃xs ys x y,SqT K H a xs/\SqT K H b ys/\xs[i]?=some x/\ys[i]?=some y,
  fun i H v H'=>∃T x y,H T=none/\v=.ref T/\H'=upd H T (.tup [x,y])/\∀xs ys,SqT K H a xs->SqT K H b ys->xs[i]?=some x/\ys[i]?=some y,
  fun i H=>∃xs ys,SqT K H a xs/\SqT K H b ys/\xs.length<=i⟩
def zipT (z TI TO i1 i2 a b:Addr)(f0:Value)(i:Nat)(h:Heap):Prop:=IsZip h z TI TO f0/\IsPair h TI (.ref i1) (.ref i2)/\(∃u v,IsPair h TO u v)/\h.IsTupleIter i1 a i/\h.IsTupleIter i2 b i
theorem turn_zip {P:Program}{w:World}{K:PySem.W.Frag}{es:List Expr}{kk:Nat}{tp:Pos}{z TI TO i1 i2 a b:Addr}(D:ZipApart z TI TO i1 i2 a b)(D1:TI≠a)(D2:TI≠b):
  Turn P w K (.Tuple es kk tp) (Itz K a b) [z,TI,TO,i1,i2] z (fun i h=>zipT z TI TO i1 i2 a b .none i h) where
 mem:=by simp
 obj:=fun i h ⟨hz,hTI,⟨u,v,hTO⟩,⟨o1,e1,_,d1⟩,⟨o2,e2,_,d2⟩⟩ q hq=>by
  simp only [mem_cons,not_mem_nil,or_false] at hq
  rcases hq with rfl|rfl|rfl|rfl|rfl
  ·exact ⟨_,hz,fun v z=>nomatch z⟩
  ·exact ⟨_,hTI,fun v z=>nomatch z⟩
  ·exact ⟨_,hTO,fun v z=>nomatch z⟩
  ·exact ⟨_,e1,fun v z=>by rw [d1] at z;cases z⟩
  ·exact ⟨_,e2,fun v z=>by rw [d2] at z;cases z⟩
 keep:=fun i h h' ⟨hz,hTI,⟨u,v,hTO⟩,⟨o1,e1,r1⟩,⟨o2,e2,r2⟩⟩ k=>⟨k _ (by simp) _ hz,k _ (by simp) _ hTI,⟨u,v,k _ (by simp) _ hTO⟩,⟨o1,k _ (by simp) _ e1,r1⟩,⟨o2,k _ (by simp) _ e2,r2⟩⟩
 item:=by
  intro X hP hw hK hc i pins s σ H E I hf st hg
  subst hP hw hK
  obtain ⟨xs,ys,x,y,hq1,hq2,hx,hy⟩:=hg
  obtain ⟨its,rv,p1,hz1⟩:=I.tuple hq1
  obtain ⟨its2,rv2,p2,hz2⟩:=I.tuple hq2
  obtain ⟨u,hu,ru⟩:=rv.get hx
  obtain ⟨v,hv,rv'⟩:=rv2.get hy
  obtain ⟨hz,hTI,hTO,h1,h2⟩:=st
  have Z:zta X.prog X.w (fun k h=>h.IsTupleIter i1 a k/\h.IsTuple a its.toArray/\a≠i1) (fun k h=>h.IsTupleIter i2 b k/\h.IsTuple b its2.toArray/\b≠i2) z TI TO i1 i2 a b .none i s.heap:=⟨hz,hTI,hTO,⟨h1,p1,D.l1i1⟩,⟨h2,p2,D.l2i2⟩⟩
  refine ztt zul zul D Z (x:=u) (y:=v) (by simpa using hu) (by simpa using hv) fun h' Z' hT kp=>?_
  refine ⟨_,rfl,?_⟩
  refine wpAny_letOwnedTupleGo_zip (s:={s with heap:=h'}) Z'.zip fun h2' hz2' sb=>?_
  have hTz:s.heap.objs.size≠z:=Nat.ne_of_gt (Heap.lt_size hz)
  have hT2:IsPair h2' s.heap.objs.size u v:=(sb.2 _ hTz).trans hT
  have kp2:∀c o,c∉[z,TI,TO,i1,i2]->s.heap.get? c=some o->h2'.get? c=some o:=fun c o hc e=>(sb.2 c fun q=>hc (by simp [q])).trans (kp c o (fun q=>hc (by simp [q])) (fun q=>hc (by simp [q])) (fun q=>hc (by simp [q])) (fun q=>hc (by simp [q])) e)
  have hTn:H s.heap.objs.size=none:=I.hok.fresh (Nat.le_refl _)
  refine ⟨.ref s.heap.objs.size,upd H s.heap.objs.size (.tup [x,y]),I.turnLay (t':=s.toks) hf (Nat.le_refl _) kp2 ⟨by show 2<=sizeLine;decide,[u,v],.cons ru (.cons rv' .nil),⟨_,hT2,rfl,_,rfl⟩⟩,rfl,⟨_,x,y,hTn,rfl,rfl,fun xs' ys' q1 q2=>?_⟩,?_,fun b' hb=>?_⟩
  ·rw [I.tuple_inj q1 hq1,I.tuple_inj q2 hq2];exact ⟨hx,hy⟩
  ·obtain ⟨u',v',hTO'⟩:=Z'.out
   have ii1:=Z'.one.1
   have ii2:=Z'.two.1
   exact ⟨hz2',(sb.2 _ D.TIz).trans Z'.ins,⟨u',v',(sb.2 _ D.TOz).trans hTO'⟩,ii1.extBut sb.extBut D.i1z,ii2.extBut sb.extBut D.i2z⟩
  ·obtain ⟨ob,e,_⟩:∃ob,s.heap.get? b'=some ob/\True:=by
    simp only [mem_cons,not_mem_nil,or_false] at hb
    obtain ⟨u',v',hTO'⟩:=hTO
    obtain ⟨o1,e1,_⟩:=h1
    obtain ⟨o2,e2,_⟩:=h2
    rcases hb with rfl|rfl|rfl|rfl|rfl
    ·exact ⟨_,hz,trivial⟩
    ·exact ⟨_,hTI,trivial⟩
    ·exact ⟨_,hTO',trivial⟩
    ·exact ⟨_,e1,trivial⟩
    ·exact ⟨_,e2,trivial⟩
   rw [zal (Nat.ne_of_lt (Heap.lt_size e))]
   exact (hf b' hb).1
 done:=by
  intro X hP hw hK hc i pins s σ H E I hf st hg
  subst hP hw hK
  obtain ⟨xs,ys,hq1,hq2,hx⟩:=hg
  obtain ⟨its,rv,p1,hz1⟩:=I.tuple hq1
  obtain ⟨its2,rv2,p2,hz2⟩:=I.tuple hq2
  obtain ⟨hz,hTI,hTO,h1,h2⟩:=st
  have Z:zta X.prog X.w (fun k h=>h.IsTupleIter i1 a k/\h.IsTuple a its.toArray/\a≠i1) (fun k h=>h.IsTupleIter i2 b k/\h.IsTuple b its2.toArray/\b≠i2) z TI TO i1 i2 a b .none i s.heap:=⟨hz,hTI,hTO,⟨h1,p1,D.l1i1⟩,⟨h2,p2,D.l2i2⟩⟩
  have hl:=rv.length
  exact zow (I.ok.hd hc) zul D Z (by simp;omega) fun h' kp=>⟨rfl,I.turnN (t':=s.toks) hf fun c o hcc e=>kp c o (fun q=>hcc (by simp [q])) (fun q=>hcc (by simp [q])) e⟩
 self:=fun A i s Q E st h=>wpAny_pyIter_zip st.1 h
section
variable {X:Cx}
def iZip (K:PySem.W.Frag)(t:TA):TI:=fun σ H R=>t σ H fun vs H1=>∃a b,vs=[.ref a,.ref b]/\(∃xs,SqT K H1 a xs)/\(∃ys,SqT K H1 b ys)/\R (Itz K a b) H1
theorem pi_zipT {es:List Expr}{kk:Nat}{tp:Pos}{a b:Expr}{t:TA}{p pos:Pos}(hm:X.mg "zip"=none)(ha:PA X [a,b] t)(hg:Gl X "zip":=by rfl)(hs:starEach [a,b] X.env=[(false,eval a X.env),(false,eval b X.env)]:=by rfl)(hs2:starEach [b] X.env=[(false,eval b X.env)]:=by rfl):
  PI X (.Tuple es kk tp) (.Call (.Name "zip" p) [a,b] [] pos) (iZip X.K t):=by
 intro pins s σ H R I h
 refine Call_ (zjo I hg hm PyProof.Rows.boot_zip (PyProof.Rows.callWith_type1 (thn (ha pos pins s σ H _ I h) fun us s1 ⟨vs,H1,I1,r1,q1⟩=>?_) (by rw [hs,hs2]) (by rw [hs2];rfl)))
 obtain ⟨a,b,rfl,⟨xs,hq1⟩,⟨ys,hq2⟩,q⟩:=q1
 obtain ⟨u1,u2,rfl,ru1,ru2⟩:=Vals.two r1
 cases ru1;cases ru2
 obtain ⟨its,rv,p1,hz1⟩:=I1.tuple hq1
 obtain ⟨its2,rv2,p2,hz2⟩:=I1.tuple hq2
 refine call_zipT p1 p2 fun h' n hn g1 g2 g3 g4 g5 kp=>?_
 have ha:a<n:=by rw [hn];exact p1.lt
 have hb:b<n:=by rw [hn];exact p2.lt
 have I2:Inv X pins σ H1 {s1 with heap:=h'}:=I1.kept (t':=s1.toks) kp
 have D:ZipApart (n+4) (n+2) (n+3) n (n+1) a b:=zipApart_new ha hb
 refine wpAny_pyIter_zip (s:={s1 with heap:=h'}) g1 ?_
 refine ⟨n+4,[n+4,n+2,n+3,n,n+1],_,_,H1,rfl,I2,turn_zip D (Nat.ne_of_gt (Nat.lt_of_lt_of_le ha (Nat.le_add_right _ _))) (Nat.ne_of_gt (Nat.lt_of_lt_of_le hb (Nat.le_add_right _ _))),⟨g1,g2,⟨_,_,g3⟩,g4,g5⟩,fun c hc=>?_,q⟩
 have hcn:s1.heap.objs.size<=c:=by
  simp only [mem_cons,not_mem_nil,or_false] at hc
  rw [<-hn]
  rcases hc with rfl|rfl|rfl|rfl|rfl
  ·exact Nat.le_add_right _ _
  ·exact Nat.le_add_right _ _
  ·exact Nat.le_add_right _ _
  ·exact Nat.le_refl _
  ·exact Nat.le_add_right _ _
 exact I1.fpOk hcn (I1.hok.fresh hcn)
end
end L2
namespace FL
open PySem L2
def zipD (xs ys:List D):List D:=List.zipWith (fun x y=>.tup [x,y]) xs ys
theorem walk_zip {G:Hp}{σ:St}{t:TA}{xs ys:List D}{K:PySem.W.Frag}(hl:xs.length=ys.length)(h:EvA t G σ [.tup xs,.tup ys]):zte (iZip K t) G σ (zipD xs ys):=fun M H s l R k=>h M H s l _ fun vs H1 s1 rs=>by
 obtain ⟨v1,v2,rfl,r1,r2⟩:=reps2 rs
 obtain ⟨a,us,rfl,h1,h2⟩:=r1.of_tup
 obtain ⟨b,ws,rfl,h3,h4⟩:=r2.of_tup
 refine ⟨a,b,rfl,⟨us,SqT.of (zac h1).2⟩,⟨ws,SqT.of (zac h3).2⟩,k _ H1 s1 (fun j d M' H' hj hs hlv=>?_) (fun M' H' hs=>?_)⟩
 ·have ha:=(zac (hs _ _ h1)).2
  have hb:=(zac (hs _ _ h3)).2
  unfold zipD at hj
  rw [List.getElem?_zipWith] at hj
  cases e1:xs[j]? with
  |none=>rw [e1] at hj;cases hj
  |some x=>
   cases e2:ys[j]? with
   |none=>rw [e1,e2] at hj;cases hj
   |some y=>
    rw [e1,e2] at hj
    cases hj
    obtain ⟨u,hu,ru⟩:=h2.get e1
    obtain ⟨w,hw,rw'⟩:=h4.get e2
    refine ⟨⟨us,ws,u,w,SqT.of ha,SqT.of hb,hu,hw⟩,fun v H'' ⟨T,x',y',hT,e,eH,hy⟩=>?_⟩
    obtain ⟨q1,q2⟩:=hy us ws (SqT.of ha) (SqT.of hb)
    rw [hu] at q1;rw [hw] at q2
    cases q1;cases q2
    subst e eH
    refine ⟨zbm hT _,?_⟩
    exact zey hlv hT (.cons (ru.mono hs) (.cons (rw'.mono hs) .nil))
 ·have ha:=(zac (hs _ _ h1)).2
  have hb:=(zac (hs _ _ h3)).2
  refine ⟨us,ws,SqT.of ha,SqT.of hb,?_⟩
  rw [h2.length]
  simp [zipD,hl]
end FL
namespace L2
open PySem PySem.Spec PyProof.Rows
def Ite (K:PySem.W.Frag)(a:Addr):It:=
 ⟨fun i H=>∃xs x,SqL K H a xs/\xs[i]?=some x,
  fun i H v H'=>∃T x,H T=none/\v=.ref T/\H'=upd H T (.tup [.int i,x])/\∀xs,SqL K H a xs->xs[i]?=some x,
  fun i H=>∃xs,SqL K H a xs/\xs.length<=i⟩
theorem turn_enum {P:Program}{w:World}{K:PySem.W.Frag}{es:List Expr}{kk:Nat}{tp:Pos}{e it a:Addr}(hne:e≠it):
  Turn P w K (.Tuple es kk tp) (Ite K a) [e,it] e (fun i h=>(∃old,IsEnum h e it ((i:Nat):Int) old)/\h.IsListIter it a i) where
 mem:=by simp
 obj:=fun i h ⟨⟨old,he⟩,⟨o1,e1,_,d1⟩⟩ q hq=>by
  simp only [mem_cons,not_mem_nil,or_false] at hq
  rcases hq with rfl|rfl
  ·exact ⟨_,he,fun v z=>nomatch z⟩
  ·exact ⟨_,e1,fun v z=>by rw [d1] at z;cases z⟩
 keep:=fun i h h' ⟨⟨old,he⟩,⟨o1,e1,r1⟩⟩ k=>⟨⟨old,k _ (by simp) _ he⟩,⟨o1,k _ (by simp) _ e1,r1⟩⟩
 item:=by
  intro X hP hw hK hc i pins s σ H E I hf st hg
  subst hP hw hK
  obtain ⟨xs,x,hq,hx⟩:=hg
  obtain ⟨its,rv,p,hz⟩:=I.list hq
  obtain ⟨u,hu,ru⟩:=rv.get hx
  obtain ⟨⟨old,he⟩,hit⟩:=st
  refine wpAny_pyNext_enum_item he hit p.isList (x:=u) (by simpa using hu) hne fun h' heo hit' hT hzz kp=>?_
  refine ⟨_,rfl,?_⟩
  refine wpAny_letOwnedTupleGo_enum (s:={s with heap:=h',toks:=s.toks+1}) heo fun h2' he2 sb=>?_
  have hTe:s.heap.objs.size≠e:=Nat.ne_of_gt (Heap.lt_size he)
  have hT2:h2'.get? s.heap.objs.size=some {cls:=.type "tuple",data:=.seq #[.int i s.toks,u]}:=(sb.2 _ hTe).trans hT
  have kp2:∀c o,c∉[e,it]->s.heap.get? c=some o->h2'.get? c=some o:=fun c o hc e'=>(sb.2 c fun q=>hc (by simp [q])).trans (kp c o (fun q=>hc (by simp [q])) (fun q=>hc (by simp [q])) e')
  have hTn:H s.heap.objs.size=none:=I.hok.fresh (Nat.le_refl _)
  refine ⟨.ref s.heap.objs.size,upd H s.heap.objs.size (.tup [.int i,x]),I.turnLay (t':=s.toks+1) hf (Nat.le_refl _) kp2 ⟨by show 2<=sizeLine;decide,[.int i s.toks,u],.cons ⟨_,rfl⟩ (.cons ru .nil),⟨_,hT2,rfl,_,rfl⟩⟩,rfl,⟨_,x,hTn,rfl,rfl,fun ys hy=>by rw [I.list_inj hy hq];exact hx⟩,⟨⟨u,he2⟩,hit'.extBut sb.extBut (Ne.symm hne)⟩,fun b' hb=>?_⟩
  obtain ⟨ob,e',_⟩:∃ob,s.heap.get? b'=some ob/\True:=by
   simp only [mem_cons,not_mem_nil,or_false] at hb
   obtain ⟨o1,e1,_⟩:=hit
   rcases hb with rfl|rfl
   ·exact ⟨_,he,trivial⟩
   ·exact ⟨_,e1,trivial⟩
  rw [zal (Nat.ne_of_lt (Heap.lt_size e'))]
  exact (hf b' hb).1
 done:=by
  intro X hP hw hK hc i pins s σ H E I hf st hg
  subst hP hw hK
  obtain ⟨xs,hq,hx⟩:=hg
  obtain ⟨its,rv,p,hz⟩:=I.list hq
  obtain ⟨⟨old,he⟩,hit⟩:=st
  have hl:=rv.length
  exact wpAny_pyNext_enum_end (I.ok.hd hc) he hit p.isList (by simp;omega) fun h' eb=>⟨rfl,I.turnN (t':=s.toks) hf fun c o hcc e=>eb c o (fun q=>hcc (by simp [q])) e⟩
 self:=fun A i s Q E st h=>let ⟨⟨_,he⟩,_⟩:=st;wpAny_pyIter_enum he h
def Itv (K:PySem.W.Frag)(a:Addr)(n:Nat):It:=
 ⟨fun i H=>i<n/\∃xs x,SqL K H a xs/\xs.length=n/\xs[n-1-i]?=some x,fun i H x H'=>H'=H/\∀xs,SqL K H a xs->xs[n-1-i]?=some x,fun i H=>n<=i⟩
theorem turn_rev {P:Program}{w:World}{K:PySem.W.Frag}{tg:Expr}(a it:Addr)(n:Nat):Turn P w K tg (Itv K a n) [it] it (fun i h=>i<=n/\h.IsRevIter it a ((n:Int)-1-(i:Int))) where
 mem:=by simp
 obj:=fun i h st b hb=>by
  have e:b=it:=by simpa using hb
  subst e
  obtain ⟨_,o,e,c,d⟩:=st
  exact ⟨o,e,fun v z=>by rw [d] at z;cases z⟩
 keep:=fun i h h' st k=>⟨st.1,st.2.at fun o e=>k it (by simp) o e⟩
 item:=by
  intro X hP hw hK hc i pins s σ H E I hf st hg
  subst hP hw hK
  obtain ⟨hin,xs,x,hq,hn,hx⟩:=hg
  obtain ⟨its,rv,p,hz⟩:=I.list hq
  obtain ⟨u,hu,ru⟩:=rv.get hx
  obtain ⟨f0,f1,f2,f3,f4,f5⟩:=hf it (by simp)
  have e1:(n:Int)-1-(i:Int)=((n-1-i:Nat):Int):=by omega
  have hit:=st.2
  rw [e1] at hit
  refine wpAny_pyNext_rev_item hit p.isList (x:=u) (by simpa using hu) fun h' st' sb=>?_
  have I1:Inv X pins σ H {s with heap:=h'}:=I.turned (t':=s.toks) (fun b o hb e=>(sb.2 b hb).trans e) f0 f1 f3 f4 f5
  have e2:((n-1-i:Nat):Int)-1=(n:Int)-1-((i+1:Nat):Int):=by omega
  rw [e2] at st'
  obtain ⟨o,e,c,d⟩:=id st'
  exact ⟨u,rfl,go_of (s:={s with heap:=h'}) e c d (by decide) ⟨x,H,I1,ru,⟨rfl,fun ys hy=>by rw [I.list_inj hy hq];exact hx⟩,⟨hin,st'⟩,fun b hb=>(hf b hb).1⟩⟩
 done:=by
  intro X hP hw hK hc i pins s σ H E I hf st hg
  subst hP hw hK
  obtain ⟨f0,f1,f2,f3,f4,f5⟩:=hf it (by simp)
  have hg:n<=i:=hg
  have e:(n:Int)-1-(i:Int)=-1:=by have:=st.1;omega
  have hit:=st.2
  rw [e] at hit
  exact wpAny_pyNext_rev_end (I.ok.hd hc) hit fun h' eb=>⟨rfl,I.turned (t':=s.toks) (fun b o hb e=>eb b o hb e) f0 f1 f3 f4 f5⟩
 self:=fun _ _ _ _ _ st h=>wpAny_pyIter_revIter st.2 h
section
variable {X:Cx}
def iEnum (K:PySem.W.Frag)(t:TA):TI:=fun σ H R=>t σ H fun vs H1=>∃a,vs=[.ref a]/\(∃xs,SqL K H1 a xs)/\R (Ite K a) H1
theorem pi_enum {es:List Expr}{kk:Nat}{tp:Pos}{a:Expr}{t:TA}{p pos:Pos}(hm:X.mg "enumerate"=none)(ha:PA X [a] t)(hg:Gl X "enumerate":=by rfl)(hs:starEach [a] X.env=[(false,eval a X.env)]:=by rfl)(hs2:starEach [] X.env=[]:=by rfl):
  PI X (.Tuple es kk tp) (.Call (.Name "enumerate" p) [a] [] pos) (iEnum X.K t):=by
 intro pins s σ H R I h
 refine Call_ (zjo I hg hm PyProof.Rows.boot_enumerate (PyProof.Rows.callWith_type1 (thn (ha pos pins s σ H _ I h) fun us s1 ⟨vs,H1,I1,r1,q1⟩=>?_) (by rw [hs,hs2]) (by rw [hs2];rfl)))
 obtain ⟨a,rfl,⟨xs,hq⟩,q⟩:=q1
 obtain ⟨u1,rfl,ru1⟩:=Vals.one r1
 cases ru1
 obtain ⟨its,rv,p1,hz1⟩:=I1.list hq
 refine call_enumerate_list p1.isList fun h' g1 g2 hz kp=>?_
 have I2:Inv X pins σ H1 {s1 with heap:=h'}:=I1.kept (t':=s1.toks) kp
 refine wpAny_pyIter_enum (s:={s1 with heap:=h'}) g1 ?_
 refine ⟨s1.heap.objs.size+1,[s1.heap.objs.size+1,s1.heap.objs.size],_,_,H1,rfl,I2,turn_enum (Nat.succ_ne_self _),⟨⟨_,g1⟩,g2⟩,fun c hc=>?_,q⟩
 have hcn:s1.heap.objs.size<=c:=by
  simp only [mem_cons,not_mem_nil,or_false] at hc
  rcases hc with rfl|rfl
  ·exact Nat.le_add_right _ _
  ·exact Nat.le_refl _
 exact I1.fpOk hcn (I1.hok.fresh hcn)
def iRev (K:PySem.W.Frag)(t:TA):TI:=fun σ H R=>t σ H fun vs H1=>∃a xs,vs=[.ref a]/\SqL K H1 a xs/\R (Itv K a xs.length) H1
theorem pi_rev {tg:Expr}{a:Expr}{t:TA}{p pos:Pos}(hm:X.mg "reversed"=none)(ha:PA X [a] t)(hg:Gl X "reversed":=by rfl)(hs:starEach [a] X.env=[(false,eval a X.env)]:=by rfl)(hs2:starEach [] X.env=[]:=by rfl):
  PI X tg (.Call (.Name "reversed" p) [a] [] pos) (iRev X.K t):=by
 intro pins s σ H R I h
 refine Call_ (zjo I hg hm PyProof.Rows.boot_reversed (PyProof.Rows.callWith_type1 (thn (ha pos pins s σ H _ I h) fun us s1 ⟨vs,H1,I1,r1,q1⟩=>?_) (by rw [hs,hs2]) (by rw [hs2];rfl)))
 obtain ⟨a,xs,rfl,hq,q⟩:=q1
 obtain ⟨u1,rfl,ru1⟩:=Vals.one r1
 cases ru1
 obtain ⟨its,rv,p1,hz1⟩:=I1.list hq
 have hl:=rv.length
 refine call_reversed_list p1.isList ?_
 have I2:Inv X pins σ H1 {s1 with heap:=s1.heap.push (revObj a ((its.toArray.size:Int)-1))}:=I1.kept (t':=s1.toks) fun b o e=>Heap.get?_push_of_some _ e
 have g:(s1.heap.push (revObj a ((its.toArray.size:Int)-1))).IsRevIter s1.heap.objs.size a ((xs.length:Int)-1-((0:Nat):Int)):=by
  refine ⟨_,Heap.get?_push_size _ rfl,rfl,?_⟩
  have:((its.toArray.size:Nat):Int)-1=(xs.length:Int)-1-((0:Nat):Int):=by simp;omega
  rw [<-this]
  rfl
 refine wpAny_pyIter_revIter (s:={s1 with heap:=s1.heap.push (revObj a ((its.toArray.size:Int)-1))}) g ?_
 refine ⟨s1.heap.objs.size,[s1.heap.objs.size],_,_,H1,rfl,I2,turn_rev a _ xs.length,⟨Nat.zero_le _,g⟩,fun b hb=>?_,q⟩
 have e:b=s1.heap.objs.size:=by simpa using hb
 subst e
 exact I1.fpOk (Nat.le_refl _) (I1.hok.fresh (Nat.le_refl _))
end
end L2
namespace FL
open PySem L2
theorem walk_rev {G:Hp}{σ:St}{t:TA}{xs:List D}{K:PySem.W.Frag}(h:EvA t G σ [.lst xs]):zte (iRev K t) G σ xs.reverse:=fun M H s l R k=>h M H s l _ fun vs H1 s1 rs=>by
 obtain ⟨v1,rfl,r1⟩:=zov rs
 obtain ⟨a,us,rfl,h1,h2⟩:=r1.of_lst
 refine ⟨a,us,rfl,SqL.of (zac h1).2,k _ H1 s1 (fun j d M' H' hj hs hlv=>?_) (fun M' H' hs=>?_)⟩
 ·have ha:=(zac (hs _ _ h1)).2
  have hlen:=h2.length
  have hjl:j<xs.length:=by have:=(List.getElem?_eq_some_iff.mp hj).1;simpa using this
  rw [List.getElem?_reverse hjl,<-hlen] at hj
  obtain ⟨u,hu,ru⟩:=h2.get hj
  refine ⟨⟨by omega,us,u,SqL.of ha,rfl,hu⟩,fun v H'' ⟨eH,hy⟩=>?_⟩
  have q1:=hy us (SqL.of ha)
  rw [hu] at q1
  cases q1
  subst eH
  exact ⟨Same.refl _,ru.mono hs⟩
 ·show us.length<=_
  rw [h2.length,List.length_reverse]
  exact Nat.le_refl _
end FL
namespace PySem
section
variable {prog:Program}{w:World}{K:Type} [DecidableEq K] {knd:HeapKind prog w K}{A:Around}{E:Value->Shared->Prop}{s:Shared}
theorem zhs {d a:Addr}{xs:List (K×Addr×Value)}{k:K}{dflt:Value}{Q:Value->Shared->Prop}(hu:knd.room A)(hkey:knd.is s.heap k a)(hm:s.heap.DictOfH knd d xs)
  (h1:∀v,(atKey xs k).map (·.2)=some v->Q v {s with toks:=s.toks+knd.draws k})
  (h2:(atKey xs k).map (·.2)=none->∀h',h'.DictOfH knd d (storedH xs k a dflt)->Heap.SameBut d s.heap h'->Q dflt {s with heap:=h',toks:=s.toks+knd.draws k})
  (hsz:xs.length<=sizeLine:=by size_fits):wpAny (model prog w) A (dictSetDefault d (.ref a) dflt) Q E s:=by
 obtain ⟨o,es,ep,ho,hc,hd,he,his,hn⟩:=hm
 unfold dictSetDefault
 try with_reducible refine wpAny_holding ?_
 refine wpAny_bind (knd.pyHash hu hkey ?_)
 refine wpAny_bind (wpAny_dictFind_heap (s:={s with toks:=s.toks+knd.draws k}) hu hkey ho hd he his hn ?_ ?_)
 ·intro hno
  have hnot:k∉xs.map (·.1):=not_mem_keys_of_get hno
  have hnone:=atKey_none_of_get hno
  refine wpAny_bind (wpAny_rule (wpAny_bind (wpAny_updateDictKeys (hz:=by have e:=size_of_entries he;omega) (s:={s with toks:=s.toks+knd.draws k}) ho hd (wpAny_pure (h2 (by rw [hnone];rfl) _ ⟨_,_,ep+1,Heap.get?_update_self _ ho (Obj.isFreed_of_dict (Obj.data_mapDictKeys hd _)),
   hc.mapDictKeys _,Obj.data_mapDictKeys hd _,?_,?_,?_⟩ (Heap.SameBut.update ..))))))
  ·rw [storedH_new hnone]
   simp [he,entryOfKey]
  ·rw [storedH_new hnone]
   intro x hx
   rcases mem_append.mp hx with hx|hx
   ·exact knd.keeps (his x hx) ho hd (Heap.SameBut.update ..)
   ·simp only [mem_singleton] at hx
    subst hx
    exact knd.keeps hkey ho hd (Heap.SameBut.update ..)
  ·rw [storedH_new hnone]
   rw [map_append,nodup_append]
   refine ⟨hn,by simp,?_⟩
   intro x hx y hy
   simp only [map_cons,List.map_nil,mem_singleton] at hy
   subst hy
   exact fun e=>hnot (e▸hx)
 ·intro j p hj
  refine wpAny_bind (wpAny_dictEntries (s:={s with toks:=s.toks+knd.draws k}) ho hd ?_)
  rw [entry_at he j,hj]
  exact wpAny_bind (wpAny_rule (wpAny_pure (h1 _ (by rw [atKey_of_get hn hj];rfl))))
theorem zft (knd:HeapKind prog w K)(d a:Addr)(hd:(d==sysModules)=false)(dflt:Value):
  MeetsIn prog w (Builtin.«dict.setdefault» ⟨[.ref d,.ref a,dflt],[]⟩) (fun A R s=>knd.room A.in1/\∃k xs,knd.is s.heap k a/\s.heap.DictOfH knd d xs/\xs.length<=sizeLine/\
   (∀v,(atKey xs k).map (·.2)=some v->R (.ok (.ret v)) {s with toks:=s.toks+knd.draws k})/\
   ((atKey xs k).map (·.2)=none->∀h',h'.DictOfH knd d (storedH xs k a dflt)->Heap.SameBut d s.heap h'->R (.ok (.ret dflt)) {s with heap:=h',toks:=s.toks+knd.draws k})):=
 .of_wp fun A R s ⟨hu,k,xs,hkey,hm,hz,h1,h2⟩=>by
  unfold Builtin.«dict.setdefault»
  refine wpAny_bind ?_
  unfold Builtin.Dict.keyAndDefault
  refine wpAny_bind (wpAny_notOrdered_dict hm.typeIs ?_)
  show wpAny _ _ (pure (d,Value.ref a,some dflt)) _ _ s
  refine wpAny_pure ?_
  show wpAny _ _ (if (d==sysModules)=true then _ else (dictSetDefault d (.ref a) dflt>>=_)) _ _ s
  rw [if_neg (by rw [hd];exact Bool.false_ne_true)]
  exact wpAny_bind (zhs (hsz:=hz) hu hkey hm (fun v hv=>wpAny_pure ⟨v,rfl,h1 v hv⟩) fun hn h' hm' hs'=>wpAny_pure ⟨dflt,rfl,h2 hn h' hm' hs'⟩)
end
end PySem
namespace L2
open PySem PySem.Spec PyProof.Rows
def DSet (H:Hp)(a:Addr)(y z r:V)(H':Hp):Prop:=(DGet H a y (some r)/\H'=H/\∃o,H a=some o)\/(DGet H a y none/\r=z/\DPut H a y z H')
section
variable {X:Cx}{pins:List (Addr×Obj)}{σ:St}{H:Hp}{s:Shared}{a:Addr}{y z v:V}{u r:Value}{A:Around}{E:Value->Shared->Prop}
theorem zsm {H':Hp}{Q:Value->Shared->Prop}(hu:A.units+1<cLine)(I:Inv X pins σ H s)(g:DSet H a y z v H')(ry:RelV y u)(rz:RelV z r)(h:∀w' s',Inv X pins σ H' s'->RelV v w'->Q w' s'):
  wpAny (model X.prog X.w) A (call (.builtin "dict.setdefault") [.ref a,u,r]) Q E s:=by
 rcases g with ⟨g,rfl,ho⟩|⟨g,rfl,p⟩
 ·rcases g with ⟨kvs,k,e,ey,l⟩|⟨kvs,k,b,e,ey,eb,l⟩
  ·subst ey
   obtain ⟨zz,hd,vs,rel,dd⟩:=zlc I.hok e
   obtain ⟨w',hw,rw'⟩:=RelO.some_of (v:=v) (o:=valueAt vs k) (by rw [l];exact rel.val k)
   refine call_meetsIn PySem.F.slot_dict_setdefault dd.typeIs PySem.F.entry_dict_setdefault (PySem.F.args_dict_setdefault_3 _ _ _) (kt_meets_setdefault (zc9 X.prog X.w) a (zpn ry) hd r) ⟨vs,dd,by rw [<-rel.length];exact zz,fun v' hv'=>?_,fun hn=>by rw [hw] at hn;cases hn⟩
   rw [hw] at hv'
   cases hv'
   exact h _ _ (I.tok _) rw'
  ·subst ey
   cases (show u=Value.ref b from ry)
   obtain ⟨zz,hd,xs,rel,dd⟩:=zpx I.hok e
   obtain ⟨w',hw,rw'⟩:=RelO.some_of (v:=v) (o:=(atKey xs k).map (·.2)) (by rw [l];exact rel.val k)
   refine call_meetsIn PySem.F.slot_dict_setdefault dd.typeIs PySem.F.entry_dict_setdefault (PySem.F.args_dict_setdefault_3 _ _ _) (zft (tupleKind (zc9 X.prog X.w)) a b hd r) ⟨tupleKind_room_in1 hu,k,xs,zkl I.hok eb,dd,by rw [<-Paired.length rel];exact zz,fun v' hv'=>?_,fun hn=>by rw [hw] at hn;cases hn⟩
   rw [hw] at hv'
   cases hv'
   exact h _ _ (I.tok _) rw'
 ·rcases p with ⟨kvs,k,e,ey,l,eH⟩|⟨kvs,k,b,e,ey,eb,l,eH⟩
  ·subst ey eH
   obtain ⟨zz,hd,vs,rel,dd⟩:=dk_of I.hok e
   have hg:zeo kvs k=none:=by
    rcases g with ⟨kvs',k',e',ey',l'⟩|⟨kvs',k',b',e',ey',eb',l'⟩
    ·have e1:kV k=kV k':=ey'
     have:k=k':=by
      cases k<;>cases k'<;>simp [kV] at e1<;>rw [e1]
     subst this
     rcases e' with e'|e'
     ·rw [e] at e';cases e';exact l'.symm
     ·rw [e] at e';simp at e'
    ·cases k<;>cases ey'
   have hn:valueAt vs k=none:=RelO.none_of (by rw [<-hg];exact rel.val k)
   have hl:(zgs kvs k v).length<=sizeLine:=by have:=zeg kvs k v;omega
   refine call_meetsIn PySem.F.slot_dict_setdefault dd.typeIs PySem.F.entry_dict_setdefault (PySem.F.args_dict_setdefault_3 _ _ _) (kt_meets_setdefault (zc9 X.prog X.w) a (zpn ry) hd r) ⟨vs,dd,by rw [<-rel.length];exact zz,fun v' hv'=>(by rw [hn] at hv';cases hv'),fun _ h' dd' hs=>h _ _ ?_ rz⟩
   have he:∃q,h'.get? a=some q:=let ⟨q,_,_,hq,_⟩:=dd';⟨q,hq⟩
   exact zpy I (by rw [e];exact True.intro) hs he (zwf hl hd (rel.put k rz) dd')
  ·subst ey eH
   cases (show u=Value.ref b from ry)
   obtain ⟨zz,hd,xs,rel,dd⟩:=dt_of I.hok e
   have hg:zeo kvs k=none:=by
    rcases g with ⟨kvs',k',e',ey',l'⟩|⟨kvs',k',b',e',ey',eb',l'⟩
    ·cases k'<;>cases ey'
    ·cases ey'
     rw [eb] at eb'
     have e1:k.map kV=k'.map kV:=by injection eb' with e2;injection e2
     have inj:∀(p q:List Key),p.map kV=q.map kV->p=q:=by
      intro p
      induction p with
      |nil=>intro q h;cases q<;>first|rfl|cases h
      |cons c t ih=>
       intro q h
       cases q with
       |nil=>cases h
       |cons c' t'=>
        obtain ⟨h1,h2⟩:=List.cons.inj h
        have:c=c':=by cases c<;>cases c'<;>simp [kV] at h1<;>rw [h1]
        rw [this,ih t' h2]
     have:k=k':=inj _ _ e1
     subst this
     rcases e' with e'|e'
     ·rw [e] at e';cases e';exact l'.symm
     ·rw [e] at e';simp at e'
   have hn:(atKey xs k).map (·.2)=none:=RelO.none_of (by rw [<-hg];exact rel.val k)
   have hz:xs.length<=sizeLine:=by rw [<-Paired.length rel];exact zz
   have hl:(zgs kvs k v).length<=sizeLine:=by have:=zeg kvs k v;omega
   refine call_meetsIn PySem.F.slot_dict_setdefault dd.typeIs PySem.F.entry_dict_setdefault (PySem.F.args_dict_setdefault_3 _ _ _) (zft (tupleKind (zc9 X.prog X.w)) a b hd r) ⟨tupleKind_room_in1 hu,k,xs,zkl I.hok eb,dd,hz,fun v' hv'=>(by rw [hn] at hv';cases hv'),fun _ h' dd' hs=>h _ _ ?_ rz⟩
   obtain ⟨q,es,ep,hq,h2,h3,h4,_,h5⟩:=dd'
   refine zpy I (by rw [e];exact True.intro) hs ⟨q,hq⟩ ⟨hl,hd,_,(rel.put k eb rz).keeps fun c ys ec=>?_,q,es,ep,hq,h2,h3,h4,h5⟩
   rw [zal (ne_of ec e (fun z=>nomatch z))]
   exact ec
end
def tDSet (td ty tx:TE):TE:=fun σ H Q=>td σ H fun x H1=>∃a,x=.ref a/\IsD H1 a/\ty σ H1 fun y H2=>tx σ H2 fun z H3=>∃r H4,DSet H3 a y z r H4/\Q r H4
theorem pe_dset {X:Cx}{o e f:Expr}{apos cpos:Pos}{td ty tx:TE}(hu:X.A.units+1<cLine)(ho:PE X o td)(he:PE X e ty)(hf:PE X f tx)(m:M2 X o "setdefault" apos e f cpos):PE X (.Call (.Attribute o "setdefault" apos) [e,f] [] cpos) (tDSet td ty tx):=by
 intro pins s σ H Q I h
 refine wpAny_Call_method m.base m.few m.line PySem.F.plainAttrs_dict PySem.F.slot_dict_setdefault PySem.F.type_dict_setdefault (thn (ho pins s σ H _ I h) fun u s1 ⟨x,H1,I1,rx,a,ex,d,q1⟩=>?_)
 subst ex
 obtain rfl:u=Value.ref a:=rx
 obtain ⟨t1,t2,_⟩:=isD_at I1 d
 refine ⟨t1,t2,?_⟩
 rw [m.trees]
 refine Calls.callWith_builtin rfl (Calls.evalArgs_plain (Calls.spliced_cons (thn (he pins s1 σ H1 _ I1 q1) fun iv s2 ⟨y,H2,I2,ry,q2⟩=>
  Calls.spliced_cons (thn (hf pins s2 σ H2 _ I2 q2) fun fv s3 ⟨z,H3,I3,rz,r,H4,g,q3⟩=>Calls.spliced_nil ?_))))
 exact zsm hu I3 g ry rz fun w' s4 I4 rw'=>⟨r,H4,I4,rw',q3⟩
end L2
namespace FL
open PySem L2
def spR (R:List D->D->Prop):Sp:=fun vs H Q _=>∃M ds d,Live M H/\Reps (but H M) vs ds/\R ds d/\∀v H',Same H H'->Rep (but H' M) v d->Q v H'
theorem zba {R:List D->D->Prop}{E:XK}{G:Hp}{σ:St}{t:TA}{ds:List D}{d:D}(hf:R ds d)(h:EvA t G σ ds):EvM (zks (spR R) [] E t) G σ d:=
 fun M H s l Q k=>h M H s l _ fun vs H1 s1 rs=>⟨M,ds,d,l.same s1,by rw [append_nil];exact rs,hf,fun v H2 s2 r2=>k v H2 (s1.trans s2) r2⟩
theorem zdq {R:List D->D->Prop}{n:Nat}(hn:∀ds d,R ds d->ds.length=n):∀vs H Q E,spR R vs H Q E->vs.length=n:=fun vs H Q E ⟨M,ds,d,l,r,e,k⟩=>by rw [r.length];exact hn ds d e
theorem zct {α:Type}{h:α}{r:List α}:atI (h::r) 0=some h:=ze9 (by decide) rfl
def zht (d:D):Bool:=isI d&& !isB d
def thing (d:D):Bool:=isS d||zht d
def znz:D->Bool
 |.tup (h::r)=>isS h&&(h::r).all thing
 |_=>false
def RAt:List D->D->Prop:=fun ds d=>∃l k,ds=[.lst l,.int k]/\0<=k/\d=zus l k
def zom:List D->D->Prop:=fun ds d=>∃x,ds=[x]/\d=.bl (zht x)
def zuy:List D->D->Prop:=fun ds d=>∃x,ds=[x]/\d=.bl (znz x)
def zpk (ns:List Int):List Int:=(List.range ns.length).map fun (k:Nat)=>(ns.getD k 0+7919*(k:Int))*48271%1000003
def RMixed:List D->D->Prop:=fun ds d=>∃ns:List Int,ds=[.lst (ns.map D.int)]/\ns.length<=63/\d=.lst ((zpk ns).map D.int)
theorem mixed_len (ns:List Int):(zpk ns).length=ns.length:=by simp [zpk]
theorem zs9 {ns:List Int}{x:Int}(h:x∈zpk ns):0<=x:=by
 obtain ⟨k,_,rfl⟩:=mem_map.mp h
 exact Int.emod_nonneg _ (by decide)
theorem zv9 (ns:List Int)(k:Nat):RAt [.lst (ns.map D.int),.int (k:Int)] (.int (ns.getD k 0)):=⟨_,_,rfl,by omega,(cell_int ns k).symm⟩
theorem zvd {d:D}(h:d.sc=true):thing d=true:=by
 cases d with
 |int i=>rfl
 |str i=>rfl
 |_=>exact absurd h (by simp [D.sc])
theorem zol {l:List D}{n:Nat}(x:Int)(hn:0<n)(hl:l.length=n):∃d,atI l (x%(n:Int))=some d/\d∈l/\d=l.getD (x%(n:Int)).toNat .non:=by
 have h1:=Int.emod_nonneg x (show (n:Int)≠0 by omega)
 have h2:=Int.emod_lt_of_pos x (show (0:Int)<n by omega)
 have h3:(x%(n:Int)).toNat<l.length:=by omega
 refine ⟨l[(x%(n:Int)).toNat],ze9 h1 (getElem?_eq_getElem h3),getElem_mem h3,?_⟩
 simp [List.getD,getElem?_eq_getElem h3]
section
variable {σ:St}{δ:Dn}{d:D}{M:List Addr}{H:Hp}{ta te:TE}{t:TA}{E:zka}{ds:List D}{K:PySem.W.Frag}
theorem zh9 {i:Nat}(l:Live M H)(hE:EnvR (but H M) σ δ)(h:EvM ta (but H M) σ d)(k:∀σ' H',(∀j:Nat,j≠i->σ'[j]?=σ[j]?)->Same H H'->Live M H'->EnvR (but H' M) σ' (δ.set i (some d))->E.nx σ' H'):zqi ta (zdz i) E σ H:=
 h.at l fun v H' s r=>k _ H' (fun j hj=>getElem?_set_ne (Ne.symm hj)) s (l.same s) ((hE.same s).set i r)
theorem zxa {i:Nat}(l:Live M H)(hE:EnvR (but H M) σ δ)(hi:i<δ.length)(h:EvA t (but H M) σ ds)(hz:ds.length<=sizeLine)
  (k:∀p vs σ' H',(∀j:Nat,j≠i->σ'[j]?=σ[j]?)->σ'[i]?=some (some (.ref p))->p∉M->H' p=some (.lst vs)->Reps (but H' (p::M)) vs ds->Live (p::M) H'->(∀b o,H b=some o->b≠p/\H' b=some o)->EnvR (but H' (p::M)) σ' (δ.set i none)->E.nx σ' H'):zqi (tLst t) (zdz i) E σ H:=
 h M H (Same.refl _) l _ fun vs H1 s1 rs=>⟨by rw [rs.length];exact hz,fun p hp=>by
  have hl:=hE.len
  refine k p vs _ _ (fun j hj=>getElem?_set_ne (Ne.symm hj)) (getElem?_set_self (by omega)) ((l.same s1).fresh hp) zae (zji hp rs) ((l.same s1).upd.cons zae) (fun b o e=>?_) ?_
  ·have e1:=s1 b o e
   have nb:b≠p:=zax e1 hp
   exact ⟨nb,by rw [zal nb];exact e1⟩
  ·have h2:EnvR (but (upd H1 p (.lst vs)) (p::M)) σ δ:=⟨hE.len,fun j d q=>let ⟨v,a,b⟩:=(hE.same s1).get j d q;⟨v,a,zli hp b⟩⟩
   exact h2.off i _⟩
theorem s_copy {i k:Nat}{a:Addr}{vs:List V}(l:Live M H)(hE:EnvR (but H M) σ δ)(hi:i<δ.length)(e:σ[k]?=some (some (.ref a)))(ha:H a=some (.lst vs))(r:Reps (but H M) vs ds)
  (q:∀p σ' H',(∀j:Nat,j≠i->σ'[j]?=σ[j]?)->σ'[i]?=some (some (.ref p))->p∉M->H' p=some (.lst vs)->Reps (but H' (p::M)) vs ds->Live (p::M) H'->(∀b o,H b=some o->b≠p/\H' b=some o)->EnvR (but H' (p::M)) σ' (δ.set i none)->E.nx σ' H'):
  zqi (tCB (fun xs H Q=>∃p ys,xs=[.ref p]/\(SqL K H p ys\/SqT K H p ys)/\∀l,H l=none->Q (.ref l) (upd H l (.lst ys))) (zbp (zdk k) zev)) (zdz i) E σ H:=
 ⟨.ref a,e,a,vs,rfl,.inl (SqL.of ha),fun p hp=>by
  have hl:=hE.len
  refine q p _ _ (fun j hj=>getElem?_set_ne (Ne.symm hj)) (getElem?_set_self (by omega)) (l.fresh hp) zae (zji hp r) (l.upd.cons zae) (fun b o e=>?_) ?_
  ·have nb:b≠p:=zax e hp
   exact ⟨nb,by rw [zal nb];exact e⟩
  ·have h2:EnvR (but (upd H p (.lst vs)) (p::M)) σ δ:=⟨hE.len,fun j d q=>let ⟨v,a,b⟩:=hE.get j d q;⟨v,a,zli hp b⟩⟩
   exact h2.off i _⟩
theorem zxb {i:Nat}{a:Addr}{vs:List V}(l:Live M H)(hE:EnvR (but H M) σ δ)(ha':a∈M)(e:σ[i]?=some (some (.ref a)))(ha:H a=some (.lst vs))(r:Reps (but H M) vs ds)(hz:ds.length<sizeLine)(h:EvM te (but H M) σ d)
  (k:∀v H',(∀b o,b≠a->H b=some o->H' b=some o)->Live M H'->H' a=some (.lst (vs++[v]))->Reps (but H' M) (vs++[v]) (ds++[d])->EnvR (but H' M) σ δ->E.nx σ H'):zop (tBM K "list" zix (zdk i) (zbp te zev)) E σ H:=
 st_append l e ha (by rw [r.length];exact hz) h fun v H' s rv=>by
  have eb:but (upd H' a (.lst (vs++[v]))) M=but H' M:=zcy ha'
  refine k v _ (fun b o hb q=>by rw [zal hb];exact s b o q) (l.same s).upd zae ?_ ?_
  ·rw [eb];exact (r.mono (s.but M)).snoc rv
  ·rw [eb];exact hE.same s
theorem zfg {H H':Hp}{M:List Addr}{a:Addr}(ha:a∈M)(k:∀b o,b≠a->H b=some o->H' b=some o):Same (but H M) (but H' M):=fun b o e=>by
 obtain ⟨h1,h2⟩:=zac e
 rw [zat h1]
 exact k b o (fun z=>h1 (by rw [z];exact ha)) h2
theorem zod {x:V}{d1 d2:D}{i j:Nat}{Q:St->Hp->Prop}(rx:Rep (but H M) x (.tup [d1,d2]))(k:∀v1 v2,Rep (but H M) v1 d1->Rep (but H M) v2 d2->Q ((σ.set i (some v1)).set j (some v2)) H):gTup K 2 (zpq (zdz i) (zpq (zdz j) gNil)) x σ H Q:=by
 obtain ⟨a,vs,rfl,h1,h2⟩:=rx.of_tup
 obtain ⟨v1,v2,rfl,r1,r2⟩:=reps2 h2
 exact ⟨a,_,rfl,SqT.of (zac h1).2,rfl,v1,[v2],rfl,v2,[],rfl,rfl,k v1 v2 r1 r2⟩
end
def D.toV:D->V
 |.int i=>.int i
 |.str x=>.str x
 |.bl b=>.bl b
 |_=>.non
def D.key:D->Key
 |.int i=>.inl i
 |.str x=>.inr x
 |_=>.inl 0
theorem rep_toV {H:Hp}{d:D}(h:d.sc=true):Rep H d.toV d:=by
 cases d with
 |int i=>exact .int i
 |str x=>exact .str x
 |_=>exact absurd h (by simp [D.sc])
theorem zfs {H:Hp}{v:V}{d:D}(h:d.sc=true)(r:Rep H v d):v=d.toV/\v=kV d.key:=by
 cases r with
 |int i=>exact ⟨rfl,rfl⟩
 |str x=>exact ⟨rfl,rfl⟩
 |_=>exact absurd h (by simp [D.sc])
theorem zui {a b:D}(ha:a.sc=true)(hb:b.sc=true):a.key=b.key↔a=b:=by
 cases a with
 |int i=>cases b<;>first|(exfalso;simp [D.sc] at hb;done)|simp [D.key]
 |str i=>cases b<;>first|(exfalso;simp [D.sc] at hb;done)|simp [D.key]
 |_=>exact absurd ha (by simp [D.sc])
theorem zkd (j:Key):∀(kvs acc:List (Key×V)),zeo (zbk acc kvs) j=kvs.foldl (fun o p=>if j=p.1 then some p.2 else o) (zeo acc j)
 |[],acc=>rfl
 |p::r,acc=>by
  show zeo (zbk (zgs acc p.1 p.2) r) j=_
  rw [zkd j r,zoo]
  rfl
abbrev zan:=List (Str×D)
def zbj (ps:zan):List D:=ps.map fun p=>.tup [.str p.1,p.2]
def zbx (ps:zan):List (Key×V):=ps.map fun p=>(Sum.inr p.1,p.2.toV)
def zdh (ps:zan)(x:D):D:=ps.foldl (fun acc p=>if D.str p.1=x then p.2 else acc) x
theorem zjk {K:PySem.W.Frag}{H:Hp}{M:List Addr}:∀{ps:zan} {vs:List V},(∀p∈ps,p.2.sc=true)->Reps (but H M) vs (zbj ps)->zym K H vs (zbx ps)
 |[],_,_,.nil=>.nil
 |p::r,_,hs,.cons (v:=v) h t=>by
  obtain ⟨a,us,rfl,h1,h2⟩:=h.of_tup
  obtain ⟨v1,v2,rfl,r1,r2⟩:=reps2 h2
  refine .cons ⟨a,rfl,?_⟩ (zjk (fun q hq=>hs q (mem_cons_of_mem _ hq)) t)
  have e2:=(zfs (hs p mem_cons_self) r2).1
  have e1:=r1.of_str
  subst e1 e2
  exact SqT.of (zac h1).2
theorem zmb (x:D)(hx:x.sc=true):∀(ps:zan) (o:Option V) (acc:D),(∀p∈ps,p.2.sc=true)->o.getD x.toV=acc.toV->acc.sc=true->
  (((zbx ps).foldl (fun o p=>if x.key=p.1 then some p.2 else o) o).getD x.toV=(ps.foldl (fun acc p=>if D.str p.1=x then p.2 else acc) acc).toV/\(ps.foldl (fun acc p=>if D.str p.1=x then p.2 else acc) acc).sc=true)
 |[],o,acc,_,h,hs=>⟨h,hs⟩
 |p::r,o,acc,hp,h,hs=>by
  have hr:∀q∈r,q.2.sc=true:=fun q hq=>hp q (mem_cons_of_mem _ hq)
  show ((zbx r).foldl _ (if x.key=Sum.inr p.1 then some p.2.toV else o)).getD x.toV=(r.foldl _ (if D.str p.1=x then p.2 else acc)).toV/\_
  by_cases e:D.str p.1=x
  ·have e2:x.key=Sum.inr p.1:=by rw [<-e];rfl
   rw [if_pos e,if_pos e2]
   have:=zmb x hx r (some p.2.toV) p.2 hr rfl (hp p mem_cons_self)
   refine ⟨this.1,?_⟩
   show (r.foldl _ (if D.str p.1=x then p.2 else acc)).sc=true
   rw [if_pos e];exact this.2
  ·have e2:¬x.key=Sum.inr p.1:=fun z=>e ((zui (a:=D.str p.1) (b:=x) rfl hx).mp z.symm)
   rw [if_neg e,if_neg e2]
   have:=zmb x hx r o acc hr h hs
   refine ⟨this.1,?_⟩
   show (r.foldl _ (if D.str p.1=x then p.2 else acc)).sc=true
   rw [if_neg e];exact this.2
theorem zj9 {ps:zan}{x:D}(hx:x.sc=true)(hp:∀p∈ps,p.2.sc=true):(zeo (zbk [] (zbx ps)) x.key).getD x.toV=(zdh ps x).toV/\(zdh ps x).sc=true:=by
 rw [zkd]
 exact zmb x hx ps none x hp rfl hx
theorem ev_get2 {G:Hp}{σ:St}{i j:Nat}{a:Addr}{ps:zan}{x:D}(e:σ[i]?=some (some (.ref a)))(hG:G a=some (.dK (zbk [] (zbx ps))))(hx:x.sc=true)(hp:∀p∈ps,p.2.sc=true)(h:EvM (zdk j) G σ x):EvM (zqp (zdk i) (zdk j) (zdk j)) G σ (zdh ps x):=
 fun M H s l Q k=>by
  have ha:=(zac (s _ _ hG)).2
  refine ⟨.ref a,e,a,rfl,.inl ⟨_,.inl ha⟩,h M H s l _ fun y H1 s1 ry=>h M H1 (s.trans (s1.but M)) (l.same s1) _ fun z H2 s2 rz=>?_⟩
  obtain ⟨e1,e2⟩:=zfs hx ry
  obtain ⟨e3,_⟩:=zfs hx rz
  have ha2:=s2 _ _ (s1 _ _ ha)
  refine ⟨zeo (zbk [] (zbx ps)) x.key,?_,?_⟩
  ·rw [e2];exact DGet.k ha2
  ·rw [e3,(zj9 hx hp).1]
   exact k _ H2 (s1.trans s2) (rep_toV (zj9 hx hp).2)
end FL
namespace FL
open PySem L2
def D.name:D->Str
 |.str s=>s
 |_=>Str.empty
def zaq:D->Bool
 |.str s=>Txt.isupper ⟨#[s.cps.getD 0 0]⟩
 |_=>false
def zpp (F:zan)(x:D):Bool:=F.any fun p=>decide (D.str p.1=x)
def zin (F:zan)(x y:D):Option zan:=if (zaq x&& !zpp F x)=true then some (F++[(x.name,y)]) else if zdh F x=y then some F else none
def ztd:zan->List (D×D)->Option zan
 |F,[]=>some F
 |F,p::r=>(zin F p.1 p.2).bind fun F'=>ztd F' r
theorem hasN_iff {F:zan}{s:Str}:zpp F (.str s)=true↔s∈F.map (·.1):=by
 unfold zpp
 rw [any_eq_true]
 constructor
 ·rintro ⟨p,hp,e⟩
  have:=of_decide_eq_true e
  injection this with this
  exact mem_map.mpr ⟨p,hp,this⟩
 ·intro h
  obtain ⟨p,hp,e⟩:=mem_map.mp h
  exact ⟨p,hp,decide_eq_true (by rw [e])⟩
def Cons (P:zan):Prop:=∀p∈P,∀q∈P,p.1=q.1->p.2=q.2
theorem look_mem {F:zan}(hc:Cons F){p:Str×D}(hp:p∈F):zdh F (.str p.1)=p.2:=by
 have key:∀(Q:zan) (acc:D),(∀q∈Q,q∈F)->(acc=p.2\/p∈Q)->Q.foldl (fun acc q=>if D.str q.1=D.str p.1 then q.2 else acc) acc=p.2:=by
  intro Q
  induction Q with
  |nil=>intro acc _ h;rcases h with h|h;exact h;cases h
  |cons q r ih=>
   intro acc hq h
   show r.foldl _ (if D.str q.1=D.str p.1 then q.2 else acc)=p.2
   refine ih _ (fun t ht=>hq t (mem_cons_of_mem _ ht)) ?_
   by_cases e:D.str q.1=D.str p.1
   ·rw [if_pos e]
    injection e with e
    exact .inl (hc q (hq q mem_cons_self) p hp e)
   ·rw [if_neg e]
    rcases h with h|h
    ·exact .inl h
    ·rcases mem_cons.mp h with rfl|h
     ·exact absurd rfl e
     ·exact .inr h
 exact key F _ (fun q h=>h) (.inr hp)
theorem zia {F:zan}{x:D}(h:zpp F x=false):zdh F x=x:=by
 have key:∀(Q:zan) (acc:D),zpp Q x=false->Q.foldl (fun acc q=>if D.str q.1=x then q.2 else acc) acc=acc:=by
  intro Q
  induction Q with
  |nil=>intro acc _;rfl
  |cons q r ih=>
   intro acc hq
   have hq':(decide (D.str q.1=x)||zpp r x)=false:=hq
   rw [Bool.or_eq_false_iff] at hq'
   show r.foldl _ (if D.str q.1=x then q.2 else acc)=acc
   rw [if_neg (of_decide_eq_false hq'.1)]
   exact ih acc hq'.2
 exact key F x h
end FL
namespace FL
open PySem L2
section
variable {X:Cx}{a:Expr}{ta:TE}{apos cpos:Pos}
def rUp:V->List V->Hp->VK->Prop:=fun x xs H Q=>∃z,x=.str z/\xs=[]/\Q (.bl (Txt.isupper z)) H
theorem zxi:MtR X "str.isupper" rUp:=by
 intro pins s σ H x xs v us Q I rx rv h
 obtain ⟨z,rfl,rfl,q⟩:=h
 obtain ⟨t,rfl⟩:=rx
 cases rv
 exact SC.isupper ⟨.bl _,H,I,rfl,q⟩
theorem pe_upper (h:PE X a ta)(hbase:attributeBase a "isupper" X.env (eval a X.env)=eval a X.env:=by rfl)(hline:(apos.endLine==cpos.line)=true:=by rfl):PE X (.Call (.Attribute a "isupper" apos) [] [] cpos) (tBM0 X.K "str" rUp ta):=
 pe_bm0 PySem.F.plainAttrs_str PySem.F.slot_str_isupper PySem.F.type_str_isupper zxi h hbase hline
end
section
variable {G:Hp}{σ:St}{ta tb te:TE}{d:D}{K:PySem.W.Frag}
theorem ev_upper {x:Str}(h:EvM ta G σ (.str x)):EvM (tBM0 K "str" rUp ta) G σ (.bl (Txt.isupper x)):=
 fun M H s l Q k=>h M H s l _ fun v H1 s1 r1=>by
  rw [r1.of_str]
  exact ⟨rfl,x,rfl,rfl,k _ H1 s1 (.bl _)⟩
theorem ev_ixs {x:Str}{i:Int}{c:Nat}(hz:x.length<=sizeLine)(hc:atI x.cps.toList i=some c)(ha:EvM ta G σ (.str x))(hb:EvM tb G σ (.int i)):EvM (tOp (rIx K) ta tb) G σ (.str ⟨#[c]⟩):=
 ziu (fun M H v y l rv ry Q k=>.inr (.inr ⟨x,i,c,rv.of_str,ry.of_int,hz,hc,k _ H (Same.refl _) (.str _)⟩)) ha hb
theorem isN_of {H:Hp}{v:V}{d:D}(r:Rep H v d):decide (v=.non)=decide (d=.non):=by cases r<;>simp
end
def TV (tt:TT)(σ:St)(H:Hp)(b:Bool):Prop:=∀H1,Same H H1->∀Q:Bool->Hp->Prop,(∀H',Same H1 H'->Q b H')->tt σ H1 Q
section
variable {σ:St}{δ:Dn}{M:List Addr}{H:Hp}{tt tu:TT}{ta ty te:TE}{E:zka}{b c:Bool}{d:D}{K:PySem.W.Frag}
theorem TV.of (l:Live M H)(h:EvT tt (but H M) σ b):TV tt σ H b:=fun H1 s1 Q k=>h M H1 (s1.but M) (l.same s1) Q k
theorem tv_and (h:TV tt σ H b)(h2:b=true->TV tu σ H c):TV (tAnd tt tu) σ H (b&&c):=fun H1 s1 Q k=>h H1 s1 _ fun H2 s2=>by
 cases b with
 |true=>rw [if_pos rfl];exact h2 rfl H2 (s1.trans s2) _ fun H3 s3=>k H3 (s2.trans s3)
 |false=>rw [if_neg Bool.false_ne_true];exact k H2 s2
theorem s_ifV {ts us:TS}(l:Live M H)(hE:EnvR (but H M) σ δ)(h:TV tt σ H b)(k1:b=true->∀H',Same H H'->Live M H'->EnvR (but H' M) σ δ->ts E σ H')(k2:b=false->∀H',Same H H'->Live M H'->EnvR (but H' M) σ δ->us E σ H'):tIfS tt ts us E σ H:=
 h H (Same.refl _) _ fun H' s=>by
  cases b with
  |true=>rw [if_pos rfl];exact k1 rfl H' s (l.same s) (hE.same s)
  |false=>rw [if_neg Bool.false_ne_true];exact k2 rfl H' s (l.same s) (hE.same s)
theorem zxk (F:zan)(n:Str)(y:D):zbk [] (zbx (F++[(n,y)]))=zgs (zbk [] (zbx F)) (Sum.inr n) y.toV:=by
 simp [zbk,zbx,foldl_append]
theorem has_val {F:zan}{x:D}(hx:x.sc=true):(zeo (zbk [] (zbx F)) x.key).isSome=zpp F x:=by
 rw [zkd]
 have key:∀(Q:zan) (o:Option V),((zbx Q).foldl (fun o p=>if x.key=p.1 then some p.2 else o) o).isSome=(o.isSome||zpp Q x):=by
  intro Q
  induction Q with
  |nil=>intro o;simp [zbx,zpp]
  |cons p r ih=>
   intro o
   show ((zbx r).foldl _ (if x.key=Sum.inr p.1 then some p.2.toV else o)).isSome=_
   rw [ih]
   show _=(o.isSome||(decide (D.str p.1=x)||zpp r x))
   by_cases e:D.str p.1=x
   ·have e2:x.key=Sum.inr p.1:=by rw [<-e];rfl
    rw [if_pos e2,decide_eq_true e]
    simp
   ·have e2:¬x.key=Sum.inr p.1:=fun z=>e ((zui (a:=D.str p.1) (b:=x) rfl hx).mp z.symm)
    rw [if_neg e2,decide_eq_false e]
    simp
 have:=key F none
 simpa [zeo] using this
theorem tv_notin {i:Nat}{p:Addr}{F:zan}{x:D}(e:σ[i]?=some (some (.ref p)))(hp:H p=some (.dK (zbk [] (zbx F))))(hx:x.sc=true)(l:Live M H)(h:EvM ty (but H M) σ x):TV (tB (ztg ty (zdk i))) σ H (!zpp F x):=
 fun H1 s1 Q k=>h M H1 (s1.but M) (l.same s1) _ fun y H2 s2 ry=>⟨.ref p,e,p,zeo (zbk [] (zbx F)) x.key,rfl,by rw [(zfs hx ry).2];exact DGet.k (s2 _ _ (s1 _ _ hp)),_,rfl,by rw [has_val hx];exact k H2 s2⟩
theorem tv_getne {i j m:Nat}{p:Addr}{F:zan}{x y:D}(e:σ[i]?=some (some (.ref p)))(hp:H p=some (.dK (zbk [] (zbx F))))(hx:x.sc=true)(hy:y.sc=true)(hF:∀q∈F,q.2.sc=true)(l:Live M H)(h:EvM (zdk j) (but H M) σ x)(h2:EvM (zdk m) (but H M) σ y):
  TV (zww (tOp (fun x y H Q=>rNeD x y H Q\/rNe x y H Q) (zqp (zdk i) (zdk j) (zdk j)) (zdk m))) σ H (!decide (zdh F x=y)):=
 fun H1 s1 Q k=>by
  have hp1:=s1 _ _ hp
  refine ⟨.ref p,e,p,rfl,.inl ⟨_,.inl hp1⟩,h M H1 (s1.but M) (l.same s1) _ fun v H2 s2 rv=>h M H2 ((s1.trans s2).but M) (l.same (s1.trans s2)) _ fun z H3 s3 rz=>?_⟩
  obtain ⟨e1,e2⟩:=zfs hx rv
  obtain ⟨e3,_⟩:=zfs hx rz
  refine ⟨zeo (zbk [] (zbx F)) x.key,by rw [e2];exact DGet.k (s3 _ _ (s2 _ _ hp1)),?_⟩
  rw [e3,(zj9 hx hF).1]
  refine h2 M H3 ((s1.trans (s2.trans s3)).but M) (l.same (s1.trans (s2.trans s3))) _ fun u H4 s4 ru=>?_
  have hl:=(zj9 (ps:=F) hx hF).2
  have hcm:=zfe hl hy
  exact .inl ⟨zdh F x,y,⟨M,rep_toV hl,ru,hcm.1,hcm.2⟩,_,rfl,k H4 (s2.trans (s3.trans s4))⟩
end
end FL
namespace FL
open PySem L2
theorem zcs {H0 H H':Hp}{a:Addr}(s:Same H0 H)(h:H0 a=none)(k:∀b o,b≠a->H b=some o->H' b=some o):Same H0 H':=fun b o e=>k b o (fun z=>by rw [z,h] at e;cases e) (s b o e)
theorem none_of {H0 H:Hp}{p:Addr}{H':Hp}(s:Same H0 H)(k:∀b o,H b=some o->b≠p/\H' b=some o):H0 p=none:=by
 cases e:H0 p with
 |none=>rfl
 |some o=>exact absurd rfl (k p o (s p o e)).1
theorem zxd (ps:zan)(n:Str)(t:D):zbj (ps++[(n,t)])=zbj ps++[.tup [.str n,t]]:=by simp [zbj]
theorem pairD_at {ps:zan}{j:Nat}{d:D}(h:(zbj ps)[j]?=some d):∃p,ps[j]?=some p/\d=.tup [.str p.1,p.2]:=by
 unfold zbj at h
 rw [getElem?_map] at h
 cases e:ps[j]? with
 |none=>rw [e] at h;cases h
 |some y=>rw [e] at h;exact ⟨y,rfl,(Option.some.inj h).symm⟩
theorem ztm {ps:zan}{n:Str}{t:D}(h:∀p∈ps,p.2.sc=true)(ht:t.sc=true):∀p∈ps++[(n,t)],p.2.sc=true:=fun p hp=>by
 rcases mem_append.mp hp with q|q
 ·exact h p q
 ·rw [mem_singleton.mp q];exact ht
section
variable {σ:St}{δ:Dn}{M:List Addr}{H:Hp}{tt tu:TT}{ta ty tz te:TE}{E:zka}{b c:Bool}{d:D}{ds:List D}{K:PySem.W.Frag}
theorem zpw {i:Nat}{p:Addr}{o:HO}(hE:EnvR (but H M) σ δ)(hp:H p=none):EnvR (but (upd H p o) (p::M)) (σ.set i (some (.ref p))) (δ.set i none):=by
 have h2:EnvR (but (upd H p o) (p::M)) σ δ:=⟨hE.len,fun j d q=>let ⟨v,a,b⟩:=hE.get j d q;⟨v,a,zli hp b⟩⟩
 exact h2.off i _
theorem s_dict {i k:Nat}{ps:zan}(l:Live M H)(hE:EnvR (but H M) σ δ)(hi:i<δ.length)(hk:δ[k]?=some (some (.lst (zbj ps))))(hs:∀p∈ps,p.2.sc=true)
  (q:∀p σ' H',(∀j:Nat,j≠i->σ'[j]?=σ[j]?)->σ'[i]?=some (some (.ref p))->p∉M->H' p=some (.dK (zbk [] (zbx ps)))->Live (p::M) H'->(∀b o,H b=some o->b≠p/\H' b=some o)->EnvR (but H' (p::M)) σ' (δ.set i none)->E.nx σ' H'):
  zqi (tCB (fun xs H Q=>∃a vs kvs,xs=[.ref a]/\SqL K H a vs/\zym K H vs kvs/\∀p,H p=none->Q (.ref p) (upd H p (.dK (zbk [] kvs)))) (zbp (zdk k) zev)) (zdz i) E σ H:=by
 obtain ⟨v,hv,rv⟩:=hE.get k _ hk
 obtain ⟨a,us,rfl,h1,h2⟩:=rv.of_lst
 refine ⟨.ref a,hv,a,us,zbx ps,rfl,SqL.of (zac h1).2,zjk hs h2,fun p hp=>?_⟩
 have hl:=hE.len
 refine q p _ _ (fun j hj=>getElem?_set_ne (Ne.symm hj)) (getElem?_set_self (by omega)) (l.fresh hp) zae (l.upd.cons zae) (fun b o e=>?_) (zpw hE hp)
 have nb:b≠p:=zax e hp
 exact ⟨nb,by rw [zal nb];exact e⟩
theorem s_copyS {i k:Nat}(l:Live M H)(hE:EnvR (but H M) σ δ)(hi:i<δ.length)(hk:δ[k]?=some (some (.lst ds)))
  (q:∀p vs σ' H',(∀j:Nat,j≠i->σ'[j]?=σ[j]?)->σ'[i]?=some (some (.ref p))->p∉M->H' p=some (.lst vs)->Reps (but H' (p::M)) vs ds->Live (p::M) H'->(∀b o,H b=some o->b≠p/\H' b=some o)->EnvR (but H' (p::M)) σ' (δ.set i none)->E.nx σ' H'):
  zqi (tCB (fun xs H Q=>∃p ys,xs=[.ref p]/\(SqL K H p ys\/SqT K H p ys)/\∀l,H l=none->Q (.ref l) (upd H l (.lst ys))) (zbp (zdk k) zev)) (zdz i) E σ H:=by
 obtain ⟨v,hv,rv⟩:=hE.get k _ hk
 obtain ⟨a,us,rfl,h1,h2⟩:=rv.of_lst
 exact s_copy l hE hi hv (zac h1).2 h2 fun p σ' H' a b c d e f g h=>q p us σ' H' a b c d e f g h
theorem s_dputE {i:Nat}{p:Addr}{F:zan}{n:Str}{y:D}(l:Live M H)(hE:EnvR (but H M) σ δ)(hpM:p∈M)(e:σ[i]?=some (some (.ref p)))(hp:H p=some (.dK (zbk [] (zbx F))))(hy:y.sc=true)(hz:F.length<1000)(h:EvM ty (but H M) σ (.str n))(h2:EvM tz (but H M) σ y)
  (k:∀H',(∀b o,b≠p->H b=some o->H' b=some o)->Live M H'->H' p=some (.dK (zbk [] (zbx (F++[(n,y)]))))->EnvR (but H' M) σ δ->E.nx σ H'):sDPut (zdk i) ty tz E σ H:=by
 refine h2 M H (Same.refl _) l _ fun v H1 s1 rv=>⟨.ref p,e,h M H1 (s1.but M) (l.same s1) _ fun u H2 s2 ru=>?_⟩
 have hp2:=s2 _ _ (s1 _ _ hp)
 have eu:=(zfs (d:=.str n) rfl ru).2
 have ev:=(zfs hy rv).1
 have hlen:(zbk [] (zbx F)).length<sizeLine:=by
  have:=zhj (zbx F) []
  simp only [zbx,length_map,length_nil,Nat.zero_add] at this
  exact zar (by unfold zbx;omega)
 refine ⟨p,_,rfl,by rw [eu];exact DPut.k (k:=Sum.inr n) hp2 hlen,?_⟩
 have eb:but (upd H2 p (.dK (zgs (zbk [] (zbx F)) (Sum.inr n) v))) M=but H2 M:=zcy hpM
 refine k _ (fun b o hb q=>by rw [zal hb];exact s2 _ _ (s1 _ _ q)) (l.same (s1.trans s2)).upd ?_ ?_
 ·rw [zae,ev]
  show some (HO.dK (zgs _ _ _))=some (HO.dK (zbk [] (zbx (F++[(n,y)]))))
  rw [zxk]
 ·rw [eb];exact hE.same (s1.trans s2)
theorem tv_ninH {i:Nat}{a:Addr}{vs:List V}{es:List D}(hM:a∉M)(e:σ[i]?=some (some (.ref a)))(ha:H a=some (.lst vs))(r:Reps (but H (a::M)) vs es)(l:Live (a::M) H)(hall:∀e∈es,zgw e d=true/\e.dep<=40)(h:EvM ty (but H (a::M)) σ d):TV (zww (tOp (rInD true) ty (zdk i))) σ H (!decide (d∈es)):=
 fun H1 s1 Q k=>h (a::M) H1 (s1.but _) (l.same s1) _ fun x H2 s2 rx=>⟨.ref a,e,M,d,es,rx.mono (zcj fun b hb=>mem_cons_of_mem _ hb),.inl (zep hM (s2 _ _ (s1 _ _ ha)) (r.mono ((s1.trans s2).but _))),hall,_,rfl,k H2 s2⟩
end
end FL
namespace L2
open PySem PySem.Spec PyProof.Rows
section
variable {X:Cx}
theorem kV_of {P:Program}{w:World}{k:Key}{u:Value}(h:(zc9 P w).is k u=true):RelV (kV k) u:=by
 rw [zxj] at h
 rcases zcx h with ⟨i,t,rfl,rfl⟩|⟨x,t,rfl,rfl⟩
 ·exact ⟨t,rfl⟩
 ·exact ⟨t,rfl⟩
theorem znj (hc:X.calm=true):zmy X (.type "list") (fun xs H Q=>∃a kvs,xs=[.ref a]/\Rd H a (.dK kvs)/\∀l,H l=none->Q (.ref l) (upd H l (.lst (kvs.map fun kv=>kV kv.1)))):=by
 intro pins s σ H xs us Q I r h
 obtain ⟨a,kvs,rfl,e,q⟩:=h
 obtain ⟨u,rfl,rx⟩:=zkc r
 cases rx
 obtain ⟨z,hd,vs,rel,dd⟩:=zlc I.hok e
 obtain ⟨ep,hat⟩:=dd.dictAt
 have hl:=rel.length
 refine PySem.W.kdl_call (PySem.W.kdl_dict (knd:=zc9 X.prog X.w) (kvs:=vs) (ep:=ep) hd) (I.ok.hd hc) hat (by rw [<-hl];exact z) fun h' tk acc' c' hk hS hacc=>?_
 have rv:Vals (kvs.map fun kv=>kV kv.1) acc'.toList:=by
  have key:∀(ks:List (Key×V)) (ws:List (Key×Value)) (as:List Value),KV ks ws->as.length=ws.length->(∀(j:Nat) v,as[j]?=some v->∃k x,ws[j]?=some (k,x)/\(zc9 X.prog X.w).is k v=true)->Vals (ks.map fun kv=>kV kv.1) as:=by
   intro ks ws as rk
   induction rk generalizing as with
   |nil=>intro hl _;cases as with
    |nil=>exact .nil
    |cons _ _=>cases hl
   |@cons p q ps qs hpq t ih=>
    intro hl hv
    cases as with
    |nil=>cases hl
    |cons v as=>
     obtain ⟨k,x,h1,h2⟩:=hv 0 v rfl
     have h1:q=(k,x):=Option.some.inj h1
     refine .cons ?_ (ih as (Nat.succ.inj hl) fun j u hu=>hv (j+1) u hu)
     have e1:p.1=k:=by rw [hpq.1,h1]
     show RelV (kV p.1) v
     rw [e1]
     exact kV_of h2
  exact key kvs vs acc'.toList rel (by rw [Array.length_toList];exact hacc.1) fun j v hv=>hacc.2 j v (by rw [<-Array.getElem?_toList];exact hv)
 exact ⟨.ref s.heap.objs.size,_,I.laid (t':=tk) hk (Nat.le_refl _) (show ObjOk X.prog X.w _ h' _ (.lst (kvs.map fun kv=>kV kv.1)) from ⟨by rw [length_map];exact z,acc'.toList,c',rv,by rw [Array.toArray_toList];exact hS⟩),rfl,q _ (I.hok.fresh (Nat.le_refl _))⟩
theorem zq9 (hc:X.calm=true):zmy X (.builtin "all") (fun xs H Q=>∃(a:Addr) (bs:List Bool),xs=[.ref a]/\SqL X.K H a (bs.map V.bl)/\Q (.bl (bs.all id)) H):=by
 intro pins s σ H xs us Q I r h
 obtain ⟨a,bs,rfl,hq,q⟩:=h
 obtain ⟨u,rfl,rx⟩:=zkc r
 cases rx
 obtain ⟨its,rv,p,hz⟩:=I.list hq
 refine call_all_walk (wpAny_pyIter_list p.isList ?_)
 have hne:a≠s.heap.objs.size:=by
  obtain ⟨o,ho,_⟩:=p.isList
  exact Nat.ne_of_lt (Heap.lt_size ho)
 have hlen:its.length=bs.length:=by have:=rv.length;rw [length_map] at this;exact this.symm
 refine ⟨s.heap.objs.size,_,_,its.toArray.size,_,_,fun i=>bs.getD i true,rfl,Walks.list (A:=X.A.in1) (prog:=X.prog) (w:=X.w) (show X.A.in1.handled=none from I.ok.hd hc) s.heap.objs.size a hne its.toArray,⟨⟨_,Heap.get?_push_size _ rfl,rfl,rfl⟩,p.isList.push _⟩,fun i v s' Q' E' hv hQ'=>?_,fun h' tk hk=>?_⟩
 ·have hv:its[i]?=some v:=by simpa using hv
  have hi:i<its.length:=(List.getElem?_eq_some_iff.mp hv).1
  have hb:(bs.map V.bl)[i]?=some (.bl (bs.getD i true)):=by
   rw [getElem?_map,getElem?_eq_getElem (by omega),List.getD,getElem?_eq_getElem (by omega)]
   rfl
  obtain ⟨w',hw,rw'⟩:=rv.get hb
  rw [hv] at hw
  cases hw
  obtain rfl:v=Value.bool (bs.getD i true):=rw'
  exact wpAny_truthy_bool hQ'
 ·have e:(List.range its.toArray.size).all (fun i=>bs.getD i true)=bs.all id:=by
   rw [List.size_toArray,hlen]
   clear hlen rv hz hq q
   induction bs with
   |nil=>rfl
   |cons b r ih=>
    rw [length_cons,List.range_succ_eq_map,all_cons,List.all_map]
    show (b&&(List.range r.length).all fun i=>r.getD i true)=(b&&r.all id)
    rw [ih]
  refine ⟨.bl (bs.all id),H,I.kept (t':=tk) (fun b o e'=>hk b o (fun z=>?_) (Heap.get?_push_of_some _ e')),congrArg Value.bool e,q⟩
  have:b=s.heap.objs.size:=by simpa using z
  exact absurd (Heap.lt_size e') (by rw [this];exact Nat.lt_irrefl _)
theorem zqk:∀{xs:List V} {us:List Value},Vals xs us->∀n,Vals (xs.take n) (us.take n)
 |_,_,.nil,n=>by rw [List.take_nil,List.take_nil];exact .nil
 |_,_,.cons h t,0=>.nil
 |_,_,.cons h t,n+1=>.cons h (zqk t n)
theorem zqm:∀{xs:List V} {us:List Value},Vals xs us->∀n,Vals (xs.drop n) (us.drop n)
 |_,_,.nil,n=>by rw [List.drop_nil,List.drop_nil];exact .nil
 |_,_,.cons h t,0=>.cons h t
 |_,_,.cons h t,n+1=>zqm t n
def rInsert:V->List V->Hp->VK->Prop:=fun x vs H Q=>∃l xs i y,x=.ref l/\vs=[.int i,y]/\0<=i/\i<1000/\H l=some (.lst xs)/\xs.length<sizeLine/\Q .non (upd H l (.lst (xs.take i.toNat++y::xs.drop i.toNat)))
theorem zry:MtM X "list.insert" rInsert:=by
 intro pins s σ H x vs v us Q I rx rv h
 obtain ⟨l,xs,i,y,rfl,rfl,h0,h1,hH,hz,q⟩:=h
 cases rx
 obtain ⟨u1,u2,rfl,⟨t,rfl⟩,ru⟩:=vals2 rv
 obtain ⟨z,its,n,r,hl,e⟩:=I.lstM hH
 have hfit:¬(!Builtin.List.listFitsIndex i)=true:=by
  simp [Builtin.List.listFitsIndex]
  omega
 refine call_meets F.slot_list_insert ⟨_,e,rfl⟩ F.entry_list_insert (F.args_list_insert_3 _ _ _) (AutoListH.list_insert_list_int_val_1 l its.toArray n i t u2 hfit (by rw [List.size_toArray];omega)) ⟨e,?_⟩
 refine ⟨.non,_,I.lset (its':=its.take i.toNat++u2::its.drop i.toNat) hH e ?_ ?_ ?_,rfl,q⟩
 ·show ((its.toArray.extract 0 (if i<0 then (i+((its.toArray.size:Nat):Int)).toNat else min i.toNat its.toArray.size)).push u2++its.toArray.extract (if i<0 then (i+((its.toArray.size:Nat):Int)).toNat else min i.toNat its.toArray.size))=_
  rw [if_neg (by omega)]
  apply Array.ext'
  rw [Array.toList_append,Array.toList_push,Array.toList_extract,Array.toList_extract,List.size_toArray,append_assoc]
  show List.extract its 0 (min i.toNat its.length)++([u2]++List.extract its (min i.toNat its.length) its.length)=its.take i.toNat++u2::its.drop i.toNat
  unfold List.extract
  rw [List.drop_zero,Nat.sub_zero]
  by_cases h:i.toNat<=its.length
  ·rw [Nat.min_eq_left h,take_of_length_le (l:=List.drop i.toNat its) (by rw [List.length_drop];exact Nat.le_refl _)]
   rfl
  ·have h':its.length<=i.toNat:=by omega
   rw [Nat.min_eq_right h',List.drop_eq_nil_of_le h',List.drop_eq_nil_of_le (Nat.le_refl _),take_of_length_le (Nat.le_refl _),take_of_length_le h',List.take_nil]
   rfl
 ·exact (zqk r _).append (.cons ru (zqm r _))
 ·rw [length_append,length_cons,length_take,List.length_drop]
  omega
end
end L2
namespace L2
open PySem PySem.Spec PyProof.Rows
section
variable {X:Cx}
def rCatA (K:PySem.W.Frag):R2:=fun x y H Q=>∃a b xs ys,x=.ref a/\y=.ref b/\SqT K H a xs/\SqT K H b ys/\xs.length+ys.length<=sizeLine/\
 (xs=[]->Q (.ref b) H)/\(xs≠[]->ys=[]->Q (.ref a) H)/\(xs≠[]->ys≠[]->∀p,H p=none->Q (.ref p) (upd H p (.tup (xs++ys))))
theorem op_catA:OpR X (binaryOp .Add) (rCatA X.K):=by
 intro pins s σ H x y v u Q I rx ry h
 obtain ⟨a,b,xs,ys,rfl,rfl,ha,hb,hz,q0,q1,q2⟩:=h
 by_cases hx:xs=[]
 ·cases rx
  cases ry
  obtain ⟨its,r1,p1,_⟩:=I.tuple ha
  obtain ⟨its2,r2,p2,_⟩:=I.tuple hb
  have hi:its=[]:=r1.nil_iff.mpr hx
  obtain ⟨⟨cls,dd,data,sl⟩,ho,hc,n,hd⟩:=id p1
  obtain ⟨⟨cls2,dd2,data2,sl2⟩,ho2,hc2,n2,hd2⟩:=id p2
  simp only at hc hd hc2 hd2
  subst hc hd hc2 hd2
  exact concat_meets ⟨_,ho,rfl⟩ ⟨_,ho2,rfl⟩ noFill_tuple_add seq_tuple_add PySem.F.slot_tuple_add PySem.F.entry_tuple_add (PySem.F.args_tuple_add_2 _ _)
   (tuple_addW0 a b its.toArray its2.toArray n n2 dd dd2 sl sl2 (by simp [hi])) ⟨ho,ho2,⟨.ref b,H,I,rfl,q0 hx⟩⟩
 ·exact op_catT pins s σ H _ _ v u Q I rx ry ⟨a,b,xs,ys,rfl,rfl,ha,hb,hx,hz,q1 hx,q2 hx⟩
end
end L2
namespace FL
open PySem L2
section
variable {G:Hp}{σ:St}{ta tb:TE}{K:PySem.W.Frag}{xs ys:List D}
theorem ev_catT (hz:xs.length+ys.length<=1000)(ha:EvM ta G σ (.tup xs))(hb:EvM tb G σ (.tup ys)):EvM (tOp (rCatA K) ta tb) G σ (.tup (xs++ys)):=
 ziu (fun M H v y l rv ry Q k=>by
  obtain ⟨a,vs,rfl,h1,h2⟩:=rv.of_tup
  obtain ⟨b,ws,rfl,h3,h4⟩:=ry.of_tup
  have l1:=h2.length
  have l2:=h4.length
  refine ⟨a,b,vs,ws,rfl,rfl,SqT.of (zac h1).2,SqT.of (zac h3).2,Nat.le_of_lt (zar (by omega)),fun e=>?_,fun e e2=>?_,fun e e2 p hp=>?_⟩
  ·have:xs=[]:=List.eq_nil_of_length_eq_zero (by rw [<-l1,e];rfl)
   rw [this,nil_append] at k
   exact k _ H (Same.refl _) (.tup h3 h4)
  ·have:ys=[]:=List.eq_nil_of_length_eq_zero (by rw [<-l2,e2];rfl)
   rw [this,append_nil] at k
   exact k _ H (Same.refl _) (.tup h1 h2)
  ·exact k _ _ (zbm hp _) (zey l hp (h2.append h4))) ha hb
theorem zmk (hz:xs.length+ys.length<=1000)(ha:EvM ta G σ (.lst xs))(hb:EvM tb G σ (.lst ys)):EvM (tOp rCat ta tb) G σ (.lst (xs++ys)):=
 ziu (fun M H v y l rv ry Q k=>by
  obtain ⟨a,vs,rfl,h1,h2⟩:=rv.of_lst
  obtain ⟨b,ws,rfl,h3,h4⟩:=ry.of_lst
  have l1:=h2.length
  have l2:=h4.length
  exact ⟨a,b,vs,ws,rfl,rfl,(zac h1).2,(zac h3).2,Nat.le_of_lt (zar (by omega)),fun p hp=>k _ _ (zbm hp _) (zg9 l hp (h2.append h4))⟩) ha hb
end
section
variable {X:Cx}{N':List Str}{scope:Scope}{cl:List (Str×Addr)}{C:Addr}{fp:List Addr}{s:Shared}{H:Hp}
theorem zfn {n:Nat}{x:Str}{ps:List Str}{sp:Sp}{e:Expr}{es:List Expr}{t:TA}{p pos:Pos}{m:Nat}(h:Has X.prog X.w X.K X.mg X.base n x ps sp)(hr:Room m X.A)(ha:PA (zbi X N' scope cl C fp s H) (e::es) t)(hle:n<=m:=by decide)
  (hg:Gl (zbi X N' scope cl C fp s H) x:=by rfl) (hdb:(x==("__debug__":Str))=false:=by decide) (he:starEach (e::es) (zbi X N' scope cl C fp s H).env=(false,eval e (zbi X N' scope cl C fp s H).env)::starEach es (zbi X N' scope cl C fp s H).env:=by rfl) (hpl:(backTo pos (starEach es (zbi X N' scope cl C fp s H).env)).any (·.1)=false:=by rfl):
  PE (zbi X N' scope cl C fp s H) (.Call (.Name x p) (e::es) [] pos) (zks sp [] E0 t):=zca (X:=zbi X N' scope cl C fp s H) h hr ha hle hg hdb he hpl
end
structure HasM (P:Program)(w:World)(K:PySem.W.Frag)(mg:Str->Option Value)(base:Heap)(n:Nat)(C:Addr)(m:Str)(ps:List Str)(sp:Sp):Prop where
 ex:∃f fd,FnOk P w K mg base CX0 n f fd ps sp/\Binds K fd ps []/\zle K C m f
structure HasC (P:Program)(w:World)(K:PySem.W.Frag)(mg:Str->Option Value)(base:Heap)(n:Nat)(C:Addr)(x:Str)(ps:List Str)(sp:Sp):Prop where
 ex:∃f fd,FnOk P w K mg base CX0 n f fd ps sp/\Binds K fd ps []/\Mk K C f/\mg x=some (.ref C)
section
variable {X:Cx}{C:Addr}
theorem zke {pl:Sem Bool}{n:Nat}{m:Str}{ps:List Str}{sp:Sp}{o e:Expr}{es:List Expr}{ta:TE}{t:TA}{apos pos:Pos}{k:Nat}(he:PE X o ta)(c:Cls X.K C)(h:HasM X.prog X.w X.K X.mg X.base n C m ps sp)(hr:Room k X.A)(ha:PA X (e::es) t)(hle:n<=k:=by decide)
  (hst:starEach (e::es) X.env=(false,eval e X.env)::starEach es X.env:=by rfl) (hpl:(backTo pos (starEach es X.env)).any (·.1)=false:=by rfl)
  (ht:eval (.Call (.Attribute o m apos) (e::es) [] pos) X.env=(do
   let ov<-eval o X.env
   standAt apos.atName
   let (f,first)<-holding [ov] (getMethod ov m pl)
   callWith pos f first (backTo pos (starEach (e::es) X.env)) (backToKw pos (keywordEach [] X.env))):=by rfl):
  PE X (.Call (.Attribute o m apos) (e::es) [] pos) (zqo C m sp [] E0 ta t):=by
 obtain ⟨f,fd,F,b,M⟩:=h.ex
 exact pe_meth (pl:=pl) he c M (F.mono hle) hr b .nil pass0 ha hst hpl ht
theorem pe_new {n:Nat}{x:Str}{ps:List Str}{sp:Sp}{e:Expr}{es:List Expr}{t:TA}{p pos:Pos}{k:Nat}(h:HasC X.prog X.w X.K X.mg X.base n C x ps sp)(hr:Room (k+1) X.A)(ha:PA X (e::es) t)(hle:n<=k:=by decide)
  (hg:Gl X x:=by rfl) (hdb:(x==("__debug__":Str))=false:=by decide) (he:starEach (e::es) X.env=(false,eval e X.env)::starEach es X.env:=by rfl) (hpl:(backTo pos (starEach es X.env)).any (·.1)=false:=by rfl):
  PE X (.Call (.Name x p) (e::es) [] pos) (tMake C sp [] E0 t):=by
 obtain ⟨f,fd,F,b,M,hm⟩:=h.ex
 exact pe_make M (F.mono hle) hr hg hm b .nil pass0 ha hdb he hpl
end
section
variable {X:Cx}{e:Expr}{te:TE}{p pos:Pos}
theorem pe_listD (B:Bl X.mg)(h:PE X e te)(hc:X.calm=true:=by rfl)(hg:Gl X "list":=by rfl)(he:starEach [e] X.env=(false,eval e X.env)::starEach [] X.env:=by rfl):PE X (.Call (.Name "list" p) [e] [] pos)
  (tCB (fun xs H Q=>∃a kvs,xs=[.ref a]/\Rd H a (.dK kvs)/\∀l,H l=none->Q (.ref l) (upd H l (.lst (kvs.map fun kv=>kV kv.1)))) (zbp te zev)):=
 zhz (znj hc) hg B.list PyProof.Rows.boot_list (zab h zah he) (he:=he)
theorem zpc (B:Bl X.mg)(h:PE X e te)(hc:X.calm=true:=by rfl)(hg:Gl X "all":=by rfl)(he:starEach [e] X.env=(false,eval e X.env)::starEach [] X.env:=by rfl):PE X (.Call (.Name "all" p) [e] [] pos)
  (tCB (fun xs H Q=>∃(a:Addr) (bs:List Bool),xs=[.ref a]/\SqL X.K H a (bs.map V.bl)/\Q (.bl (bs.all id)) H) (zbp te zev)):=
 zln (zq9 hc) hg B.all PyProof.Rows.boot_all (zab h zah he) (he:=he)
end
section
variable {G:Hp}{σ:St}{ta:TE}{t:TA}{K:PySem.W.Frag}
theorem zvm {H:Hp}:∀{vs:List V} {bs:List Bool},Reps H vs (bs.map D.bl)->vs=bs.map V.bl
 |_,[],.nil=>rfl
 |_,b::r,.cons h t=>by rw [h.of_bl,zvm t];rfl
theorem zwe {bs:List Bool}(h:EvA t G σ [.lst (bs.map D.bl)]):EvM (tCB (fun xs H Q=>∃(a:Addr) (bs:List Bool),xs=[.ref a]/\SqL K H a (bs.map V.bl)/\Q (.bl (bs.all id)) H) t) G σ (.bl (bs.all id)):=
 ev_cb (fun M H xs l rs Q k=>by
  obtain ⟨v,rfl,r⟩:=zov rs
  obtain ⟨a,vs,rfl,h1,h2⟩:=r.of_lst
  refine ⟨a,bs,rfl,?_,k _ H (Same.refl _) (.bl _)⟩
  rw [<-zvm h2]
  exact SqL.of (zac h1).2) h
theorem zwb {xs:List D}(h:EvM ta G σ (.lst xs)):EvT (fun σ H Q=>ta σ H fun x H'=>∃k,TruV K x H' k/\Q k H') G σ (!xs.isEmpty):=fun M H s l Q k=>h M H s l _ fun v H1 s1 r1=>by
 obtain ⟨a,vs,rfl,h1,h2⟩:=r1.of_lst
 refine ⟨!xs.isEmpty,.inl ⟨vs,SqL.of (zac h1).2,?_⟩,k H1 s1⟩
 cases h2<;>rfl
end
end FL
namespace PySem
section
variable {prog:Program}{w:World}{K:Type} [DecidableEq K] {knd:HeapKind prog w K}{A:Around}{E:Value->Shared->Prop}{s:Shared}
theorem zpt (knd:HeapKind prog w K)(d:Addr)(hd:(d==sysModules)=false):
  MeetsIn prog w (Builtin.«dict.__len__» ⟨[.ref d],[]⟩) (fun _ R s=>∃xs,s.heap.DictOfH knd d xs/\R (.ok (.ret (.int xs.length s.toks))) {s with toks:=s.toks+1}):=
 .of_wp fun A R s ⟨xs,hm,h⟩=>by
  obtain ⟨o,es,ep,ho,hc,hdat,he,his,hn⟩:=hm
  show wpAny _ _ (dictSize d>>=_) _ _ s
  unfold dictSize
  refine wpAny_bind (wpAny_bind (wpAny_dictEntries ho hdat (wpAny_pure ?_)))
  show wpAny _ _ (Builtin.Dict.pendingCount d>>=_) _ _ s
  refine wpAny_bind (wpAny_pendingCount_other hd ?_)
  refine wpAny_ret_mkInt ?_
  have:es.size=xs.length:=size_of_entries he
  rw [Nat.add_zero,this];exact h
theorem zkg {d:Addr}{xs:List (K×Addr×Value)}{Q:Value->Shared->Prop}(hd:(d==sysModules)=false)(hm:s.heap.DictOfH knd d xs)(hfit:(xs.length:Int)<2^63)
  (h:Q (.int xs.length (s.toks+1)) {s with toks:=s.toks+1+1}):wpAny (model prog w) A (call (.builtin "len") [.ref d]) Q E s:=by
 refine Calls.call_function_entry kind_len plain_len entry_len (args_len1 _) ?_
 unfold Builtin.«len»
 refine wpAny_bind (m:=oneArg "len" _) (wpAny_pure ?_)
 refine wpAny_bind (m:=callSpecial? (.ref d) (Str.ofString "__len__")) (wpAny_callSpecial?_slot (name:=Str.ofString "__len__") hm.typeIs F.slot_dict_len
  (call_meetsIn F.slot_dict_len hm.typeIs F.entry_dict_len (F.args_dict_len_1 _) (zpt knd d hd) ⟨xs,hm,?_⟩))
 show wpAny _ _ _ _ _ {s with toks:=s.toks+1}
 refine wpAny_bind (wpAny_holding (wpAny_pure ?_))
 refine wpAny_bind (wpAny_letGo ?_)
 show wpAny _ _ (if ((xs.length:Nat):Int)<0 then _ else _) _ _ _
 rw [if_neg (by omega)]
 show wpAny _ _ (if ((xs.length:Nat):Int)≥2^63 then _ else _) _ _ _
 rw [if_neg (by omega)]
 exact wpAny_bind (wpAny_mkInt (wpAny_pure ⟨_,rfl,h⟩))
end
end PySem
namespace L2
open PySem PySem.Spec PyProof.Rows
section
variable {X:Cx}
def rLenD:List V->Hp->VK->Prop:=fun xs H Q=>(∃a kvs,xs=[.ref a]/\Rd H a (.dK kvs)/\Q (.int kvs.length) H)\/∃a kvs,xs=[.ref a]/\Rd H a (.dT kvs)/\Q (.int kvs.length) H
theorem zyg:zmy X (.builtin "len") rLenD:=by
 intro pins s σ H xs us Q I r h
 rcases h with ⟨a,kvs,rfl,e,q⟩|⟨a,kvs,rfl,e,q⟩
 ·obtain ⟨u,rfl,ru⟩:=zkc r
  cases ru
  exact d_len I e fun t s' I'=>⟨.int kvs.length,H,I',⟨t,rfl⟩,q⟩
 ·obtain ⟨u,rfl,ru⟩:=zkc r
  cases ru
  obtain ⟨z,hd,xs,rel,dd⟩:=zpx I.hok e
  have hl:=Paired.length rel
  refine zkg hd dd (by rw [<-hl];rw [sizeLine_eq] at z;omega) ?_
  rw [<-hl]
  exact ⟨.int kvs.length,H,I.tok _,⟨_,rfl⟩,q⟩
end
end L2
namespace FL
open PySem L2
section
variable {X:Cx}{e:Expr}{te:TE}{p pos:Pos}
theorem pe_lenD (B:Bl X.mg)(h:PE X e te)(hg:Gl X "len":=by rfl)(he:starEach [e] X.env=(false,eval e X.env)::starEach [] X.env:=by rfl):PE X (.Call (.Name "len" p) [e] [] pos) (tCB rLenD (zbp te zev)):=
 zln zyg hg B.len PySem.boot_len (zab h zah he) (he:=he)
end
section
variable {X:Cx}{N':List Str}{scope:Scope}{cl:List (Str×Addr)}{C:Addr}{fp:List Addr}{s:Shared}{H:Hp}{e:Expr}{te:TE}{p pos:Pos}
end
end FL
namespace FL
open PySem L2
section
variable {X:Cx}{N':List Str}{scope:Scope}{cl:List (Str×Addr)}{C:Addr}{fp:List Addr}{s:Shared}{H:Hp}{e:Expr}{te:TE}{p pos:Pos}{f:Str}
theorem zls (he:PE (zbi X N' scope cl C fp s H) e te)(hb:attributeBase e f (zbi X N' scope cl C fp s H).env (eval e (zbi X N' scope cl C fp s H).env)=eval e (zbi X N' scope cl C fp s H).env):PE (zbi X N' scope cl C fp s H) (.Attribute e f pos) (tFld X.K te f):=zeh (X:=zbi X N' scope cl C fp s H) he hb
theorem zrc (ha:PE (zbi X N' scope cl C fp s H) e te)(he:∀zht,isTrue e (zbi X N' scope cl C fp s H).env zht=(do let v<-zht;standAt e.pos;holding [v] (truthy v))):
  PT (zbi X N' scope cl C fp s H) e (fun σ H Q=>te σ H fun x H'=>∃k,TruV X.K x H' k/\Q k H'):=zvn (X:=zbi X N' scope cl C fp s H) ha he
end
end FL
namespace FL
open PySem L2
def zao (V:Str->D)(B:List Str):zan:=B.map fun b=>(b,V b)
def zbr (V:Str->D)(x:D):D:=if zaq x=true then V x.name else x
def zgv (B:List Str)(x:D):List Str:=if (zaq x&& !decide (x.name∈B))=true then B++[x.name] else B
def za9 (B:List Str)(l:List D):List Str:=l.foldl zgv B
def AllBl (B:List Str):Prop:=∀b∈B,zaq (.str b)=true
theorem zfi {x:D}(h:zaq x=true):x=.str x.name:=by
 cases x with
 |str s=>rfl
 |_=>cases h
theorem AllBl.add {B:List Str}(h:AllBl B)(x:D):AllBl (zgv B x):=fun b hb=>by
 unfold zgv at hb
 by_cases e:(zaq x&& !decide (x.name∈B))=true
 ·rw [if_pos e] at hb
  rcases mem_append.mp hb with z|z
  ·exact h b z
  ·rw [mem_singleton.mp z]
   rw [Bool.and_eq_true] at e
   rw [<-zfi e.1];exact e.1
 ·rw [if_neg e] at hb;exact h b hb
theorem zwk {B:List Str}{x:D}{b:Str}(h:b∈B):b∈zgv B x:=by
 unfold zgv
 by_cases e:(zaq x&& !decide (x.name∈B))=true
 ·rw [if_pos e];exact mem_append_left _ h
 ·rw [if_neg e];exact h
theorem zwl {B:List Str}{x:D}(h:zaq x=true):x.name∈zgv B x:=by
 unfold zgv
 by_cases e:x.name∈B
 ·rw [if_neg (by simp [e])];exact e
 ·rw [if_pos (by simp [e,h])];exact mem_append_right _ (mem_singleton.mpr rfl)
theorem addB_or {B:List Str}{x:D}{b:Str}(h:b∈zgv B x):b∈B\/(zaq x=true/\b=x.name):=by
 unfold zgv at h
 by_cases e:(zaq x&& !decide (x.name∈B))=true
 ·rw [if_pos e] at h
  rw [Bool.and_eq_true] at e
  rcases mem_append.mp h with z|z
  ·exact .inl z
  ·exact .inr ⟨e.1,mem_singleton.mp z⟩
 ·rw [if_neg e] at h;exact .inl h
theorem zyj {B:List Str}{x:D}(h:B.Nodup):(zgv B x).Nodup:=by
 unfold zgv
 by_cases e:(zaq x&& !decide (x.name∈B))=true
 ·rw [if_pos e]
  rw [Bool.and_eq_true] at e
  have hn:x.name∉B:=by simpa using e.2
  rw [nodup_append]
  refine ⟨h,by simp,?_⟩
  intro a ha b hb
  rw [mem_singleton.mp hb]
  exact fun z=>hn (z▸ha)
 ·rw [if_neg e];exact h
theorem zig {l:List D}:∀{B:List Str} {b:Str},b∈B->b∈za9 B l:=by
 induction l with
 |nil=>exact fun h=>h
 |cons x r ih=>exact fun h=>ih (zwk h)
theorem zcf {l:List D}:∀{B:List Str},AllBl B->AllBl (za9 B l):=by
 induction l with
 |nil=>exact fun h=>h
 |cons x r ih=>exact fun h=>ih (h.add x)
theorem ziw {l:List D}:∀{B:List Str},B.Nodup->(za9 B l).Nodup:=by
 induction l with
 |nil=>exact fun h=>h
 |cons x r ih=>exact fun h=>ih (zyj h)
theorem zdw {l:List D}{x:D}(hx:x∈l)(h:zaq x=true):∀{B:List Str},x.name∈za9 B l:=by
 induction l with
 |nil=>cases hx
 |cons y r ih=>
  intro B
  rcases mem_cons.mp hx with rfl|hx
  ·exact zig (l:=r) (B:=zgv B x) (zwl h)
  ·exact ih hx
theorem zmq {l:List D}{b:Str}:∀{B:List Str},b∈za9 B l->b∈B\/∃x∈l,zaq x=true/\b=x.name:=by
 induction l with
 |nil=>exact fun h=>.inl h
 |cons y r ih=>
  intro B h
  rcases ih h with z|⟨x,hx,z⟩
  ·rcases addB_or z with z|⟨z1,z2⟩
   ·exact .inl z
   ·exact .inr ⟨y,mem_cons_self,z1,z2⟩
  ·exact .inr ⟨x,mem_cons_of_mem _ hx,z⟩
theorem zxq (V:Str->D)(B:List Str):Cons (zao V B):=fun p hp q hq e=>by
 obtain ⟨b,_,rfl⟩:=mem_map.mp hp
 obtain ⟨c,_,rfl⟩:=mem_map.mp hq
 have e:b=c:=e
 rw [e]
theorem zga {V V':Str->D}{B:List Str}(h:∀b∈B,V' b=V b):zao V' B=zao V B:=map_congr_left fun b hb=>by rw [h b hb]
theorem zsg {V V':Str->D}{B:List Str}(h:zao V B=zao V' B):∀b∈B,V b=V' b:=fun b hb=>by
 induction B with
 |nil=>cases hb
 |cons c r ih=>
  have h1:(c,V c)=(c,V' c):=(List.cons.inj h).1
  rcases mem_cons.mp hb with rfl|hb
  ·exact congrArg Prod.snd h1
  ·exact ih (List.cons.inj h).2 hb
theorem zob {V:Str->D}{B:List Str}{x:D}(hx:zaq x=true):zpp (zao V B) x=decide (x.name∈B):=by
 rw [zfi hx]
 have h:=hasN_iff (F:=zao V B) (s:=x.name)
 have e:(zao V B).map (·.1)=B:=by simp [zao,map_map,Function.comp_def]
 rw [e] at h
 show zpp (zao V B) (.str x.name)=decide (x.name∈B)
 by_cases z:x.name∈B
 ·rw [h.mpr z,decide_eq_true z]
 ·rw [decide_eq_false z]
  cases q:zpp (zao V B) (.str x.name) with
  |false=>rfl
  |true=>exact absurd (h.mp q) z
theorem zgt {V:Str->D}{B:List Str}{x:D}(hB:AllBl B)(hx:zaq x=false):zpp (zao V B) x=false:=by
 cases q:zpp (zao V B) x with
 |false=>rfl
 |true=>
  obtain ⟨p,hp,e⟩:=any_eq_true.mp q
  obtain ⟨b,hb,rfl⟩:=mem_map.mp hp
  have e:D.str b=x:=of_decide_eq_true e
  have:=hB b hb
  rw [e,hx] at this;cases this
theorem zfa {V:Str->D}{B:List Str}{b:Str}(hb:b∈B):zdh (zao V B) (.str b)=V b:=look_mem (zxq V B) (p:=(b,V b)) (mem_map.mpr ⟨b,hb,rfl⟩)
theorem zhd {V:Str->D}{B:List Str}{x:D}(hB:AllBl B)(hx:zaq x=true->x.name∈B):zdh (zao V B) x=zbr V x:=by
 unfold zbr
 by_cases e:zaq x=true
 ·rw [if_pos e]
  have:=zfa (V:=V) (hx e)
  rw [<-zfi e] at this
  exact this
 ·rw [if_neg e]
  exact zia (zgt hB (by simpa using e))
theorem step_fwd {V:Str->D}{B:List Str}(hB:AllBl B)(x:D):zin (zao V B) x (zbr V x)=some (zao V (zgv B x)):=by
 unfold zin zgv
 by_cases e:zaq x=true
 ·rw [zob e]
  by_cases z:x.name∈B
  ·rw [if_neg (by simp [z]),zhd hB (fun _=>z),if_pos rfl,if_neg (by simp [z])]
  ·rw [if_pos (by simp [z,e]),if_pos (by simp [z,e])]
   unfold zbr zao
   rw [if_pos e,map_append]
   rfl
 ·have e':zaq x=false:=by simpa using e
  rw [if_neg (by simp [e']),zhd hB (fun z=>absurd z e),if_pos rfl,if_neg (by simp [e'])]
theorem zxu {V V':Str->D}{B:List Str}{x:D}(h:∀b∈zgv B x,V' b=V b):zbr V' x=zbr V x:=by
 unfold zbr
 by_cases e:zaq x=true
 ·rw [if_pos e,if_pos e,h _ (zwl e)]
 ·rw [if_neg e,if_neg e]
theorem step_bwd {V:Str->D}{B:List Str}(hB:AllBl B){x y:D}{F':zan}(h:zin (zao V B) x y=some F'):∃V',(∀b∈B,V' b=V b)/\F'=zao V' (zgv B x)/\y=zbr V' x:=by
 unfold zin at h
 by_cases e:zaq x=true
 ·rw [zob e] at h
  by_cases z:x.name∈B
  ·rw [if_neg (by simp [z]),zhd hB (fun _=>z)] at h
   by_cases q:zbr V x=y
   ·rw [if_pos q] at h
    refine ⟨V,fun _ _=>rfl,?_,q.symm⟩
    unfold zgv
    rw [if_neg (by simp [z])]
    exact (Option.some.inj h).symm
   ·rw [if_neg q] at h;cases h
  ·rw [if_pos (by simp [z,e])] at h
   refine ⟨fun b=>if b=x.name then y else V b,fun b hb=>if_neg (fun w=>z (by rw [<-w];exact hb)),?_,?_⟩
   ·have e1:=Option.some.inj h
    rw [<-e1]
    unfold zgv
    rw [if_pos (by simp [z,e])]
    unfold zao
    rw [map_append]
    congr 1
    ·exact map_congr_left fun b hb=>by
      have:b≠x.name:=fun w=>z (by rw [<-w];exact hb)
      simp [this]
    ·simp
   ·unfold zbr
    rw [if_pos e]
    simp
 ·have e':zaq x=false:=by simpa using e
  rw [if_neg (by simp [e']),zhd hB (fun z=>absurd z e)] at h
  by_cases q:zbr V x=y
  ·rw [if_pos q] at h
   refine ⟨V,fun _ _=>rfl,?_,q.symm⟩
   unfold zgv
   rw [if_neg (by simp [e'])]
   exact (Option.some.inj h).symm
  ·rw [if_neg q] at h;cases h
theorem run_fwd {V:Str->D}:∀(l:List D) {B:List Str},AllBl B->ztd (zao V B) (l.zip (l.map (zbr V)))=some (zao V (za9 B l))
 |[],B,_=>rfl
 |x::r,B,hB=>by
  show (zin (zao V B) x (zbr V x)).bind (fun F'=>ztd F' (r.zip (r.map (zbr V))))=_
  rw [step_fwd hB]
  exact run_fwd r (hB.add x)
theorem run_bwd:∀(l f:List D) {V:Str->D} {B:List Str} {F':zan},AllBl B->l.length=f.length->ztd (zao V B) (l.zip f)=some F'->∃V',(∀b∈B,V' b=V b)/\F'=zao V' (za9 B l)/\f=l.map (zbr V')
 |[],[],V,B,F',_,_,h=>⟨V,fun _ _=>rfl,(Option.some.inj h).symm,rfl⟩
 |[],_::_,_,_,_,_,hl,_=>by cases hl
 |_::_,[],_,_,_,_,hl,_=>by cases hl
 |x::r,y::t,V,B,F',hB,hl,h=>by
  have h:(zin (zao V B) x y).bind (fun F'=>ztd F' (r.zip t))=some F':=h
  cases e:zin (zao V B) x y with
  |none=>rw [e] at h;cases h
  |some F1=>
   rw [e] at h
   obtain ⟨V1,a1,rfl,a3⟩:=step_bwd hB e
   obtain ⟨V2,b1,b2,b3⟩:=run_bwd r t (hB.add x) (Nat.succ.inj hl) h
   refine ⟨V2,fun b hb=>(b1 b (zwk hb)).trans (a1 b hb),b2,?_⟩
   rw [map_cons,<-b3,a3,zxu b1]
def zb9 (A f:List D)(S:zan):Option zan:=if A.headD .non=f.headD .non/\A.length=f.length then ztd S (A.zip f) else none
theorem zsh {A:List D}{V:Str->D}(hA:A≠[])(hh:zaq (A.headD .non)=false):A.headD .non=(A.map (zbr V)).headD .non:=by
 cases A with
 |nil=>exact absurd rfl hA
 |cons x r=>
  show x=zbr V x
  unfold zbr
  have hh:zaq x=false:=hh
  rw [if_neg (by rw [hh];exact Bool.false_ne_true)]
theorem zm9 {A:List D}{V:Str->D}{B:List Str}(hB:AllBl B)(hA:A≠[])(hh:zaq (A.headD .non)=false):zb9 A (A.map (zbr V)) (zao V B)=some (zao V (za9 B A)):=by
 unfold zb9
 rw [if_pos ⟨zsh hA hh,by rw [length_map]⟩]
 exact run_fwd A hB
theorem zed {A f:List D}{V:Str->D}{B:List Str}{F':zan}(hB:AllBl B)(h:zb9 A f (zao V B)=some F'):∃V',(∀b∈B,V' b=V b)/\F'=zao V' (za9 B A)/\f=A.map (zbr V'):=by
 unfold zb9 at h
 by_cases z:A.headD .non=f.headD .non/\A.length=f.length
 ·rw [if_pos z] at h;exact run_bwd A f hB z.2 h
 ·rw [if_neg z] at h;cases h
end FL
namespace FL
open PySem L2
abbrev Way:=zan×List Nat
def ext (facts:List (List D))(a:List D)(w:Way):List Way:=facts.zipIdx.filterMap fun p=>(zb9 a p.1 w.1).map fun S=>(S,w.2++[p.2])
def zgz (facts:List (List D)):List (List D)->List Way->List Way
 |[],ws=>ws
 |a::r,ws=>zgz facts r (ws.flatMap (ext facts a))
def zaj (B:List Str)(as:List (List D)):List Str:=as.foldl za9 B
def zon (facts:List (List D))(V:Str->D)(as:List (List D))(pl:List Nat):Prop:=pl.map (fun i=>facts[i]?)=as.map fun a=>some (a.map (zbr V))
def zmx (a:List D):Prop:=a≠[]/\zaq (a.headD .non)=false
theorem mem_ext {facts:List (List D)}{a:List D}{w:Way}{S:zan}{pl:List Nat}:(S,pl)∈ext facts a w↔∃i f,facts[i]?=some f/\zb9 a f w.1=some S/\pl=w.2++[i]:=by
 unfold ext
 rw [List.mem_filterMap]
 constructor
 ·rintro ⟨⟨f,i⟩,hp,e⟩
  have hi:facts[i]?=some f:=by
   have:=List.mem_zipIdx_iff_getElem?.mp hp
   exact this
  have e:(zb9 a f w.1).map (fun S=>(S,w.2++[i]))=some (S,pl):=e
  cases q:zb9 a f w.1 with
  |none=>rw [q] at e;cases e
  |some S'=>
   rw [q] at e
   have e:=Option.some.inj e
   exact ⟨i,f,hi,by rw [q];exact congrArg some (congrArg Prod.fst e),(congrArg Prod.snd e).symm⟩
 ·rintro ⟨i,f,hi,hm,rfl⟩
  exact ⟨(f,i),List.mem_zipIdx_iff_getElem?.mpr hi,by show (zb9 a f w.1).map _=_;rw [hm];rfl⟩
theorem zoe {facts:List (List D)}{V V':Str->D}{as:List (List D)}{pl:List Nat}{B:List Str}(hB:∀a∈as,∀x∈a,zaq x=true->x.name∈B)(h:∀b∈B,V' b=V b)(hf:zon facts V as pl):zon facts V' as pl:=by
 unfold zon at*
 rw [hf]
 refine map_congr_left fun a ha=>?_
 congr 1
 refine map_congr_left fun x hx=>?_
 unfold zbr
 by_cases e:zaq x=true
 ·rw [if_pos e,if_pos e,h _ (hB a ha x hx e)]
 ·rw [if_neg e,if_neg e]
theorem zuu {as:List (List D)}:∀{B:List Str} {b:Str},b∈B->b∈zaj B as:=by
 induction as with
 |nil=>exact fun h=>h
 |cons a r ih=>exact fun h=>ih (zig h)
theorem zhn {as:List (List D)}:∀{B:List Str},AllBl B->AllBl (zaj B as):=by
 induction as with
 |nil=>exact fun h=>h
 |cons a r ih=>exact fun h=>ih (zcf h)
theorem zhm {as:List (List D)}:∀{B:List Str},B.Nodup->(zaj B as).Nodup:=by
 induction as with
 |nil=>exact fun h=>h
 |cons a r ih=>exact fun h=>ih (ziw h)
theorem zgf {as:List (List D)}{a:List D}{x:D}(ha:a∈as)(hx:x∈a)(h:zaq x=true):∀{B:List Str},x.name∈zaj B as:=by
 induction as with
 |nil=>cases ha
 |cons c r ih=>
  intro B
  rcases mem_cons.mp ha with rfl|ha
  ·exact zuu (as:=r) (B:=za9 B a) (zdw hx h)
  ·exact ih ha
theorem zhe {as:List (List D)}{b:Str}:∀{B:List Str},b∈zaj B as->b∈B\/∃a∈as,∃x∈a,zaq x=true/\b=x.name:=by
 induction as with
 |nil=>exact fun h=>.inl h
 |cons c r ih=>
  intro B h
  rcases ih h with z|⟨a,ha,z⟩
  ·rcases zmq z with z|⟨x,hx,z⟩
   ·exact .inl z
   ·exact .inr ⟨c,mem_cons_self,x,hx,z⟩
  ·exact .inr ⟨a,mem_cons_of_mem _ ha,z⟩
theorem zvv {facts:List (List D)}:∀(as:List (List D)) (done:List (List D)) (B:List Str) (ws:List Way),AllBl B->(∀a∈done,∀x∈a,zaq x=true->x.name∈B)->(∀a∈as,zmx a)->
  (∀S pl,(S,pl)∈ws↔∃V,S=zao V B/\zon facts V done pl)->∀S pl,(S,pl)∈zgz facts as ws↔∃V,S=zao V (zaj B as)/\zon facts V (done++as) pl
 |[],done,B,ws,_,_,_,h,S,pl=>by
  rw [append_nil];exact h S pl
 |a::r,done,B,ws,hB,hD,hG,h,S,pl=>by
  have key:=zvv r (done++[a]) (za9 B a) (ws.flatMap (ext facts a)) (zcf hB) (fun c hc x hx e=>by
    rcases mem_append.mp hc with z|z
    ·exact zig (hD c z x hx e)
    ·rw [mem_singleton.mp z] at hx;exact zdw hx e) (fun c hc=>hG c (mem_cons_of_mem _ hc)) (fun S pl=>by
   rw [mem_flatMap]
   constructor
   ·rintro ⟨⟨S0,pl0⟩,hw,he⟩
    obtain ⟨i,f,hi,hm,rfl⟩:=mem_ext.mp he
    obtain ⟨V,rfl,hf⟩:=(h S0 pl0).mp hw
    obtain ⟨V',a1,a2,a3⟩:=zed hB hm
    refine ⟨V',a2,?_⟩
    have h1:=zoe hD a1 hf
    unfold zon at*
    rw [map_append,map_append,h1]
    show _++[facts[i]?]=_++[some (a.map (zbr V'))]
    rw [hi,a3]
   ·rintro ⟨V,rfl,hf⟩
    unfold zon at hf
    rw [map_append] at hf
    obtain ⟨p1,p2,rfl,e1,e2⟩:=List.map_eq_append_iff.mp hf
    obtain ⟨i,rfl,e3⟩:∃i,p2=[i]/\facts[i]?=some (a.map (zbr V)):=by
     cases p2 with
     |nil=>cases e2
     |cons i t=>
      have e2:facts[i]?::t.map (fun i=>facts[i]?)=[some (a.map (zbr V))]:=e2
      obtain ⟨e4,e5⟩:=List.cons.inj e2
      have:t=[]:=List.map_eq_nil_iff.mp e5
      exact ⟨i,by rw [this],e4⟩
    refine ⟨(zao V B,p1),(h _ _).mpr ⟨V,rfl,e1⟩,mem_ext.mpr ⟨i,_,e3,?_,rfl⟩⟩
    have g:=hG a mem_cons_self
    exact zm9 hB g.1 g.2) S pl
  rw [append_assoc] at key
  exact key
theorem zhc {facts:List (List D)}{as:List (List D)}(hG:∀a∈as,zmx a){S:zan}{pl:List Nat}:(S,pl)∈zgz facts as [([],[])]↔∃V,S=zao V (zaj [] as)/\zon facts V as pl:=by
 refine zvv as [] [] [([],[])] (fun b hb=>nomatch hb) (fun a ha=>nomatch ha) hG (fun S pl=>?_) S pl
 rw [mem_singleton]
 constructor
 ·intro e
  obtain ⟨rfl,rfl⟩:=Prod.mk.inj e
  exact ⟨fun _=>.non,rfl,rfl⟩
 ·rintro ⟨V,rfl,h⟩
  have:pl=[]:=List.map_eq_nil_iff.mp h
  rw [this];rfl
def zla:List Nat->List Nat->Prop
 |a::r,b::t=>a<b\/(a=b/\zla r t)
 |_,_=>False
theorem zsd:∀{p q:List Nat} (s t:List Nat),zla p q->zla (p++s) (q++t)
 |[],_,_,_,h=>h.elim
 |_::_,[],_,_,h=>h.elim
 |a::r,b::u,s,t,h=>by
  rcases h with h|⟨h1,h2⟩
  ·exact .inl h
  ·exact .inr ⟨h1,zsd s t h2⟩
theorem zny:∀(p:List Nat) {i j:Nat},i<j->zla (p++[i]) (p++[j])
 |[],_,_,h=>.inl h
 |_::r,_,_,h=>.inr ⟨rfl,zny r h⟩
theorem zkk:∀(p:List Nat),¬zla p p
 |[],h=>h
 |a::r,h=>by
  rcases h with h|⟨_,h⟩
  ·omega
  ·exact zkk r h
theorem znl {α:Type}:∀(l:List α) (k:Nat),(l.zipIdx k).Pairwise fun p q=>p.2<q.2
 |[],k=>.nil
 |x::r,k=>by
  rw [zipIdx_cons]
  refine .cons (fun q hq=>?_) (znl r (k+1))
  have:=List.le_snd_of_mem_zipIdx hq
  show k<q.2
  omega
theorem ext_inc (facts:List (List D))(a:List D)(w:Way):(ext facts a w).Pairwise fun x y=>zla x.2 y.2:=by
 unfold ext
 rw [List.pairwise_filterMap]
 refine (znl facts 0).imp fun {p q} hpq x hx y hy=>?_
 cases e1:zb9 a p.1 w.1 with
 |none=>rw [e1] at hx;cases hx
 |some S=>
  cases e2:zb9 a q.1 w.1 with
  |none=>rw [e2] at hy;cases hy
  |some S'=>
   rw [e1] at hx
   rw [e2] at hy
   have hx:=Option.some.inj hx
   have hy:=Option.some.inj hy
   rw [<-hx,<-hy]
   exact zny _ hpq
theorem zoq (facts:List (List D)):∀(as:List (List D)) (ws:List Way),ws.Pairwise (fun x y=>zla x.2 y.2)->(zgz facts as ws).Pairwise fun x y=>zla x.2 y.2
 |[],_,h=>h
 |a::r,ws,h=>by
  refine zoq facts r _ ?_
  rw [List.pairwise_flatMap]
  refine ⟨fun w _=>ext_inc facts a w,h.imp fun {w w'} hw x hx y hy=>?_⟩
  obtain ⟨S,pl⟩:=x
  obtain ⟨S',pl'⟩:=y
  obtain ⟨i,f,_,_,rfl⟩:=mem_ext.mp hx
  obtain ⟨i',f',_,_,rfl⟩:=mem_ext.mp hy
  exact zsd _ _ hw
theorem zfw {α:Type} [DecidableEq α]:∀{l m:List α},l.Nodup->(∀x∈l,x∈m)->l.length<=m.length
 |[],m,_,_=>Nat.zero_le _
 |x::r,m,h,hs=>by
  obtain ⟨h1,h2⟩:=nodup_cons.mp h
  have hx:=hs x mem_cons_self
  have key:=zfw (l:=r) (m:=m.erase x) h2 (fun y hy=>by
   have hne:y≠x:=fun z=>h1 (z▸hy)
   exact (List.mem_erase_of_ne hne).mpr (hs y (mem_cons_of_mem _ hy)))
  rw [List.length_erase_of_mem hx] at key
  have:0<m.length:=List.length_pos_of_mem hx
  rw [length_cons]
  omega
theorem nodup_len {α:Type} [DecidableEq α] {l m:List α}(h1:l.Nodup)(h2:m.Nodup)(h:∀x,x∈l↔x∈m):l.length=m.length:=
 Nat.le_antisymm (zfw h1 fun x hx=>(h x).mp hx) (zfw h2 fun x hx=>(h x).mpr hx)
theorem zlx {α β:Type}{f:α->β}{l:List α}(h:l.Nodup)(hf:∀x∈l,∀y∈l,f x=f y->x=y):(l.map f).Nodup:=by
 unfold List.Nodup at*
 rw [List.pairwise_map]
 exact h.imp_of_mem fun {a b} ha hb hab e=>hab (hf a ha b hb e)
def zbq (pool:List D):List Str->List zan->List zan
 |[],ms=>ms
 |b::r,ms=>zbq pool r (ms.flatMap fun c=>pool.map fun t=>c++[(b,t)])
theorem zlz {pool:List D}:∀(B:List Str) (done:List Str) (ms:List zan),(done++B).Nodup->(∀c,c∈ms↔∃V,c=zao V done/\∀b∈done,V b∈pool)->∀c,c∈zbq pool B ms↔∃V,c=zao V (done++B)/\∀b∈done++B,V b∈pool
 |[],done,ms,_,h,c=>by rw [append_nil];exact h c
 |b::r,done,ms,hn,h,c=>by
  have hn':((done++[b])++r).Nodup:=by rw [append_assoc];exact hn
  have hb:b∉done:=by
   rw [nodup_append] at hn
   exact fun z=>hn.2.2 b z b mem_cons_self rfl
  have key:=zlz r (done++[b]) (ms.flatMap fun c=>pool.map fun t=>c++[(b,t)]) hn' (fun c=>by
   rw [mem_flatMap]
   constructor
   ·rintro ⟨c0,hc,he⟩
    obtain ⟨t,ht,rfl⟩:=mem_map.mp he
    obtain ⟨V,rfl,hV⟩:=(h c0).mp hc
    refine ⟨fun x=>if x=b then t else V x,?_,fun x hx=>?_⟩
    ·unfold zao
     rw [map_append]
     congr 1
     ·exact map_congr_left fun x hx=>by
       have:x≠b:=fun z=>hb (z▸hx)
       simp [this]
     ·simp
    ·show (if x=b then t else V x)∈pool
     by_cases e:x=b
     ·rw [if_pos e];exact ht
     ·rw [if_neg e]
      rcases mem_append.mp hx with z|z
      ·exact hV x z
      ·exact absurd (mem_singleton.mp z) e
   ·rintro ⟨V,rfl,hV⟩
    refine ⟨zao V done,(h _).mpr ⟨V,rfl,fun x hx=>hV x (mem_append_left _ hx)⟩,mem_map.mpr ⟨V b,hV b (mem_append_right _ (mem_singleton.mpr rfl)),?_⟩⟩
    unfold zao
    rw [map_append]
    rfl) c
  rw [append_assoc] at key
  exact key
theorem zgn {pool:List D}{B:List Str}(hn:B.Nodup){c:zan}:c∈zbq pool B [[]]↔∃V,c=zao V B/\∀b∈B,V b∈pool:=
 zlz B [] [[]] hn (fun c=>by
  rw [mem_singleton]
  constructor
  ·rintro rfl;exact ⟨fun _=>.non,rfl,fun b hb=>nomatch hb⟩
  ·rintro ⟨V,rfl,_⟩;rfl) c
theorem zjv {pool:List D}(hp:pool.Nodup):∀(B:List Str) (ms:List zan),ms.Nodup->(zbq pool B ms).Nodup
 |[],_,h=>h
 |b::r,ms,h=>by
  refine zjv hp r _ ?_
  unfold List.Nodup at*
  rw [List.pairwise_flatMap]
  refine ⟨fun c _=>?_,h.imp fun {c c'} hc x hx y hy e=>?_⟩
  ·rw [List.pairwise_map]
   exact hp.imp fun {t t'} ht e=>ht (by
    have:=List.append_cancel_left e
    exact congrArg Prod.snd (List.cons.inj this).1)
  ·obtain ⟨t,_,rfl⟩:=mem_map.mp hx
   obtain ⟨t',_,rfl⟩:=mem_map.mp hy
   exact hc (List.append_inj' e rfl).1
def lookV (c:zan):Str->D:=fun b=>zdh c (.str b)
theorem zpi {α:Type}:∀{l:List α} {i j:Nat} {x:α},l.Nodup->l[i]?=some x->l[j]?=some x->i=j
 |[],i,_,_,_,h,_=>by simp at h
 |y::r,0,0,x,_,_,_=>rfl
 |y::r,0,j+1,x,hn,h1,h2=>by
  have h1:y=x:=Option.some.inj h1
  have h2:r[j]?=some x:=h2
  exact absurd (h1▸mem_of_getElem? h2) (nodup_cons.mp hn).1
 |y::r,i+1,0,x,hn,h1,h2=>by
  have h2:y=x:=Option.some.inj h2
  have h1:r[i]?=some x:=h1
  exact absurd (h2▸mem_of_getElem? h1) (nodup_cons.mp hn).1
 |y::r,i+1,j+1,x,hn,h1,h2=>congrArg (· +1) (zpi (l:=r) (nodup_cons.mp hn).2 h1 h2)
theorem fits_inj {facts:List (List D)}(hn:facts.Nodup){as:List (List D)}{V:Str->D}:∀{pl pl':List Nat},zon facts V as pl->zon facts V as pl'->pl=pl':=by
 induction as with
 |nil=>
  intro pl pl' h h'
  rw [List.map_eq_nil_iff.mp h,List.map_eq_nil_iff.mp h']
 |cons a r ih=>
  intro pl pl' h h'
  cases pl with
  |nil=>cases h
  |cons i t=>
   cases pl' with
   |nil=>cases h'
   |cons i' t'=>
    obtain ⟨e1,e2⟩:=List.cons.inj h
    obtain ⟨e1',e2'⟩:=List.cons.inj h'
    have:t=t':=ih e2 e2'
    have h2:i=i':=zpi hn e1 e1'
    rw [h2,this]
theorem zpu {facts:List (List D)}{as:List (List D)}{V:Str->D}{pl:List Nat}(h:zon facts V as pl):∀a∈as,a.map (zbr V)∈facts:=by
 intro a ha
 have:some (a.map (zbr V))∈pl.map (fun i=>facts[i]?):=by rw [h];exact mem_map.mpr ⟨a,ha,rfl⟩
 obtain ⟨i,_,e⟩:=mem_map.mp this
 exact mem_of_getElem? e
theorem fits_ex {facts:List (List D)}{V:Str->D}:∀{as:List (List D)},(∀a∈as,a.map (zbr V)∈facts)->∃pl,zon facts V as pl
 |[],_=>⟨[],rfl⟩
 |a::r,h=>by
  obtain ⟨pl,hp⟩:=fits_ex fun c hc=>h c (mem_cons_of_mem _ hc)
  obtain ⟨i,hi⟩:=mem_iff_getElem?.mp (h a mem_cons_self)
  exact ⟨i::pl,by unfold zon at*;rw [map_cons,map_cons,hp,hi]⟩
theorem zye {facts as:List (List D)}{pool:List D}{B':List Str}{ok:zan->Bool}{sat:zan->Bool}(hn:facts.Nodup)(hG:∀a∈as,zmx a)(hp:pool.Nodup)(hB':B'.Nodup)(hBB:∀b,b∈B'↔b∈zaj [] as)(hpool:∀f∈facts,∀x∈f.tail,x∈pool)
  (hsat:∀V,(∀b∈B',V b∈pool)->(sat (zao V B')=true↔(∀a∈as,a.map (zbr V)∈facts)/\ok (zao V (zaj [] as))=true)):
  ((zbq pool B' [[]]).filter sat).length=((zgz facts as [([],[])]).filter fun w=>ok w.1).length:=by
 let B:=zaj [] as
 have hBn:B.Nodup:=zhm nodup_nil
 have e1:(((zbq pool B' [[]]).filter sat).map fun c=>zao (lookV c) B).length=(((zgz facts as [([],[])]).filter fun w=>ok w.1).map (·.1)).length:=by
  refine nodup_len (zlx (List.Pairwise.filter _ (zjv hp B' [[]] (by simp))) ?_) (zlx ?_ ?_) ?_
  ·intro c hc c' hc' e
   obtain ⟨V,rfl,_⟩:=(zgn hB').mp (mem_filter.mp hc).1
   obtain ⟨V',rfl,_⟩:=(zgn hB').mp (mem_filter.mp hc').1
   refine (zga fun b hb=>?_).symm
   have:=zsg e b ((hBB b).mp hb)
   unfold lookV at this
   rw [zfa hb,zfa hb] at this
   exact this.symm
  ·refine List.Pairwise.filter _ ?_
   have:=zoq facts as [([],[])] (List.pairwise_singleton _ _)
   exact this.imp fun {x y} (h:zla x.2 y.2)=>(fun (e:x=y)=>zkk x.2 (by rw [<-e] at h;exact h):x≠y)
  ·rintro ⟨S,pl⟩ hx ⟨S',pl'⟩ hy e
   have e:S=S':=e
   subst e
   obtain ⟨V,e1,hf⟩:=(zhc hG).mp (mem_filter.mp hx).1
   obtain ⟨V',e2,hf'⟩:=(zhc hG).mp (mem_filter.mp hy).1
   have hV:=zsg (e1.symm.trans e2)
   have hf2:=zoe (B:=B) (fun a ha x hx e=>zgf ha hx e) hV hf'
   rw [fits_inj hn hf hf2]
  ·intro S
   rw [mem_map,mem_map]
   constructor
   ·rintro ⟨c,hc,rfl⟩
    obtain ⟨h1,h2⟩:=mem_filter.mp hc
    obtain ⟨V,rfl,hV⟩:=(zgn hB').mp h1
    obtain ⟨s1,s2⟩:=(hsat V hV).mp h2
    have hg:zao (lookV (zao V B')) B=zao V B:=zga fun b hb=>zfa ((hBB b).mpr hb)
    rw [hg]
    obtain ⟨pl,hpl⟩:=fits_ex s1
    exact ⟨(zao V B,pl),mem_filter.mpr ⟨(zhc hG).mpr ⟨V,rfl,hpl⟩,s2⟩,rfl⟩
   ·rintro ⟨⟨S',pl⟩,hw,rfl⟩
    obtain ⟨h1,h2⟩:=mem_filter.mp hw
    obtain ⟨V,rfl,hf⟩:=(zhc hG).mp h1
    have hm:=zpu hf
    have hV:∀b∈B',V b∈pool:=fun b hb=>by
     rcases zhe ((hBB b).mp hb) with z|⟨a,ha,x,hx,hx1,rfl⟩
     ·cases z
     ·have g:=hG a ha
      refine hpool _ (hm a ha) _ ?_
      cases a with
      |nil=>cases hx
      |cons h0 r=>
       rcases mem_cons.mp hx with rfl|hx
       ·have:=g.2
        rw [show zaq x=false from this] at hx1;cases hx1
       ·exact mem_map.mpr ⟨x,hx,by unfold zbr;rw [if_pos hx1]⟩
    refine ⟨zao V B',mem_filter.mpr ⟨(zgn hB').mpr ⟨V,rfl,hV⟩,(hsat V hV).mpr ⟨hm,h2⟩⟩,?_⟩
    exact zga fun b hb=>zfa ((hBB b).mpr hb)
 rw [length_map,length_map] at e1
 exact e1
end FL
namespace FL
open PySem L2
theorem zkq:∀(l:List D) (B C:List Str),(∀b∈C,b∈B\/b∈C)->za9 (B++C.filter (fun b=> !decide (b∈B))) l=B++(za9 C l).filter (fun b=> !decide (b∈B))
 |[],B,C,_=>rfl
 |x::r,B,C,h=>by
  show za9 (zgv (B++C.filter fun b=> !decide (b∈B)) x) r=B++(za9 (zgv C x) r).filter _
  have e:zgv (B++C.filter fun b=> !decide (b∈B)) x=B++(zgv C x).filter fun b=> !decide (b∈B):=by
   unfold zgv
   by_cases hx:zaq x=true
   ·by_cases hB:x.name∈B
    ·rw [if_neg (by simp [hB])]
     by_cases hC:x.name∈C
     ·rw [if_neg (by simp [hC])]
     ·rw [if_pos (by simp [hC,hx]),filter_append]
      simp [hB]
    ·by_cases hC:x.name∈C
     ·rw [if_neg (by simp [hC,hB]),if_neg (by simp [hC])]
     ·rw [if_pos (by simp [hC,hB,hx]),if_pos (by simp [hC,hx]),filter_append,append_assoc]
      simp [hB]
   ·have hx':zaq x=false:=by simpa using hx
    rw [if_neg (by simp [hx']),if_neg (by simp [hx'])]
  rw [e]
  exact zkq r B (zgv C x) fun b hb=>.inr hb
theorem zcz (l:List D)(B:List Str):za9 B l=B++(za9 [] l).filter (fun b=> !decide (b∈B)):=by
 have:=zkq l B [] (fun b hb=>nomatch hb)
 rw [List.filter_nil,append_nil] at this
 exact this
def zeu (B:List Str)(st:zan):List D:=(st.filter fun p=>decide (p.1∈B)).map (·.2)
def zck (B:List Str)(st:zan):zan:=st.filter fun p=> !decide (p.1∈B)
theorem zib (U:Str->D)(C:List Str)(p:Str->Bool):(zao U C).filter (fun q=>p q.1)=zao U (C.filter p):=by
 unfold zao
 rw [List.filter_map]
 rfl
theorem graph_app (U:Str->D)(B C:List Str):zao U (B++C)=zao U B++zao U C:=map_append
theorem zcu:AllBl []:=fun b hb=>nomatch hb
theorem zue {a f:List D}{V:Str->D}{B:List Str}(hB:AllBl B)(hG:zmx a):zb9 a f (zao V B)=(zb9 a f []).bind fun st=>if zeu B st=((za9 [] a).filter fun b=>decide (b∈B)).map V then some (zao V B++zck B st) else none:=by
 cases e:zb9 a f [] with
 |none=>
  show _=none
  cases e2:zb9 a f (zao V B) with
  |none=>rfl
  |some S=>
   obtain ⟨V',_,_,rfl⟩:=zed hB e2
   have:=zm9 (V:=V') (B:=[]) zcu hG.1 hG.2
   rw [show zao V' []=[] from rfl,e] at this
   cases this
 |some st=>
  obtain ⟨U,_,rfl,rfl⟩:=zed (V:=fun _=>.non) (B:=[]) zcu e
  show _=if zeu B (zao U (za9 [] a))=_ then some (zao V B++zck B (zao U (za9 [] a))) else none
  have ek:zeu B (zao U (za9 [] a))=((za9 [] a).filter fun b=>decide (b∈B)).map U:=by
   unfold zeu
   rw [zib U _ (fun b=>decide (b∈B))]
   unfold zao
   rw [map_map]
   rfl
  have er:zck B (zao U (za9 [] a))=zao U ((za9 [] a).filter fun b=> !decide (b∈B)):=zib U _ (fun b=> !decide (b∈B))
  rw [ek,er]
  by_cases hk:((za9 [] a).filter fun b=>decide (b∈B)).map U=((za9 [] a).filter fun b=>decide (b∈B)).map V
  ·rw [if_pos hk]
   have hUV:∀b∈za9 [] a,b∈B->U b=V b:=fun b hb hb'=>List.map_inj_left.mp hk b (mem_filter.mpr ⟨hb,decide_eq_true hb'⟩)
   let V':Str->D:=fun b=>if b∈B then V b else U b
   have h1:a.map (zbr U)=a.map (zbr V'):=map_congr_left fun x hx=>by
    unfold zbr
    by_cases e:zaq x=true
    ·rw [if_pos e,if_pos e]
     have hm:=zdw hx e (B:=[])
     show U x.name=if x.name∈B then V x.name else U x.name
     by_cases z:x.name∈B
     ·rw [if_pos z];exact hUV _ hm z
     ·rw [if_neg z]
    ·rw [if_neg e,if_neg e]
   have h2:zao V B=zao V' B:=zga fun b hb=>by show V b=if b∈B then V b else U b;rw [if_pos hb]
   rw [h1,h2,zm9 hB hG.1 hG.2,zcz,graph_app]
   congr 2
   exact zga fun b hb=>by
    have:b∉B:=by simpa using (mem_filter.mp hb).2
    show (if b∈B then V b else U b)=U b
    rw [if_neg this]
  ·rw [if_neg hk]
   cases e2:zb9 a (a.map (zbr U)) (zao V B) with
   |none=>rfl
   |some S=>
    obtain ⟨V',h1,_,h3⟩:=zed hB e2
    refine absurd ?_ hk
    refine map_congr_left fun b hb=>?_
    obtain ⟨hb1,hb2⟩:=mem_filter.mp hb
    have hb2:=of_decide_eq_true hb2
    rcases zmq hb1 with z|⟨x,hx,hx1,rfl⟩
    ·cases z
    ·have:=List.map_inj_left.mp h3 x hx
     unfold zbr at this
     rw [if_pos hx1,if_pos hx1] at this
     rw [this,h1 _ hb2]
abbrev zfq:=List D×(Nat×zan)
def zej (a:List D)(facts:List (List D))(B:List Str):List zfq:=facts.zipIdx.filterMap fun p=>(zb9 a p.1 []).map fun st=>(zeu B st,(p.2,zck B st))
def zyf (of:List zfq)(key:List D)(w:Way):List Way:=((of.filter fun o=>decide (o.1=key)).map fun o=>(w.1++o.2.2,w.2++[o.2.1]))
theorem zsn {a:List D}{facts:List (List D)}{V:Str->D}{B:List Str}{pl:List Nat}(hB:AllBl B)(hG:zmx a):zyf (zej a facts B) (((za9 [] a).filter fun b=>decide (b∈B)).map V) (zao V B,pl)=ext facts a (zao V B,pl):=by
 unfold zyf zej ext
 show List.map (fun o:zfq=>(zao V B++o.2.2,pl++[o.2.1])) _=List.filterMap (fun (p:List D×Nat)=>(zb9 a p.1 (zao V B)).map fun S=>(S,pl++[p.2])) facts.zipIdx
 generalize facts.zipIdx=l
 induction l with
 |nil=>rfl
 |cons p r ih=>
  have hm:=zue (f:=p.1) (V:=V) hB hG
  cases e:zb9 a p.1 [] with
  |none=>
   have h1:zb9 a p.1 (zao V B)=none:=by rw [hm,e];rfl
   rw [List.filterMap_cons_none (f:=fun (p:List D×Nat)=>(zb9 a p.1 []).map fun st=>(zeu B st,(p.2,zck B st))) (a:=p) (show Option.map _ (zb9 a p.1 [])=none by rw [e];rfl),List.filterMap_cons_none (f:=fun (p:List D×Nat)=>(zb9 a p.1 (zao V B)).map fun S=>(S,pl++[p.2])) (a:=p) (show Option.map _ (zb9 a p.1 (zao V B))=none by rw [h1];rfl)]
   exact ih
  |some st=>
   rw [List.filterMap_cons_some (f:=fun (p:List D×Nat)=>(zb9 a p.1 []).map fun st=>(zeu B st,(p.2,zck B st))) (a:=p) (b:=(zeu B st,(p.2,zck B st))) (show Option.map _ (zb9 a p.1 [])=_ by rw [e];rfl),filter_cons]
   by_cases hk:zeu B st=((za9 [] a).filter fun b=>decide (b∈B)).map V
   ·have h1:zb9 a p.1 (zao V B)=some (zao V B++zck B st):=by rw [hm,e];exact if_pos hk
    rw [List.filterMap_cons_some (f:=fun (p:List D×Nat)=>(zb9 a p.1 (zao V B)).map fun S=>(S,pl++[p.2])) (a:=p) (b:=(zao V B++zck B st,pl++[p.2])) (show Option.map _ (zb9 a p.1 (zao V B))=_ by rw [h1];rfl),if_pos (decide_eq_true hk),map_cons,ih]
   ·have h1:zb9 a p.1 (zao V B)=none:=by rw [hm,e];exact if_neg hk
    rw [List.filterMap_cons_none (f:=fun (p:List D×Nat)=>(zb9 a p.1 (zao V B)).map fun S=>(S,pl++[p.2])) (a:=p) (show Option.map _ (zb9 a p.1 (zao V B))=none by rw [h1];rfl),if_neg (by simpa using hk),ih]
structure StepD where
 atom:List D
 ok:zan->Bool
def zwx (facts:List (List D))(s:StepD)(w:Way):List Way:=(ext facts s.atom w).filter fun w=>s.ok w.1
def zhr (facts:List (List D)):List StepD->List Way->List Way
 |[],ws=>ws
 |s::r,ws=>zhr facts r (ws.flatMap (zwx facts s))
theorem zqr (facts:List (List D)):∀(as:List (List D)),zgz facts as []=[]
 |[]=>rfl
 |a::r=>zqr facts r
theorem zqt (facts:List (List D)):∀(as:List StepD) (xs ys:List Way),zhr facts as (xs++ys)=zhr facts as xs++zhr facts as ys
 |[],_,_=>rfl
 |a::r,xs,ys=>by
  show zhr facts r ((xs++ys).flatMap _)=zhr facts r (xs.flatMap _)++zhr facts r (ys.flatMap _)
  rw [flatMap_append,zqt facts r]
theorem zqs (facts:List (List D)):∀(as:List StepD),zhr facts as []=[]
 |[]=>rfl
 |a::r=>zqs facts r
theorem znq (facts:List (List D))(as:List StepD):∀ws:List Way,zhr facts as ws=ws.flatMap fun w=>zhr facts as [w]
 |[]=>zqs facts as
 |w::r=>by
  have:zhr facts as (w::r)=zhr facts as [w]++zhr facts as r:=zqt facts as [w] r
  rw [this,znq facts as r]
  rfl
theorem zkh (facts:List (List D))(p:zan->Bool):∀(as:List (List D)) (B:List Str) (ws:List Way),AllBl B->(∀V V':Str->D,∀C,AllBl (B++C)->(∀b∈B,V' b=V b)->p (zao V' (B++C))=p (zao V B))->(∀w∈ws,∃V,w.1=zao V B)->zgz facts as (ws.filter fun w=>p w.1)=(zgz facts as ws).filter fun w=>p w.1
 |[],_,ws,_,_,_=>rfl
 |a::r,B,ws,hB,hp,hw=>by
  show zgz facts r ((ws.filter _).flatMap (ext facts a))=(zgz facts r (ws.flatMap (ext facts a))).filter _
  have ext_ok:∀w∈ws,∀x∈ext facts a w,∃V V',w.1=zao V B/\x.1=zao V' (za9 B a)/\∀b∈B,V' b=V b:=fun w hw' x hx=>by
   obtain ⟨V,e⟩:=hw w hw'
   obtain ⟨S,pl⟩:=x
   obtain ⟨i,f,_,hm,_⟩:=mem_ext.mp hx
   rw [e] at hm
   obtain ⟨V',h1,h2,_⟩:=zed hB hm
   exact ⟨V,V',e,h2,h1⟩
  have e1:(ws.filter fun w=>p w.1).flatMap (ext facts a)=(ws.flatMap (ext facts a)).filter fun w=>p w.1:=by
   clear hw
   revert ext_ok
   induction ws with
   |nil=>exact fun _=>rfl
   |cons w t ih=>
    intro ext_ok
    have ih:=ih (fun w hw=>ext_ok w (mem_cons_of_mem _ hw))
    rw [flatMap_cons,filter_append,<-ih,filter_cons]
    have key:∀x∈ext facts a w,p x.1=p w.1:=fun x hx=>by
     obtain ⟨V,V',e,e2,h⟩:=ext_ok w mem_cons_self x hx
     rw [e,e2,zcz]
     exact hp V V' _ (by rw [<-zcz];exact zcf hB) h
    by_cases q:p w.1=true
    ·rw [if_pos q,flatMap_cons]
     congr 1
     exact (filter_eq_self.mpr fun x hx=>by rw [key x hx];exact q).symm
    ·rw [if_neg q]
     have:(ext facts a w).filter (fun w=>p w.1)=[]:=List.filter_eq_nil_iff.mpr fun x hx=>by rw [key x hx];exact q
     rw [this,nil_append]
  rw [e1]
  refine zkh facts p r (za9 B a) _ (zcf hB) (fun V V' C hC h=>?_) (fun x hx=>?_)
  ·have hBa:AllBl (B++(za9 [] a).filter fun b=> !decide (b∈B)):=by rw [<-zcz];exact zcf hB
   rw [zcz] at h hC⊢
   rw [append_assoc] at hC⊢
   rw [hp V V' _ hC fun b hb=>h b (mem_append_left _ hb),hp V V _ hBa fun b _=>rfl]
  ·obtain ⟨w,hw',hx⟩:=mem_flatMap.mp hx
   obtain ⟨V,V',_,e,_⟩:=ext_ok w hw' x hx
   exact ⟨V',e⟩
theorem znp (facts:List (List D)):∀(ss:List StepD) (B:List Str) (ws:List Way),AllBl B->(∀w∈ws,∃V,w.1=zao V B)->
  (∀(i:Nat) (s:StepD),ss[i]?=some s->∀V V':Str->D,∀C,AllBl (zaj B ((ss.take (i+1)).map (·.atom))++C)->(∀b∈zaj B ((ss.take (i+1)).map (·.atom)),V' b=V b)->s.ok (zao V' (zaj B ((ss.take (i+1)).map (·.atom))++C))=s.ok (zao V (zaj B ((ss.take (i+1)).map (·.atom)))))->
  zhr facts ss ws=(zgz facts (ss.map (·.atom)) ws).filter fun w=>ss.all fun s=>s.ok w.1
 |[],_,ws,_,_,_=>by
  show ws=ws.filter fun w=>true
  exact (filter_eq_self.mpr fun _ _=>rfl).symm
 |s::r,B,ws,hB,hw,hs=>by
  show zhr facts r (ws.flatMap (zwx facts s))=(zgz facts (r.map (·.atom)) (ws.flatMap (ext facts s.atom))).filter fun w=>s.ok w.1&&r.all fun s=>s.ok w.1
  have e1:ws.flatMap (zwx facts s)=(ws.flatMap (ext facts s.atom)).filter fun w=>s.ok w.1:=by
   rw [List.filter_flatMap]
   rfl
  have hx:∀x∈ws.flatMap (ext facts s.atom),∃V,x.1=zao V (za9 B s.atom):=fun x hx=>by
   obtain ⟨w,hw',hx⟩:=mem_flatMap.mp hx
   obtain ⟨V,e⟩:=hw w hw'
   obtain ⟨S,pl⟩:=x
   obtain ⟨i,f,_,hm,_⟩:=mem_ext.mp hx
   rw [e] at hm
   obtain ⟨V',h1,h2,_⟩:=zed hB hm
   exact ⟨V',h2⟩
  have h0:=hs 0 s rfl
  have h0:∀V V':Str->D,∀C,AllBl (za9 B s.atom++C)->(∀b∈za9 B s.atom,V' b=V b)->s.ok (zao V' (za9 B s.atom++C))=s.ok (zao V (za9 B s.atom)):=h0
  rw [e1,znp facts r (za9 B s.atom) _ (zcf hB) (fun x hx'=>hx x (mem_filter.mp hx').1) (fun i t ht=>hs (i+1) t ht),zkh facts s.ok _ (za9 B s.atom) _ (zcf hB) h0 hx,List.filter_filter]
  exact filter_congr fun w _=>Bool.and_comm _ _
end FL
namespace FL
open PySem L2
def okS:D->Prop
 |.str s=>s.length<=sizeLine/\∃c r,s.cps.toList=c::r
 |_=>True
def RBlank:List D->D->Prop:=fun ds d=>∃x,ds=[x]/\okS x/\d=.bl (zaq x)
theorem zuv {s:Str}{c:Nat}{r:List Nat}(h:s.cps.toList=c::r):s.cps.getD 0 0=c:=by
 have:s.cps.getD 0 0=s.cps.toList.getD 0 0:=by simp
 rw [this,h];rfl
def optD:Option zan->D
 |some F=>.lst (zbj F)
 |none=>.non
def zwn:List D->D->Prop:=fun ds d=>∃A Fc ps,ds=[.tup A,.tup Fc,.lst (zbj ps)]/\(∀x∈A,x.sc=true/\okS x)/\(∀y∈Fc,y.sc=true)/\(∀p∈ps,p.2.sc=true)/\A.length<=100/\ps.length<=100/\A≠[]/\Fc≠[]/\d=optD (zb9 A Fc ps)
theorem zipD_at {A Fc:List D}{j:Nat}{d:D}(h:(zipD A Fc)[j]?=some d):∃x y,A[j]?=some x/\Fc[j]?=some y/\d=.tup [x,y]/\(A.zip Fc).drop j=(x,y)::(A.zip Fc).drop (j+1):=by
 unfold zipD at h
 rw [List.getElem?_zipWith] at h
 cases e1:A[j]? with
 |none=>rw [e1] at h;cases h
 |some x=>
  cases e2:Fc[j]? with
  |none=>rw [e1,e2] at h;cases h
  |some y=>
   rw [e1,e2] at h
   refine ⟨x,y,rfl,rfl,(Option.some.inj h).symm,?_⟩
   have hz:(A.zip Fc)[j]?=some (x,y):=by
    show (List.zipWith Prod.mk A Fc)[j]?=_
    rw [List.getElem?_zipWith,e1,e2]
   obtain ⟨hj,e3⟩:=List.getElem?_eq_some_iff.mp hz
   rw [List.drop_eq_getElem_cons hj,e3]
structure OkA (A:List D):Prop where
 sc:∀x∈A,x.sc=true/\okS x
 ne:A≠[]
 len:A.length<=100
def zap (A:List D):Bool:=decide (A.headD .non=.str "less")||decide (A.headD .non=.str "unlike")
def RGuard:List D->D->Prop:=fun ds d=>∃A,ds=[.tup A]/\OkA A/\d=.bl (zap A)
def zcp (B:List Str):D:=.lst (B.map D.str)
def zii:List D->D->Prop:=fun ds d=>∃A,ds=[.tup A]/\OkA A/\d=zcp (za9 [] A)
def holdsD (r:Str)(a b:D):Bool:=if r="unlike" then !decide (a=b) else match a,b with
 |.int i,.int j=>decide (i<j)
 |_,_=>false
def holdsA:List D->Bool
 |[.str r,a,b]=>holdsD r a b
 |_=>false
def zwo:List D->D->Prop:=fun ds d=>∃r a b,ds=[.tup [.str r,a,b]]/\a.sc=true/\b.sc=true/\d=.bl (holdsD r a b)
def zgu (as:List (List D)):D:=.tup (as.map D.tup)
def zbg (as:List (List D)):D:=.lst (as.map D.tup)
def RAskers:List D->D->Prop:=fun ds d=>∃as,ds=[zgu as]/\(∀a∈as,OkA a)/\as.length<=100/\d=zbg (as.filter fun a=> !zap a)
def zqf:List D->D->Prop:=fun ds d=>∃as,ds=[zgu as]/\(∀a∈as,OkA a)/\as.length<=100/\d=zbg (as.filter zap)
def zuz:List D->D->Prop:=fun ds d=>∃l ps,ds=[.tup l,.lst (zbj ps)]/\(∀x∈l,x.sc=true)/\(∀p∈ps,p.2.sc=true)/\l.length<=1000/\d=.tup (l.map (zdh ps))
def zgm (B:List Str):List (Key×V):=B.map fun b=>(Sum.inr b,V.bl true)
theorem put_names (B:List Str)(n:Str):zgs (zgm B) (Sum.inr n) (V.bl true)=zgm (if n∈B then B else B++[n]):=by
 have key:∀B:List Str,((zgm B).any fun kv=>decide (kv.1=(Sum.inr n:Key)))=decide (n∈B):=by
  intro B
  induction B with
  |nil=>rfl
  |cons b r ih=>
   show (decide ((Sum.inr b:Key)=Sum.inr n)||(zgm r).any fun kv=>decide (kv.1=(Sum.inr n:Key)))=_
   rw [ih]
   have:decide ((Sum.inr b:Key)=Sum.inr n)=decide (b=n):=by simp
   rw [this]
   by_cases e:b=n
   ·simp [e]
   ·have e':¬n=b:=fun z=>e z.symm
    simp [e,e']
 unfold zgs
 rw [key B]
 by_cases e:n∈B
 ·rw [decide_eq_true e,if_pos rfl,if_pos e]
  unfold zgm
  rw [map_map]
  refine map_congr_left fun b _=>?_
  show (if (Sum.inr b:Key)=Sum.inr n then ((Sum.inr b:Key),V.bl true) else (Sum.inr b,V.bl true))=(Sum.inr b,V.bl true)
  split<;>rfl
 ·rw [decide_eq_false e,if_neg Bool.false_ne_true,if_neg e]
  unfold zgm
  rw [map_append]
  rfl
theorem zyk {B:List Str}{x:D}(h:zaq x=true):zgv B x=if x.name∈B then B else B++[x.name]:=by
 unfold zgv
 by_cases e:x.name∈B
 ·rw [if_neg (by simp [e]),if_pos e]
 ·rw [if_pos (by simp [e,h]),if_neg e]
theorem zqe {B:List Str}{x:D}(h:zaq x=false):zgv B x=B:=by unfold zgv;rw [if_neg (by simp [h])]
theorem zjx {l:List D}{j:Nat}{x:D}(h:l[j]?=some x):za9 [] (l.take (j+1))=zgv (za9 [] (l.take j)) x:=by
 unfold za9
 rw [take_add_one,h,foldl_append]
 rfl
theorem zd9 (l:List D):∀B:List Str,(za9 B l).length<=B.length+l.length:=by
 induction l with
 |nil=>intro B;exact Nat.le_refl _
 |cons x r ih=>
  intro B
  have h1:=ih (zgv B x)
  have h2:(zgv B x).length<=B.length+1:=by
   unfold zgv
   split
   ·rw [length_append];exact Nat.le_refl _
   ·omega
  show (za9 (zgv B x) r).length<=_
  rw [length_cons]
  omega
section
variable {σ:St}{δ:Dn}{M:List Addr}{H:Hp}{ty tz:TE}{E:zka}{K:PySem.W.Frag}
theorem s_newD {i:Nat}(l:Live M H)(hE:EnvR (but H M) σ δ)(hi:i<δ.length)
  (q:∀p σ' H',(∀j:Nat,j≠i->σ'[j]?=σ[j]?)->σ'[i]?=some (some (.ref p))->p∉M->H' p=some (.dK [])->Live (p::M) H'->(∀b o,H b=some o->b≠p/\H' b=some o)->EnvR (but H' (p::M)) σ' (δ.set i none)->E.nx σ' H'):zqi tDNewK (zdz i) E σ H:=fun p hp=>by
 have hl:=hE.len
 refine q p _ _ (fun j hj=>getElem?_set_ne (Ne.symm hj)) (getElem?_set_self (by omega)) (l.fresh hp) zae (l.upd.cons zae) (fun b o e=>?_) (zpw hE hp)
 have nb:b≠p:=zax e hp
 exact ⟨nb,by rw [zal nb];exact e⟩
theorem s_putN {i:Nat}{p:Addr}{B:List Str}{n:Str}(l:Live M H)(hE:EnvR (but H M) σ δ)(hpM:p∈M)(e:σ[i]?=some (some (.ref p)))(hp:H p=some (.dK (zgm B)))(hz:B.length<1000)(h:EvM ty (but H M) σ (.str n))(h2:EvM tz (but H M) σ (.bl true))
  (k:∀H',(∀b o,b≠p->H b=some o->H' b=some o)->Live M H'->H' p=some (.dK (zgm (if n∈B then B else B++[n])))->EnvR (but H' M) σ δ->E.nx σ H'):sDPut (zdk i) ty tz E σ H:=by
 refine h2 M H (Same.refl _) l _ fun v H1 s1 rv=>⟨.ref p,e,h M H1 (s1.but M) (l.same s1) _ fun u H2 s2 ru=>?_⟩
 have hp2:=s2 _ _ (s1 _ _ hp)
 have eu:=(zfs (d:=.str n) rfl ru).2
 have ev:=rv.of_bl
 have hlen:(zgm B).length<sizeLine:=by unfold zgm;rw [length_map];exact zar (by omega)
 refine ⟨p,_,rfl,by rw [eu];exact DPut.k (k:=Sum.inr n) hp2 hlen,?_⟩
 have eb:but (upd H2 p (.dK (zgs (zgm B) (Sum.inr n) v))) M=but H2 M:=zcy hpM
 refine k _ (fun b o hb q=>by rw [zal hb];exact s2 _ _ (s1 _ _ q)) (l.same (s1.trans s2)).upd ?_ ?_
 ·rw [zae,ev,put_names]
 ·rw [eb];exact hE.same (s1.trans s2)
end
theorem zjh {H:Hp}:∀(B:List Str),Reps H (B.map V.str) (B.map D.str)
 |[]=>.nil
 |b::r=>.cons (.str b) (zjh r)
end FL
namespace K05
open PySem L2 FL
def top (i:Nat):Stmt:=PySem.Challenge.pw_factloom_k05_ways.main.body.getD i (.Pass ⟨0,0,0,0⟩)
abbrev s_is_blank:Stmt:=top 3
abbrev s_is_guard:Stmt:=top 4
abbrev s_blanks_in:Stmt:=top 5
abbrev s_filled:Stmt:=top 6
abbrev s_matched:Stmt:=top 7
abbrev s_holds:Stmt:=top 8
abbrev s_askers_in:Stmt:=top 10
abbrev s_guards_in:Stmt:=top 11
abbrev s_slots_of:Stmt:=top 13
abbrev s_is_ready:Stmt:=top 14
abbrev s_steps_for:Stmt:=top 15
abbrev s_ways:Stmt:=top 17
abbrev s_law_whole:Stmt:=top 19
abbrev s_law_at:Stmt:=top 20
abbrev s_law_blanks_in:Stmt:=top 21
abbrev s_law_is_fact:Stmt:=top 22
abbrev s_law_same_facts:Stmt:=top 23
abbrev s_law_stands_ahead:Stmt:=top 24
abbrev s_law_fill_in:Stmt:=top 25
abbrev s_law_true:Stmt:=top 26
abbrev s_law_choices:Stmt:=top 27
abbrev s_law_are_pairs:Stmt:=top 28
abbrev s_law_way_kinds:Stmt:=top 29
abbrev s_law_body_by:Stmt:=top 30
abbrev s_law_a_way:Stmt:=top 31
abbrev s_law_mixed:Stmt:=top 32
abbrev zts:Stmt:=top 33
def zjp:Stmt->Nat->Stmt
 |.ClassDef (body:=b) ..,j=>b.getD j (.Pass ⟨0,0,0,0⟩)
 |s,_=>s
abbrev zee:Stmt:=zjp (top 12) 0
abbrev zdt:Stmt:=zjp (top 12) 1
abbrev zdm:Stmt:=zjp (top 12) 2
abbrev zcm:Stmt:=zjp (top 12) 3
abbrev zef:Stmt:=zjp (top 16) 0
abbrev zcv:Stmt:=zjp (top 16) 1
abbrev zcc:Stmt:=zjp (top 16) 2
abbrev zcn:Stmt:=zjp (top 16) 3
abbrev zcb:Stmt:=zjp (top 16) 4
section
variable {P:Program}{w:World}{K:PySem.W.Frag}{mg:Str->Option Value}{base:Heap}{f:Addr}{fd:FuncData}
theorem ztr:zbd ["part"] ["part"] (zam s_is_blank):=⟨rfl,rfl,rfl,by decide+kernel,rfl,by decide+kernel,by decide+kernel⟩
theorem zu9 (F:Fun K "is_blank" "is_blank" s_is_blank f fd)(B:Bl mg):FnOk P w K mg base CX0 1 f fd ["part"] (spR RBlank):=by
 refine F.ok ztr (zdq (n:=1) fun ds d ⟨x,e,_⟩=>by rw [e];rfl) (fun cdv A outer s H vs Q E hr h=>?_)
 obtain ⟨M,ds,d,lv,rs,⟨x,rfl,hx,rfl⟩,q⟩:=h
 refine ⟨_,(zag (zaz (znu (zeb B (pv 0) B.str PyProof.Rows.boot_str) (zrg (pe_upper (zay (pv 0) zai)))))),?_⟩
 have E0:=zbs rs ["part"]
 cases x with
 |str s=>
  obtain ⟨hz,c,r,e⟩:=hx
  exact zes lv ((zfh (b:=true) (zeq (d:=.str s) (zaw E0 rfl)) fun _=>ev_upper (ev_ixs hz (c:=c) (by rw [e];exact zct) (zaw E0 rfl) zak)).eq (by show D.bl (true&&_)=D.bl (Txt.isupper _);rw [zuv e,Bool.true_and])) q
 |non=>exact zes lv (zfh (b:=false) (c:=false) (zeq (d:=.non) (zaw E0 rfl)) fun z=>nomatch z) q
 |bl b=>exact zes lv (zfh (b:=false) (c:=false) (zeq (d:=.bl b) (zaw E0 rfl)) fun z=>nomatch z) q
 |int b=>exact zes lv (zfh (b:=false) (c:=false) (zeq (d:=.int b) (zaw E0 rfl)) fun z=>nomatch z) q
 |tup b=>exact zes lv (zfh (b:=false) (c:=false) (zeq (d:=.tup b) (zaw E0 rfl)) fun z=>nomatch z) q
 |lst b=>exact zes lv (zfh (b:=false) (c:=false) (zeq (d:=.lst b) (zaw E0 rfl)) fun z=>nomatch z) q
theorem sc_filled:zbd ["atom","setting","things"] ["atom","setting"] (zam s_filled):=⟨rfl,rfl,rfl,by decide+kernel,rfl,by decide+kernel,by decide+kernel⟩
theorem ok_filled (F:Fun K "filled" "filled" s_filled f fd)(B:Bl mg):FnOk P w K mg base CX0 1 f fd ["atom","setting"] (spR zuz):=by
 refine F.ok sc_filled (zdq (n:=2) fun ds d ⟨l,ps,e,_⟩=>by rw [e];rfl) (fun cdv A outer s H vs Q E hr h=>?_)
 obtain ⟨M,ds,d,lv,rs,⟨l,ps,rfl,hl,hp,hz,rfl⟩,q⟩:=h
 have hu:=zoa hr
 have hu1:=zmf hr
 refine ⟨_,(zad (zbe (i:=2) sc_filled.nd rfl (Or.inr rfl) (zpb B (pv 1)))
   (zag (zaz (zhx B (zdn ["things","part"] [2] 1 (zcg (pv 0)) (fun _ _ _ _ _=>(zau (i:=1) (show (["things","part"]:List Str).Nodup from by decide+kernel) rfl (by first|exact Or.inl rfl|exact Or.inr rfl))) (fun _ _ _ _ _=>zhv) (fun _ _ _ _ _=>(zlm hu1 (pv 0) (pv 1) (pv 1) ⟨rfl,rfl,rfl,rfl⟩))))))),?_⟩
 have E0:=zbs rs ["atom","setting","things"]
 obtain ⟨v,hv,rv⟩:=E0.get 1 _ rfl
 obtain ⟨a,us,rfl,h1,h2⟩:=rv.of_lst
 refine ⟨.ref a,hv,a,us,zbx ps,rfl,SqL.of (zac h1).2,zjk hp h2,fun p hn=>?_⟩
 have s1:=zbm hn (.dK (zbk [] (zbx ps)))
 have hpM:=lv.fresh hn
 have E1:=(E0.same s1).off 2 (some (.ref p))
 have hGp:but (upd H p (.dK (zbk [] (zbx ps)))) M p=some (.dK (zbk [] (zbx ps))):=by rw [zat hpM];exact zae
 have hs2:((L2.start ["atom","setting","things"] vs).set 2 (some (V.ref p)))[2]?=some (some (.ref p)):=getElem?_set_self (by rw [E0.len];show 2<3;decide)
 refine zes (lv.same s1) (zid (zaa ((zer (i:=1) (p:=fun _=>true) (f:=zdh ps) (zfc (zaw E1 rfl)) (fun G' v d _ _ _=>zic) (fun G' v d sG hd _ r=>ev_get2 (a:=p) ?_ (sG _ _ hGp) (hl d hd) hp (zch ?_ r)) (zar hz)).eq ?_) zaf)) fun v H2 s2 r2=>q v H2 (s1.trans s2) r2
 ·simp [zas,hs2]
 ·simp [zas]
 ·rw [filter_eq_self.mpr fun _ _=>rfl]
theorem sc_matched:zbd ["atom","fact","setting","things","further","part","thing"] ["atom","fact","setting"] (zam s_matched):=⟨rfl,rfl,rfl,by decide+kernel,rfl,by decide+kernel,by decide+kernel⟩
theorem zxe (F:Fun K "matched" "matched" s_matched f fd)(B:Bl mg)(G_is_blank:Has P w K mg base 1 "is_blank" ["part"] (spR RBlank)):FnOk P w K mg base CX0 2 f fd ["atom","fact","setting"] (spR zwn):=by
 refine F.ok sc_matched (zdq (n:=3) fun ds d ⟨_,_,_,e,_⟩=>by rw [e];rfl) (fun cdv A outer s H vs Q E hr h=>?_)
 obtain ⟨M,ds,d,lv,rs,⟨At,Fc,ps,rfl,hA,hFc,hps,hzA,hzP,nA,nF,rfl⟩,q⟩:=h
 have hu:=zoa hr
 have hu1:=zmf hr
 refine ⟨_,(zad (zdl (zjj (zbb (zff (by exact hu)) (zay (pv 0) zai) (zay (pv 1) zai) (zbl _)) (zit (zbb (zff (by exact hu)) (zdb B (pv 0)) (zdb B (pv 1)) (zbl _)))).pt (zag (zaz zrh)) zbh)
   (zad (zbe (i:=3) sc_matched.nd rfl (Or.inl rfl) (zpb B (pv 2)))
   (zad (zbe (i:=4) sc_matched.nd rfl (Or.inl rfl) (zvq B (pv 2)))
   (zad (zdr PassesOwn.never rfl (pi_zipT B.zip (zab (pv 0) (zab (pv 1) zah))) (znt rfl (zde (zau (i:=5) sc_matched.nd rfl (by first|exact Or.inl rfl|exact Or.inr rfl)) (zde (zau (i:=6) sc_matched.nd rfl (by first|exact Or.inl rfl|exact Or.inr rfl)) zhw))) (zag (zdl (zha (zcl (zca G_is_blank hr (zab (pv 5) zah))) (zfm (zrd (zri (by exact hu1) (pv 5) (pv 3))))).pt (zad (zoy hu1 (pv 3) (pv 5) (pv 6) rfl)
   (zag (zdf (pv 4) (zec (zab (pv 5) (zab (pv 6) zah)))))) (zag (zdl (zbb (zff (by exact hu)) (zlm hu1 (pv 3) (pv 5) (pv 5) ⟨rfl,rfl,rfl,rfl⟩) (pv 6) (zbl _)) (zag (zaz zrh)) zbh)))))
   (zag (zaz (pv 4))))))),?_⟩
 have E0:=zbs rs ["atom","fact","setting","things","further","part","thing"]
 obtain ⟨x0,A',rfl⟩:=List.exists_cons_of_ne_nil nA
 obtain ⟨y0,F',rfl⟩:=List.exists_cons_of_ne_nil nF
 have hc0:=zfe (hA x0 mem_cons_self).1 (hFc y0 mem_cons_self)
 refine zk9 lv E0 (zdu (zav (zjs hc0.1 hc0.2 (zbw (d:=x0) zct (zaw E0 rfl) zak) (zbw (d:=y0) zct (zaw E0 rfl) zak))) fun _=>zav (zog (zgc (zaa (zaw E0 rfl) zaf)) (zgc (zaa (zaw E0 rfl) zaf)))) (fun e H1 s1 l1 E1=>?_) (fun e H1 s1 l1 E1=>nx ?_)
 ·have hm:optD (zb9 (x0::A') (y0::F') ps)=.non:=by
   unfold zb9
   rw [if_neg]
   rfl
   rintro ⟨z1,z2⟩
   have z1:x0=y0:=z1
   rw [z2,z1] at e
   simp at e
  rw [hm] at q
  exact q .non H1 s1 .non
 have hhead:x0=y0/\(x0::A').length=(y0::F').length:=by
  rw [Bool.or_eq_false_iff] at e
  refine ⟨by simpa using e.1,?_⟩
  have:=e.2
  simp only [Bool.not_eq_false',decide_eq_true_eq] at this
  exact Int.ofNat.inj this
 have hm:optD (zb9 (x0::A') (y0::F') ps)=optD (ztd ps ((x0::A').zip (y0::F'))):=by
  unfold zb9
  rw [if_pos]
  exact hhead
 rw [hm] at q
 have hlen:=hhead.2
 generalize x0::A'=Al at hA hzA q hlen E1
 generalize y0::F'=Fl at hFc q hlen E1
 refine s_dict (i:=3) (k:=2) l1 E1 (by simp) rfl hps fun p σ2 H2 o2 i2 n2 h2 l2 k2 E2=>?_
 refine s_copyS (i:=4) (k:=2) l2 E2 (by simp) rfl fun a vs3 σ3 H3 o3 i3 n3 h3 r3 l3 k3 E3=>?_
 have i33:σ3[3]?=some (some (.ref p)):=(o3 3 (by decide)).trans i2
 obtain ⟨nep,h3p⟩:=k3 _ _ h2
 have s12:Same H H2:=s1.trans fun b o e=>(k2 b o e).2
 have s13:Same H H3:=s12.trans fun b o e=>(k3 b o e).2
 have Hp0:H p=none:=none_of s1 k2
 have Ha0:H a=none:=none_of s12 k3
 refine zfr (M:=a::p::M) (ds:=zipD Al Fl) (walk_zip hlen (zaa (zaw E3 rfl) (zaa (zaw E3 rfl) zaf))) l3 fun H4 s4=>?_
 refine ⟨fun j σ' H'=>∃Fr ws,ztd ps (Al.zip Fl)=ztd Fr ((Al.zip Fl).drop j)/\(∀t∈Fr,t.2.sc=true)/\Fr.length<=ps.length+j/\σ'[3]?=some (some (.ref p))/\σ'[4]?=some (some (.ref a))/\H' p=some (.dK (zbk [] (zbx Fr)))/\H' a=some (.lst ws)/\Reps (but H' (a::p::M)) ws (zbj Fr)/\Same H H'/\Live (a::p::M) H'/\Same (but H4 (a::p::M)) (but H' (a::p::M))/\EnvR (but H' (a::p::M)) σ' [some (.tup Al),some (.tup Fl),some (.lst (zbj ps)),none,none,none,none],
  ⟨ps,vs3,rfl,hps,by omega,i33,i3,s4 _ _ h3p,s4 _ _ h3,r3.mono (s4.but _),s13.trans s4,l3.same s4,Same.refl _,E3.same s4⟩,fun j σ' H' ⟨_,_,_,_,_,_,_,_,_,_,_,x,y,_⟩=>⟨y,x⟩,?_,?_⟩
 ·rintro j d x σ' H' H'' hd ⟨Fr,ws,hrun,hsc,hle,j3,j4,hp,ha,ra,S0,l',S',E'⟩ s5 rx
  obtain ⟨x1,y1,ex,ey,rfl,hdrop⟩:=zipD_at hd
  have hx1:=hA x1 (mem_of_getElem? ex)
  have hy1:=hFc y1 (mem_of_getElem? ey)
  have hj:j<Al.length:=(List.getElem?_eq_some_iff.mp ex).1
  refine zod rx fun v1 v2 r1 r2=>?_
  have E5:EnvR (but H'' (a::p::M)) ((σ'.set 5 (some v1)).set 6 (some v2)) [some (.tup Al),some (.tup Fl),some (.lst (zbj ps)),none,none,some x1,some y1]:=((E'.same s5).set 5 r1).set 6 r2
  have l5:=l'.same s5
  have b3:((σ'.set 5 (some v1)).set 6 (some v2))[3]?=some (some (.ref p)):=by rw [getElem?_set_ne (by decide),getElem?_set_ne (by decide)];exact j3
  have b4:((σ'.set 5 (some v1)).set 6 (some v2))[4]?=some (some (.ref a)):=by rw [getElem?_set_ne (by decide),getElem?_set_ne (by decide)];exact j4
  have hp5:=s5 _ _ hp
  have ha5:=s5 _ _ ha
  have ra5:=ra.mono (s5.but (a::p::M))
  rw [hdrop] at hrun
  refine s_ifV l5 E5 (tv_and (TV.of l5 (zby (zba ⟨x1,rfl,hx1.2,rfl⟩ (zaa (zaw E5 rfl) zaf)))) fun _=>tv_notin b3 hp5 hx1.1 l5 (zaw E5 rfl)) (fun e H6 s6 l6 E6=>?_) (fun e H6 s6 l6 E6=>?_)
  ·obtain ⟨n,rfl⟩:∃n,x1=.str n:=by
    cases x1 with
    |str n=>exact ⟨n,rfl⟩
    |_=>simp [zaq] at e
   have hst:ztd ps (Al.zip Fl)=ztd (Fr++[(n,y1)]) ((Al.zip Fl).drop (j+1)):=by
    rw [hrun]
    show (zin Fr (.str n) y1).bind _=_
    unfold zin
    rw [if_pos e]
    rfl
   refine s_dputE (n:=n) (y:=y1) l6 E6 (by simp) b3 (s6 _ _ hp5) hy1 (by omega) (zaw E6 rfl) (zaw E6 rfl) fun H7 k7 l7 h7 E7=>?_
   have S67:Same (but H6 (a::p::M)) (but H7 (a::p::M)):=zfg (by simp) k7
   refine zxb l7 E7 (a:=a) (by simp) b4 (k7 _ _ (Ne.symm nep) (s6 _ _ ha5)) (ra5.mono ((s6.but _).trans S67)) (by simp only [zbj,length_map];exact zar (by omega)) (zcq (zaa (zaw E7 rfl) (zaa (zaw E7 rfl) zaf))) fun v8 H8 k8 l8 h8 r8 E8=>?_
   have S78:Same (but H7 (a::p::M)) (but H8 (a::p::M)):=zfg (by simp) k8
   exact ⟨Fr++[(n,y1)],_,hst,ztm hsc hy1,by rw [length_append,length_singleton];omega,b3,b4,k8 _ _ nep h7,h8,by rw [zxd];exact r8,zcs (zcs (S0.trans (s5.trans s6)) Hp0 k7) Ha0 k8,l8,S'.trans (((s5.trans s6).but _).trans (S67.trans S78)),(E8.drop 5).drop 6⟩
  ·refine s_ifV l6 E6 (tv_getne b3 (s6 _ _ hp5) hx1.1 hy1 hsc l6 (zaw E6 rfl) (zaw E6 rfl)) (fun e2 H7 s7 l7 E7=>?_) (fun e2 H7 s7 l7 E7=>nx ?_)
   ·have hst:ztd ps (Al.zip Fl)=none:=by
     rw [hrun]
     show (zin Fr x1 y1).bind _=_
     unfold zin
     rw [e,if_neg Bool.false_ne_true,if_neg (by simpa using e2)]
     rfl
    rw [hst] at q
    exact q .non H7 (S0.trans (s5.trans (s6.trans s7))) .non
   ·have hst:ztd ps (Al.zip Fl)=ztd Fr ((Al.zip Fl).drop (j+1)):=by
     rw [hrun]
     show (zin Fr x1 y1).bind _=_
     unfold zin
     rw [e,if_neg Bool.false_ne_true,if_pos (by simpa using e2)]
     rfl
    have s67:=s6.trans s7
    exact ⟨Fr,ws,hst,hsc,by omega,b3,b4,s67 _ _ hp5,s67 _ _ ha5,ra5.mono (s67.but _),S0.trans (s5.trans s67),l7,S'.trans ((s5.trans s67).but _),(E7.drop 5).drop 6⟩
 ·rintro σ' H' ⟨Fr,ws,hrun,hsc,hle,j3,j4,hp,ha,ra,S0,l',S',E'⟩
  have hd0:(Al.zip Fl).drop (zipD Al Fl).length=[]:=List.drop_eq_nil_of_le (by simp [zipD])
  rw [hd0] at hrun
  rw [hrun] at q
  refine ⟨.ref a,j4,q (.ref a) H' S0 ?_⟩
  have n3':a∉M:=fun z=>n3 (mem_cons_of_mem _ z)
  exact zep n3' ha (ra.mono (zcj fun b hb=>by
   rcases mem_cons.mp hb with rfl|hb
   ·exact mem_cons_self
   ·exact mem_cons_of_mem _ (mem_cons_of_mem _ hb)))
theorem ztq:zbd ["atom"] ["atom"] (zam s_is_guard):=⟨rfl,rfl,rfl,by decide+kernel,rfl,by decide+kernel,by decide+kernel⟩
theorem ztz {uL uU:Value}(F:Fun K "is_guard" "is_guard" s_is_guard f fd)(B:Bl mg)(c_LESS:mg "LESS"=some uL/\RelV (.str "less") uL)(c_UNLIKE:mg "UNLIKE"=some uU/\RelV (.str "unlike") uU):FnOk P w K mg base CX0 1 f fd ["atom"] (spR RGuard):=by
 refine F.ok ztq (zdq (n:=1) fun ds d ⟨x,e,_⟩=>by rw [e];rfl) (fun cdv A outer s H vs Q E hr h=>?_)
 obtain ⟨M,ds,d,lv,rs,⟨At,rfl,hA,rfl⟩,q⟩:=h
 have hu:=zoa hr
 refine ⟨_,(zag (zaz (pe_or (zfo (zgl (by exact hu)) (zay (pv 0) zai) (ztv rfl c_LESS.1 c_LESS.2) (zbl _)) (zrg (zfo (zgl (by exact hu)) (zay (pv 0) zai) (ztv rfl c_UNLIKE.1 c_UNLIKE.2) (zbl _)))))),?_⟩
 have E0:=zbs rs ["atom"]
 obtain ⟨x0,A',rfl⟩:=List.exists_cons_of_ne_nil hA.ne
 have h0:=(hA.sc x0 mem_cons_self).1
 have c1:=zfe (a:=x0) (b:=.str "less") h0 rfl
 have c2:=zfe (a:=x0) (b:=.str "unlike") h0 rfl
 exact zes lv (ev_or (zoh c1.1 c1.2 (zbw (d:=x0) zct (zaw E0 rfl) zak) zbf) fun _=>zoh c2.1 c2.2 (zbw (d:=x0) zct (zaw E0 rfl) zak) zbf) q
theorem sc_blanks_in:zbd ["atom","found","part"] ["atom"] (zam s_blanks_in):=⟨rfl,rfl,rfl,by decide+kernel,rfl,by decide+kernel,by decide+kernel⟩
theorem zrr (F:Fun K "blanks_in" "blanks_in" s_blanks_in f fd)(B:Bl mg)(G_is_blank:Has P w K mg base 1 "is_blank" ["part"] (spR RBlank)):FnOk P w K mg base CX0 2 f fd ["atom"] (spR zii):=by
 refine F.ok sc_blanks_in (zdq (n:=1) fun ds d ⟨x,e,_⟩=>by rw [e];rfl) (fun cdv A outer s H vs Q E hr h=>?_)
 obtain ⟨M,ds,d,lv,rs,⟨At,rfl,hA,rfl⟩,q⟩:=h
 have hu:=zoa hr
 have hu1:=zmf hr
 refine ⟨_,(zad (zbe (i:=1) sc_blanks_in.nd rfl (Or.inl rfl) zll)
   (zad (zdr PassesOwn.never rfl (zcg (pv 0)) (zau (i:=2) sc_blanks_in.nd rfl (by first|exact Or.inl rfl|exact Or.inr rfl)) (zag (zdl (zcl (zca G_is_blank hr (zab (pv 2) zah))) (zag (zoy hu1 (pv 1) (pv 2) zfv rfl)) zbh)))
   (zag (zaz (pe_listD B (pv 1)))))),?_⟩
 have E0:=zbs rs ["atom","found","part"]
 refine s_newD (i:=1) lv E0 (by simp) fun p σ1 H1 o1 i1 n1 h1 l1 k1 E1=>?_
 have s01:Same H H1:=fun b o e=>(k1 b o e).2
 have Hp0:H p=none:=none_of (Same.refl H) k1
 refine zfr (M:=p::M) (ds:=At) (zfc (zaw E1 rfl)) l1 fun H2 s2=>?_
 refine ⟨fun j σ' H'=>σ'[1]?=some (some (.ref p))/\H' p=some (.dK (zgm (za9 [] (At.take j))))/\Same H H'/\Live (p::M) H'/\Same (but H2 (p::M)) (but H' (p::M))/\EnvR (but H' (p::M)) σ' [some (.tup At),none,none],
  ⟨i1,s2 _ _ h1,s01.trans s2,l1.same s2,Same.refl _,E1.same s2⟩,fun j σ' H' ⟨_,_,_,x,y,_⟩=>⟨y,x⟩,?_,?_⟩
 ·rintro j d x σ' H' H'' hd ⟨j1,hp,S0,l',S',E'⟩ s3 rx
  have hx:=hA.sc d (mem_of_getElem? hd)
  have hj:j<At.length:=(List.getElem?_eq_some_iff.mp hd).1
  have E3:EnvR (but H'' (p::M)) (σ'.set 2 (some x)) [some (.tup At),none,some d]:=(E'.same s3).set 2 rx
  have b1:(σ'.set 2 (some x))[1]?=some (some (.ref p)):=(getElem?_set_ne (by decide)).trans j1
  refine zk9 (l'.same s3) E3 (zby (zba ⟨d,rfl,hx.2,rfl⟩ (zaa (zaw E3 rfl) zaf))) (fun e H4 s4 l4 E4=>?_) (fun e H4 s4 l4 E4=>nx ?_)
  ·have hdn:=zfi e
   have hlen:=zd9 (At.take j) []
   rw [length_nil,length_take] at hlen
   refine s_putN (n:=d.name) l4 E4 (by simp) b1 (s4 _ _ (s3 _ _ hp)) (by have:=hA.len;omega) ((zaw E4 rfl).eq hdn) (ev_bl (b:=true)) fun H5 k5 l5 h5 E5=>?_
   have S5:Same (but H4 (p::M)) (but H5 (p::M)):=zfg (by simp) k5
   refine ⟨b1,?_,zcs (S0.trans (s3.trans s4)) Hp0 k5,l5,S'.trans (((s3.trans s4).but _).trans S5),E5.drop 2⟩
   rw [zjx hd,zyk e]
   exact h5
  ·refine ⟨b1,?_,S0.trans (s3.trans s4),l4,S'.trans ((s3.trans s4).but _),E4.drop 2⟩
   rw [zjx hd,zqe e]
   exact s4 _ _ (s3 _ _ hp)
 ·rintro σ' H' ⟨j1,hp,S0,l',S',E'⟩
  rw [take_of_length_le (Nat.le_refl _)] at hp
  refine ⟨.ref p,j1,p,_,rfl,.inl hp,fun a ha=>q (.ref a) _ (S0.trans (zbm ha _)) ?_⟩
  have e1:(zgm (za9 [] At)).map (fun kv=>kV kv.1)=(za9 [] At).map V.str:=by
   unfold zgm
   rw [map_map]
   rfl
  rw [e1]
  have haM:a∉M:=(lv.same S0).fresh ha
  refine .lst (vs:=(za9 [] At).map V.str) ?_ (zjh _)
  rw [zat haM]
  exact zae
theorem sc_holds:zbd ["guard","first","second"] ["guard"] (zam s_holds):=⟨rfl,rfl,rfl,by decide+kernel,rfl,by decide+kernel,by decide+kernel⟩
theorem ok_holds {uU:Value}(F:Fun K "holds" "holds" s_holds f fd)(B:Bl mg)(c_UNLIKE:mg "UNLIKE"=some uU/\RelV (.str "unlike") uU):FnOk P w K mg base CX0 1 f fd ["guard"] (spR zwo):=by
 refine F.ok sc_holds (zdq (n:=1) fun ds d ⟨_,_,_,e,_⟩=>by rw [e];rfl) (fun cdv A outer s H vs Q E hr h=>?_)
 obtain ⟨M,ds,d,lv,rs,⟨r,a,b,rfl,ha,hb,rfl⟩,q⟩:=h
 have hu:=zoa hr
 refine ⟨_,(zad (zbe (i:=1) sc_holds.nd rfl (Or.inl rfl) (zay (pv 0) zai))
   (zad (zbe (i:=2) sc_holds.nd rfl (Or.inl rfl) (zay (pv 0) zai))
   (zad (zdl (zbb (zgl (by exact hu)) (zay (pv 0) zai) (ztv rfl c_UNLIKE.1 c_UNLIKE.2) (zbl _)) (zag (zaz (zfo (zff (by exact hu)) (pv 1) (pv 2) (zbl _)))) zbh)
   (zag (zaz (znu (zeb B (pv 1) B.int PyProof.Rows.boot_int) (znu (zeb B (pv 2) B.int PyProof.Rows.boot_int) (zrg (zfo zrk (pv 1) (pv 2) (zbl _)))))))))),?_⟩
 have E0:=zbs rs ["guard","first","second"]
 refine zx9 lv E0 (zbw (d:=a) rfl (zaw E0 rfl) zak) fun σ1 H1 s1 l1 E1=>?_
 refine zx9 l1 E1 (zbw (d:=b) rfl (zaw E1 rfl) zak) fun σ2 H2 s2 l2 E2=>?_
 have hsc:=zfe ha hb
 refine zk9 l2 E2 (zav (zoh (d1:=.str r) (d2:=.str "unlike") rfl (Nat.zero_le _) (zbw (d:=.str r) rfl (zaw E2 rfl) zak) zbf)) (fun e H3 s3 l3 E3=>?_) (fun e H3 s3 l3 E3=>nx ?_)
 ·have er:r="unlike":=by simpa using e
  refine zes l3 (zjs hsc.1 hsc.2 (zaw E3 rfl) (zaw E3 rfl)) fun v H4 s4 r4=>q v H4 (s1.trans (s2.trans (s3.trans s4))) ?_
  unfold holdsD
  rw [if_pos er]
  exact r4
 ·have er:¬r="unlike":=by simpa using e
  have key:EvM (tAndV (tCB (rIs K) (zbp (zdk 1) (zbp (tC (.ty "int")) zev))) (tAndV (tCB (rIs K) (zbp (zdk 2) (zbp (tC (.ty "int")) zev))) (tOp (rI0 fun i j=>.bl (decide (i<j))) (zdk 1) (zdk 2)))) (but H3 M) σ2 (.bl (holdsD r a b)):=by
   unfold holdsD
   rw [if_neg er]
   cases a with
   |int i=>
    cases b with
    |int j=>exact zfh (b:=true) (c:=decide (i<j)) (zil (d:=.int i) (zaw E3 rfl)) fun _=>zfh (b:=true) (zil (d:=.int j) (zaw E3 rfl)) fun _=>zsi (zaw E3 rfl) (zaw E3 rfl)
    |str j=>exact zfh (b:=true) (c:=false) (zil (d:=.int i) (zaw E3 rfl)) fun _=>zfh (b:=false) (c:=false) (zil (d:=.str j) (zaw E3 rfl)) fun z=>nomatch z
    |_=>exact absurd hb (by simp [D.sc])
   |str i=>exact (zfh (b:=false) (c:=false) (zil (d:=.str i) (zaw E3 rfl)) fun z=>nomatch z)
   |_=>exact absurd ha (by simp [D.sc])
  exact zes l3 key fun v H4 s4 r4=>q v H4 (s1.trans (s2.trans (s3.trans s4))) r4
theorem zmg (p:D->Bool)(g:List D->Bool)(as:List (List D))(h:∀a∈as,p (.tup a)=g a):((as.map D.tup).filter p).map (fun d=>d)=(as.filter g).map D.tup:=by
 rw [List.map_id',List.filter_map]
 congr 1
 exact filter_congr h
def zvy:D->Bool
 |.tup A=>zap A
 |_=>false
theorem zqz:zbd ["body"] ["body"] (zam s_askers_in):=⟨rfl,rfl,rfl,by decide+kernel,rfl,by decide+kernel,by decide+kernel⟩
theorem zrs (F:Fun K "askers_in" "askers_in" s_askers_in f fd)(B:Bl mg)(G_is_guard:Has P w K mg base 1 "is_guard" ["atom"] (spR RGuard)):FnOk P w K mg base CX0 2 f fd ["body"] (spR RAskers):=by
 refine F.ok zqz (zdq (n:=1) fun ds d ⟨x,e,_⟩=>by rw [e];rfl) (fun cdv A outer s H vs Q E hr h=>?_)
 obtain ⟨M,ds,d,lv,rs,⟨as,rfl,hA,hz,rfl⟩,q⟩:=h
 refine ⟨_,(zag (zaz (zdn ["atom"] [] 1 (zcg (pv 0)) (fun _ _ _ _ _=>(zau (i:=0) (show (["atom"]:List Str).Nodup from by decide+kernel) rfl (by first|exact Or.inl rfl|exact Or.inr rfl))) (fun _ _ _ _ _=>(zez (zdp (zcl (zfn G_is_guard hr (zab (pv 0) zah)))))) (fun _ _ _ _ _=>(pv 0))))),?_⟩
 have E0:=zbs rs ["body"]
 refine zes lv (EvM.eq (zer (caps:=zas [] 1) (i:=0) (p:=fun d=> !zvy d) (f:=fun d=>d) (zfc (ds:=as.map D.tup) (zaw E0 rfl)) (fun G' v d sG hd r=>?_) (fun G' v d sG hd _ r=>zch ?_ r) (by rw [length_map];exact zar (by omega))) ?_) q
 ·obtain ⟨a,ha,rfl⟩:=mem_map.mp hd
  exact zbo (zby (zba (d:=.bl (zvy (.tup a))) ⟨a,rfl,hA a ha,rfl⟩ (zaa (zch (by simp [zas]) r) zaf)))
 ·simp [zas]
 ·rw [zmg _ (fun a=> !zap a) as fun a _=>rfl]
  rfl
theorem zqy:zbd ["body"] ["body"] (zam s_guards_in):=⟨rfl,rfl,rfl,by decide+kernel,rfl,by decide+kernel,by decide+kernel⟩
theorem zrq (F:Fun K "guards_in" "guards_in" s_guards_in f fd)(B:Bl mg)(G_is_guard:Has P w K mg base 1 "is_guard" ["atom"] (spR RGuard)):FnOk P w K mg base CX0 2 f fd ["body"] (spR zqf):=by
 refine F.ok zqy (zdq (n:=1) fun ds d ⟨x,e,_⟩=>by rw [e];rfl) (fun cdv A outer s H vs Q E hr h=>?_)
 obtain ⟨M,ds,d,lv,rs,⟨as,rfl,hA,hz,rfl⟩,q⟩:=h
 refine ⟨_,(zag (zaz (zdn ["atom"] [] 1 (zcg (pv 0)) (fun _ _ _ _ _=>(zau (i:=0) (show (["atom"]:List Str).Nodup from by decide+kernel) rfl (by first|exact Or.inl rfl|exact Or.inr rfl))) (fun _ _ _ _ _=>(zez (zcl (zfn G_is_guard hr (zab (pv 0) zah))))) (fun _ _ _ _ _=>(pv 0))))),?_⟩
 have E0:=zbs rs ["body"]
 refine zes lv (EvM.eq (zer (caps:=zas [] 1) (i:=0) (p:=zvy) (f:=fun d=>d) (zfc (ds:=as.map D.tup) (zaw E0 rfl)) (fun G' v d sG hd r=>?_) (fun G' v d sG hd _ r=>zch ?_ r) (by rw [length_map];exact zar (by omega))) ?_) q
 ·obtain ⟨a,ha,rfl⟩:=mem_map.mp hd
  exact zby (zba (d:=.bl (zvy (.tup a))) ⟨a,rfl,hA a ha,rfl⟩ (zaa (zch (by simp [zas]) r) zaf))
 ·simp [zas]
 ·rw [zmg _ zap as fun a _=>rfl]
  rfl
end
end K05
namespace FL
open PySem L2
inductive Da where
 |d (x:D)
 |k (kvs:List (Key×V))
def RepA (H:Hp)(v:V):Da->Prop
 |.d x=>Rep H v x
 |.k kvs=>∃a,v=.ref a/\H a=some (.dK kvs)
inductive RepsA (H:Hp):List V->List Da->Prop
 |nil:RepsA H [] []
 |cons {v:V} {x:Da} {vs:List V} {xs:List Da}:RepA H v x->RepsA H vs xs->RepsA H (v::vs) (x::xs)
theorem RepsA.length {H:Hp}:∀{vs:List V} {xs:List Da},RepsA H vs xs->vs.length=xs.length
 |_,_,.nil=>rfl
 |_,_,.cons _ r=>congrArg (· +1) r.length
def EvB (t:TA)(G:Hp)(σ:St)(xs:List Da):Prop:=∀M H,Same G (but H M)->Live M H->∀Q:List V->Hp->Prop,(∀vs H',Same H H'->RepsA (but H' M) vs xs->Q vs H')->t σ H Q
def spA (R:List Da->D->Prop):Sp:=fun vs H Q _=>∃M xs d,Live M H/\RepsA (but H M) vs xs/\R xs d/\∀v H',Same H H'->Rep (but H' M) v d->Q v H'
section
variable {G:Hp}{σ:St}{ta:TE}{t:TA}{d:D}{xs:List Da}
theorem zsl:EvB zev G σ []:=fun M H s l Q k=>k [] H (Same.refl _) .nil
theorem eb_d (ha:EvM ta G σ d)(ht:EvB t G σ xs):EvB (zbp ta t) G σ (.d d::xs):=
 fun M H s l Q k=>ha M H s l _ fun v H1 s1 r1=>ht M H1 (s.trans (s1.but M)) (l.same s1) _ fun vs H2 s2 r2=>k _ H2 (s1.trans s2) (.cons (show RepA _ v (.d d) from r1.mono (s2.but M)) r2)
theorem eb_k {i:Nat}{a:Addr}{kvs:List (Key×V)}(e:σ[i]?=some (some (.ref a)))(hG:G a=some (.dK kvs))(ht:EvB t G σ xs):EvB (zbp (zdk i) t) G σ (.k kvs::xs):=
 fun M H s l Q k=>⟨.ref a,e,ht M H s l _ fun vs H2 s2 r2=>k _ H2 s2 (.cons ⟨a,rfl,(s2.but M) _ _ (s _ _ hG)⟩ r2)⟩
theorem zjt {R:List Da->D->Prop}{E:XK}(hf:R xs d)(h:EvB t G σ xs):EvM (zks (spA R) [] E t) G σ d:=
 fun M H s l Q k=>h M H s l _ fun vs H1 s1 rs=>⟨M,xs,d,l.same s1,by rw [append_nil];exact rs,hf,fun v H2 s2 r2=>k v H2 (s1.trans s2) r2⟩
end
theorem ztl {R:List Da->D->Prop}{n:Nat}(hn:∀ds d,R ds d->ds.length=n):∀vs H Q E,spA R vs H Q E->vs.length=n:=fun vs H Q E ⟨M,ds,d,l,r,e,k⟩=>by rw [r.length];exact hn ds d e
def Seen:HO->Bool
 |.lst _=>true
 |.tup _=>true
 |_=>false
mutual
theorem Rep.hideD {H:Hp}{M:List Addr}{a:Addr}{o:HO}(ha:H a=some o)(hs:Seen o=false):∀{v:V} {d:D},Rep (but H M) v d->Rep (but H (a::M)) v d
 |_,_,.non=>.non
 |_,_,.bl b=>.bl b
 |_,_,.int b=>.int b
 |_,_,.str b=>.str b
 |_,_,.tup (a:=c) h r=>by
  refine .tup ?_ (Reps.hideD ha hs r)
  obtain ⟨h1,h2⟩:=zac h
  rw [zat]
  ·exact h2
  ·intro z
   rcases mem_cons.mp z with z|z
   ·rw [z,ha] at h2
    cases h2
    cases hs
   ·exact h1 z
 |_,_,.lst (a:=c) h r=>by
  refine .lst ?_ (Reps.hideD ha hs r)
  obtain ⟨h1,h2⟩:=zac h
  rw [zat]
  ·exact h2
  ·intro z
   rcases mem_cons.mp z with z|z
   ·rw [z,ha] at h2
    cases h2
    cases hs
   ·exact h1 z
theorem Reps.hideD {H:Hp}{M:List Addr}{a:Addr}{o:HO}(ha:H a=some o)(hs:Seen o=false):∀{vs:List V} {ds:List D},Reps (but H M) vs ds->Reps (but H (a::M)) vs ds
 |_,_,.nil=>.nil
 |_,_,.cons h r=>.cons (Rep.hideD ha hs h) (Reps.hideD ha hs r)
end
theorem EnvR.hideD {H:Hp}{M:List Addr}{a:Addr}{o:HO}{σ:St}{δ:Dn}(h:EnvR (but H M) σ δ)(ha:H a=some o)(hs:Seen o=false):EnvR (but H (a::M)) σ δ:=⟨h.len,fun i d q=>let ⟨v,e,r⟩:=h.get i d q;⟨v,e,Rep.hideD ha hs r⟩⟩
def zfz (B:List Str):List (Key×V):=B.zipIdx.map fun p=>(Sum.inr p.1,V.int (p.2:Nat))
theorem zvj:∀(B:List Str) (k:Nat) (n:Str),zeo ((B.zipIdx k).map fun p=>((Sum.inr p.1:Key),V.int (p.2:Nat))) (Sum.inr n)=if n∈B then some (V.int ((k+B.idxOf n:Nat):Int)) else none
 |[],k,n=>by simp [zeo]
 |b::r,k,n=>by
  rw [zipIdx_cons,map_cons]
  by_cases e:b=n
  ·subst e
   rw [zdx rfl,if_pos mem_cons_self,List.idxOf_cons_self]
   rfl
  ·have e':¬(Sum.inr b:Key)=Sum.inr n:=fun z=>e (Sum.inr.inj z)
   rw [zdy (by exact e'),zvj r (k+1) n]
   by_cases hn:n∈r
   ·have e3:(b::r).idxOf n=r.idxOf n+1:=by rw [List.idxOf_cons,show (b==n)=false from by simpa using e];rfl
    rw [if_pos hn,if_pos (mem_cons_of_mem _ hn),e3]
    congr 3
    omega
   ·rw [if_neg hn,if_neg (by
     intro z
     rcases mem_cons.mp z with z|z
     ·exact e z.symm
     ·exact hn z)]
theorem zlg (B:List Str)(n:Str):zeo (zfz B) (Sum.inr n)=if n∈B then some (V.int (B.idxOf n:Nat)) else none:=by
 have:=zvj B 0 n
 rw [Nat.zero_add] at this
 exact this
section
variable {G:Hp}{σ:St}{ty:TE}{a:Addr}{i:Nat}{B:List Str}{n:Str}
theorem evt_inS (e:σ[i]?=some (some (.ref a)))(hG:G a=some (.dK (zfz B)))(h:EvM ty G σ (.str n)):EvT (tB (tDIn ty (zdk i))) G σ (decide (n∈B)):=fun M H s l Q k=>h M H s l _ fun v H1 s1 rv=>by
 have ha:=s1 _ _ (zac (s _ _ hG)).2
 refine ⟨.ref a,e,a,zeo (zfz B) (Sum.inr n),rfl,by rw [(zfs (d:=.str n) rfl rv).2];exact DGet.k ha,_,rfl,?_⟩
 have:(zeo (zfz B) (Sum.inr n)).isSome=decide (n∈B):=by rw [zlg];by_cases z:n∈B<;>simp [z]
 rw [this]
 exact k H1 s1
theorem ev_atS (e:σ[i]?=some (some (.ref a)))(hG:G a=some (.dK (zfz B)))(hn:n∈B)(h:EvM ty G σ (.str n)):EvM (tDGet (zdk i) ty) G σ (.int (B.idxOf n:Nat)):=fun M H s l Q k=>⟨.ref a,e,h M H s l _ fun v H1 s1 rv=>by
 have ha:=s1 _ _ (zac (s _ _ hG)).2
 refine ⟨a,.int (B.idxOf n:Nat),rfl,?_,k _ H1 s1 (.int _)⟩
 have:some (V.int (B.idxOf n:Nat))=zeo (zfz B) (Sum.inr n):=by rw [zlg,if_pos hn]
 rw [this,(zfs (d:=.str n) rfl rv).2]
 exact DGet.k ha⟩
end
def zbt (A:List D)(B:List Str):List Nat:=((za9 [] A).filter fun b=>decide (b∈B)).map B.idxOf
def RSlots:List Da->D->Prop:=fun xs d=>∃A B,xs=[.d (.tup A),.k (zfz B)]/\OkA A/\d=.lst ((zbt A B).map fun n=>D.int (n:Nat))
def zbv (A:List D)(B:List Str):Bool:=decide ((zbt A B).length=(za9 [] A).length)
def RReady:List Da->D->Prop:=fun xs d=>∃A B,xs=[.d (.tup A),.k (zfz B)]/\OkA A/\d=.bl (zbv A B)
inductive Reps' (G:Hp):List V->Dn->Prop
 |nil:Reps' G [] []
 |dat {v:V} {d:D} {vs:List V} {ds:Dn}:Rep G v d->Reps' G vs ds->Reps' G (v::vs) (some d::ds)
 |raw {v:V} {vs:List V} {ds:Dn}:Reps' G vs ds->Reps' G (v::vs) (none::ds)
theorem Reps'.get {G:Hp}:∀{vs:List V} {ds:Dn},Reps' G vs ds->vs.length=ds.length/\∀(i:Nat) (d:D),ds[i]?=some (some d)->∃v,vs[i]?=some v/\Rep G v d
 |_,_,.nil=>⟨rfl,fun i d q=>by simp at q⟩
 |_,_,.dat h t=>⟨congrArg (· +1) t.get.1,fun i d q=>match i,q with
  |0,q=>⟨_,rfl,by have:=Option.some.inj (Option.some.inj q);rw [<-this];exact h⟩
  |i+1,q=>t.get.2 i d q⟩
 |_,_,.raw t=>⟨congrArg (· +1) t.get.1,fun i d q=>match i,q with
  |0,q=>by cases q
  |i+1,q=>t.get.2 i d q⟩
theorem zci {G:Hp}{vs:List V}{ds:Dn}(h:Reps' G vs ds)(N:List Str):EnvR G (L2.start N vs) (ds++List.replicate (N.length-ds.length) none):=by
 obtain ⟨hl,hg⟩:=h.get
 refine ⟨by simp [L2.start,hl],fun i d q=>?_⟩
 unfold L2.start
 by_cases hi:i<ds.length
 ·rw [getElem?_append_left hi] at q
  obtain ⟨v,h1,h2⟩:=hg i d q
  exact ⟨v,by rw [getElem?_append_left (by simpa using (by omega:i<vs.length)),getElem?_map,h1];rfl,h2⟩
 ·rw [getElem?_append_right (Nat.le_of_not_lt hi)] at q
  obtain ⟨h1,h2⟩:=List.getElem?_eq_some_iff.mp q
  simp at h2
end FL
namespace K05
open PySem L2 FL
section
variable {P:Program}{w:World}{K:PySem.W.Frag}{mg:Str->Option Value}{base:Heap}{f:Addr}{fd:FuncData}
theorem repsA2 {H:Hp}{vs:List V}{x y:Da}(h:RepsA H vs [x,y]):∃v w,vs=[v,w]/\RepA H v x/\RepA H w y:=by
 cases h with
 |cons h t=>cases t with
  |cons h2 t2=>cases t2;exact ⟨_,_,rfl,h,h2⟩
theorem ztn:zbd ["atom","slots"] ["atom","slots"] (zam s_slots_of):=⟨rfl,rfl,rfl,by decide+kernel,rfl,by decide+kernel,by decide+kernel⟩
theorem ztw (F:Fun K "slots_of" "slots_of" s_slots_of f fd)(B:Bl mg)(G_blanks_in:Has P w K mg base 2 "blanks_in" ["atom"] (spR zii)):FnOk P w K mg base CX0 3 f fd ["atom","slots"] (spA RSlots):=by
 refine F.ok ztn (ztl (n:=2) fun ds d ⟨_,_,e,_⟩=>by rw [e];rfl) (fun cdv A outer s H vs Q E hr h=>?_)
 obtain ⟨M,ds,d,lv,rs,⟨At,Bs,rfl,hA,rfl⟩,q⟩:=h
 have hu1:=zmf hr
 obtain ⟨v0,v1,rfl,r0,⟨a,rfl,ha⟩⟩:=repsA2 rs
 have r0:Rep (but H M) v0 (.tup At):=r0
 refine ⟨_,(zag (zaz (zdn ["slots","blank"] [1] 1 (zcg (zca G_blanks_in hr (zab (pv 0) zah))) (fun _ _ _ _ _=>(zau (i:=1) (show (["slots","blank"]:List Str).Nodup from by decide+kernel) rfl (by first|exact Or.inl rfl|exact Or.inr rfl))) (fun _ _ _ _ _=>(zez (zrd (pc_din (by exact hu1) (pv 1) (pv 0))))) (fun _ _ _ _ _=>(pe_dget (by exact hu1) (pv 0) (pv 1) (fun _ _=>rfl)))))),?_⟩
 have E0:EnvR (but H M) (L2.start ["atom","slots"] [v0,.ref a]) [some (.tup At),none]:=zci (.dat r0 (.raw .nil)) ["atom","slots"]
 have hlen:=zd9 At []
 rw [length_nil] at hlen
 have hAl:=hA.len
 refine zes lv (EvM.eq (zer (caps:=zas [1] 1) (i:=1) (p:=fun d=>decide (d.name∈Bs)) (f:=fun d=>.int ((Bs.idxOf d.name:Nat):Int)) (zbn (ds:=(za9 [] At).map D.str) (zba ⟨At,rfl,hA,rfl⟩ (zaa (zaw E0 rfl) zaf))) (fun G' v d sG hd r=>?_) (fun G' v d sG hd hp r=>?_) (by rw [length_map];exact zar (by omega))) ?_) q
 ·obtain ⟨b,hb,rfl⟩:=mem_map.mp hd
  exact evt_inS (n:=b) (a:=a) (by simp [zas,L2.start]) (sG _ _ ha) (zch (by simp [zas]) r)
 ·obtain ⟨b,hb,rfl⟩:=mem_map.mp hd
  exact ev_atS (n:=b) (a:=a) (by simp [zas,L2.start]) (sG _ _ ha) (of_decide_eq_true hp) (zch (by simp [zas]) r)
 ·unfold zbt
  rw [List.filter_map,map_map,map_map]
  rfl
theorem ztp:zbd ["guard","slots"] ["guard","slots"] (zam s_is_ready):=⟨rfl,rfl,rfl,by decide+kernel,rfl,by decide+kernel,by decide+kernel⟩
theorem zty (F:Fun K "is_ready" "is_ready" s_is_ready f fd)(B:Bl mg)(G_blanks_in:Has P w K mg base 2 "blanks_in" ["atom"] (spR zii))(G_slots_of:Has P w K mg base 3 "slots_of" ["atom","slots"] (spA RSlots)):FnOk P w K mg base CX0 4 f fd ["guard","slots"] (spA RReady):=by
 refine F.ok ztp (ztl (n:=2) fun ds d ⟨_,_,e,_⟩=>by rw [e];rfl) (fun cdv A outer s H vs Q E hr h=>?_)
 obtain ⟨M,ds,d,lv,rs,⟨At,Bs,rfl,hA,rfl⟩,q⟩:=h
 have hu:=zoa hr
 have hu1:=zmf hr
 obtain ⟨v0,v1,rfl,r0,⟨a,rfl,ha⟩⟩:=repsA2 rs
 have r0:Rep (but H M) v0 (.tup At):=r0
 refine ⟨_,(zag (zaz (zfo (zgl (by exact hu)) (zdb B (zca G_slots_of hr (zab (pv 0) (zab (pv 1) zah)))) (zdb B (zca G_blanks_in hr (zab (pv 0) zah))) (zbl _)))),?_⟩
 have E0:EnvR (but H M) (L2.start ["guard","slots"] [v0,.ref a]) [some (.tup At),none]:=zci (.dat r0 (.raw .nil)) ["guard","slots"]
 refine zes lv (EvM.eq (zie (zdv (zaa (zjt ⟨At,Bs,rfl,hA,rfl⟩ (eb_d (zaw E0 rfl) (eb_k (a:=a) rfl ha zsl))) zaf)) (zdv (zaa (zba ⟨At,rfl,hA,rfl⟩ (zaa (zaw E0 rfl) zaf)) zaf))) ?_) q
 unfold zbv
 rw [length_map,length_map]
 congr 1
 exact decide_eq_decide.mpr Int.ofNat_inj
end
end K05
namespace FL
open PySem L2
section
variable {G:Hp}{σ:St}{wi:TI}{tt:TT}{te:TE}{K:PySem.W.Frag}
theorem zwd {caps:St->St}{i j:Nat}(hij:i≠j){ps:List (D×D)}{p:D×D->Bool}{f:D×D->D}(hw:zte wi G σ (ps.map fun q=>.tup [q.1,q.2]))
  (ht:∀G' v1 v2 q,Same G G'->q∈ps->Rep G' v1 q.1->Rep G' v2 q.2->EvT tt G' (((caps σ).set i (some v1)).set j (some v2)) (p q))
  (he:∀G' v1 v2 q,Same G G'->q∈ps->p q=true->Rep G' v1 q.1->Rep G' v2 q.2->EvM te G' (((caps σ).set i (some v1)).set j (some v2)) (f q)) (hz:ps.length<sizeLine):
  EvM (zna wi caps (gTup K 2 (zpq (zdz i) (zpq (zdz j) gNil))) tt te) G σ (.lst ((ps.filter p).map f)):=fun M H s l Q k=>hw M H s l _ fun J H1 s1 hgo hstop D hD=>by
 have lf:D∉M:=(l.same s1).fresh hD
 have sG1:Same G (but H1 M):=s.trans (s1.but M)
 have hlm:(ps.map fun q=>FL.D.tup [q.1,q.2]).length=ps.length:=length_map _
 refine ⟨fun m n τ H'=>n=ps.length-m/\m<=ps.length/\(∀v w,(τ.set i (some v)).set j (some w)=((caps σ).set i (some v)).set j (some w))/\Same H1 H'/\∃ys,H' D=some (.lst ys)/\Reps (but H' (D::M)) ys (((ps.take m).filter p).map f),
  ⟨ps.length,by simp,Nat.zero_le _,fun _ _=>rfl,zbm hD _,[],zae,by simpa using Reps.nil⟩,?_⟩
 rintro m n τ H' ⟨rfl,hj,hτ,s2,ys,hD',ry⟩
 have hs:Same (but H1 M) (but H' (D::M)):=zfu hD s2
 have hl:Live (D::M) H':=((l.same s1).same s2).cons hD'
 by_cases hlt:m<ps.length
 ·have hd:ps[m]?=some ps[m]:=getElem?_eq_getElem hlt
  have hd2:(ps.map fun q=>FL.D.tup [q.1,q.2])[m]?=some (.tup [ps[m].1,ps[m].2]):=by rw [getElem?_map,hd];rfl
  obtain ⟨go,gy⟩:=hgo m _ (D::M) H' hd2 hs hl
  refine .inr ⟨go,fun τ' H''=>(∀v w,(τ'.set i (some v)).set j (some w)=((caps σ).set i (some v)).set j (some w))/\Same H1 H''/\∃ys,H'' D=some (.lst ys)/\Reps (but H'' (D::M)) ys (((ps.take (m+1)).filter p).map f),
   fun τ' H'' ⟨a,b,c⟩=>⟨ps.length-(m+1),by omega,rfl,hlt,a,b,c⟩,fun x H'' hy=>?_⟩
  obtain ⟨s3,rx⟩:=gy x H'' hy
  have hm:ps[m]∈ps:=getElem_mem hlt
  have sG:Same G (but H'' (D::M)):=sG1.trans (hs.trans (s3.but _))
  have hl3:=hl.same s3
  refine zod rx fun x1 x2 r1 r2=>?_
  show tt ((τ.set i (some x1)).set j (some x2)) H'' _
  rw [hτ x1 x2]
  have tk:(ps.take (m+1)).filter p=(ps.take m).filter p++(if p ps[m]=true then [ps[m]] else []):=by
   rw [take_add_one,hd,filter_append]
   congr 1
   by_cases hp:p ps[m]=true
   ·simp [hp]
   ·simp [hp]
  refine ht _ x1 x2 _ sG hm r1 r2 (D::M) H'' (Same.refl _) hl3 _ fun H4 s4=>?_
  have setset:∀v w,((((caps σ).set i (some x1)).set j (some x2)).set i (some v)).set j (some w)=((caps σ).set i (some v)).set j (some w):=fun v w=>by
   rw [List.set_comm (some x2) (some v) (Ne.symm hij),set_set,set_set]
  by_cases hp:p ps[m]=true
  ·rw [if_pos hp]
   refine he _ x1 x2 _ (sG.trans (s4.but _)) hm hp (r1.mono (s4.but _)) (r2.mono (s4.but _)) (D::M) H4 (Same.refl _) (hl3.same s4) _ fun v H5 s5 r5=>?_
   have hD5:H5 D=some (.lst ys):=s5 _ _ (s4 _ _ (s3 _ _ hD'))
   have hlen:=ry.length
   have hle:(((ps.take m).filter p).map f).length<=m:=by
    rw [length_map]
    have:=length_filter_le p (ps.take m)
    rw [length_take] at this
    omega
   refine ⟨ys,hD5,by omega,setset,?_,ys++[v],zae,?_⟩
   ·intro b o e
    rw [zal (zax e hD)]
    exact s5 _ _ (s4 _ _ (s3 _ _ (s2 _ _ e)))
   ·rw [zcy mem_cons_self,tk,if_pos hp,map_append]
    exact (ry.mono (((s3.trans s4).trans s5).but _)).snoc r5
  ·rw [if_neg hp]
   refine ⟨setset,s2.trans (s3.trans s4),ys,s4 _ _ (s3 _ _ hD'),?_⟩
   rw [tk,if_neg hp,append_nil]
   exact ry.mono ((s3.trans s4).but _)
 ·have e:m=ps.length:=by omega
  subst e
  refine .inl ⟨?_,k _ H' (s1.trans s2) (zep lf hD' ?_)⟩
  ·have:=hstop (D::M) H' hs
   rw [hlm] at this
   exact this
  ·rw [take_of_length_le (Nat.le_refl _)] at ry
   exact ry
theorem zuo {ta:TE}{d:D}(h:EvM ta G σ d):EvM (tOp (fun x y H Q=>y=.non/\Q (.bl (!decide (x=.non))) H) ta (tC .non)) G σ (.bl (!decide (d=.non))):=
 fun M H s l Q k=>h M H s l _ fun v H1 s1 r1=>⟨rfl,by rw [isN_of r1];exact k _ H1 s1 (.bl _)⟩
end
mutual
def D.noL:D->Bool
 |.lst _=>false
 |.tup l=>D.noLs l
 |_=>true
def D.noLs:List D->Bool
 |[]=>true
 |d::r=>D.noL d&&D.noLs r
end
mutual
theorem Rep.hideL {H:Hp}{M ls:List Addr}(hl:∀a∈ls,∃vs,H a=some (.lst vs)):∀{v:V} {d:D},d.noL=true->Rep (but H M) v d->Rep (but H (ls++M)) v d
 |_,_,_,.non=>.non
 |_,_,_,.bl b=>.bl b
 |_,_,_,.int b=>.int b
 |_,_,_,.str b=>.str b
 |_,_,hn,.tup (a:=c) h r=>by
  refine .tup ?_ (Reps.hideL hl hn r)
  obtain ⟨h1,h2⟩:=zac h
  rw [zat]
  ·exact h2
  ·intro z
   rcases mem_append.mp z with z|z
   ·obtain ⟨vs,e⟩:=hl c z
    rw [e] at h2;cases h2
   ·exact h1 z
 |_,_,hn,.lst _ _=>by cases hn
theorem Reps.hideL {H:Hp}{M ls:List Addr}(hl:∀a∈ls,∃vs,H a=some (.lst vs)):∀{vs:List V} {ds:List D},D.noLs ds=true->Reps (but H M) vs ds->Reps (but H (ls++M)) vs ds
 |_,_,_,.nil=>.nil
 |_,_,hn,.cons h r=>by
  have hn':=Bool.and_eq_true_iff.mp hn
  exact .cons (Rep.hideL hl hn'.1 h) (Reps.hideL hl hn'.2 r)
end
end FL
namespace FL
open PySem L2
def offD (o:Nat×zan):D:=.tup [.int (o.1:Nat),.lst (zbj o.2)]
def atK (of:List zfq)(key:List D):List zfq:=of.filter fun o=>decide (o.1=key)
def zl9 (of:List zfq)(key:List D):List D:=(atK of key).map fun o=>offD o.2
def zn9 (key:List D):List Key:=key.map D.key
def zir (key:List D):Prop:=∀x∈key,x.sc=true
theorem zvx:∀{a b:List D},zir a->zir b->zn9 a=zn9 b->a=b
 |[],[],_,_,_=>rfl
 |[],_::_,_,_,h=>by cases h
 |_::_,[],_,_,h=>by cases h
 |x::r,y::t,ha,hb,h=>by
  obtain ⟨h1,h2⟩:=List.cons.inj h
  rw [(zui (ha x mem_cons_self) (hb y mem_cons_self)).mp h1,zvx (fun z hz=>ha z (mem_cons_of_mem _ hz)) (fun z hz=>hb z (mem_cons_of_mem _ hz)) h2]
theorem zot {H:Hp}:∀{vs:List V} {key:List D},zir key->Reps H vs key->vs=(zn9 key).map kV
 |_,[],_,.nil=>rfl
 |_,d::r,h,.cons hd t=>by
  rw [(zfs (h d mem_cons_self) hd).2,zot (fun x hx=>h x (mem_cons_of_mem _ hx)) t]
  rfl
def OffRep (G:Hp)(p:Addr)(of:List zfq):Prop:=∃kvs:List (List Key×V),G p=some (.dT kvs)/\(kvs=[]↔of=[])/\∀key,zir key->(zeo kvs (zn9 key)=none->atK of key=[])/\∀v,zeo kvs (zn9 key)=some v->Rep G v (.lst (zl9 of key))
theorem OffRep.mono {G G':Hp}{p:Addr}{of:List zfq}(e:Same G G')(h:OffRep G p of):OffRep G' p of:=by
 obtain ⟨kvs,h1,h2,h3⟩:=h
 exact ⟨kvs,e _ _ h1,h2,fun key hk=>⟨(h3 key hk).1,fun v hv=>((h3 key hk).2 v hv).mono e⟩⟩
theorem zge {H:Hp}{M M':List Addr}(h:∀a,a∈M↔a∈M'):but H M=but H M':=by
 funext b
 unfold FL.but
 by_cases z:b∈M
 ·rw [if_pos z,if_pos ((h b).mp z)]
 ·rw [if_neg z,if_neg fun q=>z ((h b).mpr q)]
structure OffB (H:Hp)(M:List Addr)(p:Addr)(ls:List Addr)(of:List zfq):Prop where
 kvs:∃kvs:List (List Key×V),H p=some (.dT kvs)/\kvs.length<=of.length/\(kvs=[]↔of=[])/\
  (∀key,zir key->(zeo kvs (zn9 key)=none->atK of key=[])/\∀v,zeo kvs (zn9 key)=some v->∃l vs,v=.ref l/\l∈ls/\H l=some (.lst vs)/\Reps (but H (ls++p::M)) vs (zl9 of key))/\
  ∀key key' l,zir key->zir key'->zeo kvs (zn9 key)=some (.ref l)->zeo kvs (zn9 key')=some (.ref l)->key=key'
 lists:∀l∈ls,∃vs,H l=some (.lst vs)
 apart:p∉ls
theorem OffB.cong {H:Hp}{M M':List Addr}{p:Addr}{ls:List Addr}{of:List zfq}(h:OffB H M p ls of)(hm:∀a,a∈ls++p::M↔a∈ls++p::M'):OffB H M' p ls of:=by
 obtain ⟨k,l,a⟩:=h
 rw [zge hm] at k
 exact ⟨k,l,a⟩
theorem OffB.rep {H:Hp}{M:List Addr}{p:Addr}{ls:List Addr}{of:List zfq}(h:OffB H M p ls of)(hp:p∉M)(hl:∀l∈ls,l∉M):OffRep (but H M) p of:=by
 obtain ⟨kvs,h1,_,h2,h3,_⟩:=h.kvs
 refine ⟨kvs,by rw [zat hp];exact h1,h2,fun key hk=>⟨(h3 key hk).1,fun v hv=>?_⟩⟩
 obtain ⟨l,vs,rfl,h4,h5,h6⟩:=(h3 key hk).2 v hv
 exact .lst (by rw [zat (hl l h4)];exact h5) (h6.mono (zcj fun b hb=>mem_append_right _ (mem_cons_of_mem _ hb)))
theorem zjy (of:List zfq)(key:List D)(o:Nat×zan):atK (of++[(key,o)]) key=atK of key++[(key,o)]:=by
 unfold atK;rw [filter_append];simp
theorem zho (of:List zfq){key key':List D}(o:Nat×zan)(h:¬key=key'):atK (of++[(key,o)]) key'=atK of key':=by
 unfold atK;rw [filter_append];simp [h]
theorem OffB.same {H H':Hp}{M:List Addr}{p:Addr}{ls:List Addr}{of:List zfq}(h:OffB H M p ls of)(e:Same H H'):OffB H' M p ls of:=by
 obtain ⟨kvs,h1,hn,h2,h3,h4⟩:=h.kvs
 refine ⟨⟨kvs,e _ _ h1,hn,h2,fun key hk=>⟨(h3 key hk).1,fun v hv=>?_⟩,h4⟩,fun l hl=>let ⟨vs,z⟩:=h.lists l hl;⟨vs,e _ _ z⟩,h.apart⟩
 obtain ⟨l,vs,q1,q2,q3,q4⟩:=(h3 key hk).2 v hv
 exact ⟨l,vs,q1,q2,e _ _ q3,q4.mono (e.but _)⟩
section
variable {σ:St}{M:List Addr}{H:Hp}{ty te:TE}{E:zka}{K:PySem.W.Frag}
theorem s_off {to:TE}{p:Addr}{ls:List Addr}{of:List zfq}{key:List D}{o:Nat×zan}(l:Live (ls++p::M) H)(e:∀Q:VK,Q (.ref p) H->to σ H Q)(hO:OffB H M p ls of)(hk:zir key)(hz:of.length<1000)
  (h:EvM ty (but H (ls++p::M)) σ (.tup key)) (h2:EvM te (but H (ls++p::M)) σ (offD o))
  (k:∀ls' H',(∀a∈ls',a∈ls\/H a=none)->(∀a∈ls,a∈ls')->(∀b u,b≠p->b∉ls->H b=some u->H' b=some u)->Live (ls'++p::M) H'->OffB H' M p ls' (of++[(key,o)])->E.nx σ H'):
  zop (tBM K "list" zix (tDSet to ty (tLst zev)) (zbp te zev)) E σ H:=by
 obtain ⟨kvs0,g1,gn,g2,g3,g4⟩:=hO.kvs
 refine e _ ⟨p,rfl,.inr ⟨kvs0,.inl g1⟩,h _ H (Same.refl _) l _ fun kv H1 s1 rk=>⟨Nat.zero_le _,fun p2 hp2=>?_⟩⟩
 have O1:=hO.same s1
 obtain ⟨b,bs,rfl,hb,rbs⟩:=rk.of_tup
 have hb1:=(zac hb).2
 have ebs:=zot hk rbs
 rw [ebs] at hb1
 have s12:=zbm hp2 (.lst [])
 have hb2:=s12 _ _ hb1
 have hp1:(upd H1 p2 (.lst [])) p=some (.dT kvs0):=s12 _ _ (s1 _ _ g1)
 have nep2:p≠p2:=fun z=>by have:=s1 _ _ g1;rw [z,hp2] at this;cases this
 have p2ls:p2∉ls:=fun z=>by
  obtain ⟨vs,q⟩:=hO.lists p2 z
  have:=s1 _ _ q
  rw [hp2] at this;cases this
 have Hp2:H p2=none:=by
  cases q:H p2 with
  |none=>rfl
  |some u=>have:=s1 _ _ q;rw [hp2] at this;cases this
 have hoff:∀v G,Rep G v (offD o)->Rep G v (offD o):=fun _ _ z=>z
 cases hv:zeo kvs0 (zn9 key) with
 |some v=>
  obtain ⟨l0,vs,rfl,m1,m2,m3⟩:=(g3 key hk).2 v hv
  have hl0:(upd H1 p2 (.lst [])) l0=some (.lst vs):=s12 _ _ (s1 _ _ m2)
  refine ⟨.ref l0,_,.inl ⟨by rw [<-hv];exact DGet.t hp1 hb2,rfl,_,hp1⟩,(show tyV K "list" (.ref l0) _ from .inl ⟨rfl,vs,SqL.of hl0⟩),?_⟩
  have S1:Same H (upd H1 p2 (.lst [])):=s1.trans s12
  refine h2 _ _ (S1.but _) (l.same S1) _ fun v H5 s5 r5=>⟨l0,vs,v,rfl,rfl,s5 _ _ hl0,?_,?_⟩
  ·rw [m3.length]
   unfold zl9
   rw [length_map]
   have:=length_filter_le (fun o=>decide (o.1=key)) of
   exact zar (by unfold atK;omega)
  ·have S5:Same H H5:=S1.trans s5
   have l0M:l0∈ls++p::M:=mem_append_left _ m1
   have eb:but (upd H5 l0 (.lst (vs++[v]))) (ls++p::M)=but H5 (ls++p::M):=zcy l0M
   have nl0p:l0≠p:=fun z=>hO.apart (z▸m1)
   refine k ls _ (fun a ha=>.inl ha) (fun a ha=>ha) (fun b u hb hbl q=>?_) (l.same S5).upd ⟨⟨kvs0,?_,?_,?_,fun key' hk'=>⟨fun hn=>?_,fun v' hv'=>?_⟩,g4⟩,fun a ha=>?_,hO.apart⟩
   ·rw [zal (fun z:b=l0=>hbl (by rw [z];exact m1))];exact S5 _ _ q
   ·rw [zal (Ne.symm nl0p)];exact S5 _ _ g1
   ·rw [length_append];omega
   ·constructor
    ·intro z;rw [z] at hv;cases hv
    ·intro z;exact absurd z (by simp)
   ·have ne:¬key=key':=fun z=>by rw [<-z,hv] at hn;cases hn
    rw [zho of o ne];exact (g3 key' hk').1 hn
   ·obtain ⟨l1,ws,rfl,q1,q2,q3⟩:=(g3 key' hk').2 v' hv'
    by_cases hl:l1=l0
    ·subst hl
     have:key=key':=g4 key key' l1 hk hk' hv hv'
     subst this
     refine ⟨l1,vs++[v],rfl,q1,zae,?_⟩
     rw [eb]
     unfold zl9
     rw [zjy,map_append]
     exact (m3.mono (S5.but _)).snoc r5
    ·have ne:¬key=key':=fun z=>by subst z;rw [hv] at hv';cases hv';exact hl rfl
     refine ⟨l1,ws,rfl,q1,by rw [zal hl];exact S5 _ _ q2,?_⟩
     rw [eb]
     unfold zl9
     rw [zho of o ne]
     exact q3.mono (S5.but _)
   ·obtain ⟨ws,q⟩:=hO.lists a ha
    by_cases hl:a=l0
    ·exact ⟨_,by rw [hl];exact zae⟩
    ·exact ⟨ws,by rw [zal hl];exact S5 _ _ q⟩
 |none=>
  have hnone:=(g3 key hk).1 hv
  have hlen0:kvs0.length<sizeLine:=zar (by omega)
  refine ⟨.ref p2,_,.inr ⟨by rw [<-hv];exact DGet.t hp1 hb2,rfl,DPut.t hp1 hb2 hlen0⟩,?_⟩
  have hq2:(upd (upd H1 p2 (.lst [])) p (.dT (zgs kvs0 (zn9 key) (.ref p2)))) p2=some (.lst []):=by rw [zal (Ne.symm nep2)];exact zae
  refine ⟨(show tyV K "list" (.ref p2) _ from .inl ⟨rfl,[],SqL.of hq2⟩),?_⟩
  have pM:p∈ls++p::M:=mem_append_right _ mem_cons_self
  have SB:Same (but H (ls++p::M)) (but (upd (upd H1 p2 (.lst [])) p (.dT (zgs kvs0 (zn9 key) (.ref p2)))) (p2::(ls++p::M))):=fun b u q=>by
   obtain ⟨q1,q2⟩:=zac q
   have nb2:b≠p2:=fun z=>by rw [z,Hp2] at q2;cases q2
   have nbp:b≠p:=fun z=>q1 (z▸pM)
   rw [zat (by simp only [mem_cons,not_or];exact ⟨nb2,q1⟩),zal nbp]
   exact s12 _ _ (s1 _ _ q2)
  have l4:Live (p2::(ls++p::M)) (upd (upd H1 p2 (.lst [])) p (.dT (zgs kvs0 (zn9 key) (.ref p2)))):=((l.same (s1.trans s12)).upd).cons hq2
  refine h2 _ _ SB l4 _ fun v H5 s5 r5=>⟨p2,[],v,rfl,rfl,s5 _ _ hq2,(show 0<sizeLine by decide),?_⟩
  have KH:∀b u,b≠p->H b=some u->(upd H5 p2 (.lst ([]++[v]))) b=some u:=fun b u hb q=>by
   have nb2:b≠p2:=fun z=>by rw [z,Hp2] at q;cases q
   rw [zal nb2]
   refine s5 _ _ ?_
   rw [zal hb]
   exact s12 _ _ (s1 _ _ q)
  have eb:but (upd H5 p2 (.lst ([]++[v]))) (p2::(ls++p::M))=but H5 (p2::(ls++p::M)):=zcy mem_cons_self
  have SB5:Same (but H (ls++p::M)) (but (upd H5 p2 (.lst ([]++[v]))) (p2::(ls++p::M))):=by rw [eb];exact SB.trans (s5.but _)
  have eK:∀key',zir key'->zeo (zgs kvs0 (zn9 key) (.ref p2)) (zn9 key')=if key'=key then some (.ref p2) else zeo kvs0 (zn9 key'):=fun key' hk'=>by
   rw [zoo]
   by_cases z:key'=key
   ·rw [if_pos z,if_pos (by rw [z])]
   ·rw [if_neg z,if_neg (fun w=>z (zvx hk' hk w))]
  refine k (p2::ls) _ (fun a ha=>?_) (fun a ha=>mem_cons_of_mem _ ha) (fun b u hb hbl q=>KH b u hb q) (l4.same s5).upd ⟨⟨zgs kvs0 (zn9 key) (.ref p2),?_,?_,?_,fun key' hk'=>⟨fun hn=>?_,fun v' hv'=>?_⟩,fun k1 k2 l1 a1 a2 b1 b2=>?_⟩,fun a ha=>?_,?_⟩
  ·rcases mem_cons.mp ha with z|z
   ·exact .inr (by rw [z];exact Hp2)
   ·exact .inl z
  ·rw [zal nep2]
   refine s5 _ _ ?_
   exact zae
  ·have:=zeg kvs0 (zn9 key) (.ref p2)
   rw [length_append,length_singleton]
   omega
  ·constructor
   ·intro z
    have:=eK key hk
    rw [z,if_pos rfl] at this
    cases this
   ·intro z;exact absurd z (by simp)
  ·rw [eK key' hk'] at hn
   by_cases z:key'=key
   ·rw [if_pos z] at hn;cases hn
   ·rw [if_neg z] at hn
    rw [zho of o (fun w=>z w.symm)]
    exact (g3 key' hk').1 hn
  ·rw [eK key' hk'] at hv'
   by_cases z:key'=key
   ·rw [if_pos z] at hv'
    cases hv'
    refine ⟨p2,_,rfl,mem_cons_self,zae,?_⟩
    rw [List.cons_append,eb,z]
    unfold zl9
    rw [zjy,hnone]
    exact .cons r5 .nil
   ·rw [if_neg z] at hv'
    obtain ⟨l1,ws,rfl,q1,q2,q3⟩:=(g3 key' hk').2 v' hv'
    refine ⟨l1,ws,rfl,mem_cons_of_mem _ q1,KH _ _ (fun w=>hO.apart (w▸q1)) q2,?_⟩
    unfold zl9
    rw [zho of o (fun w=>z w.symm)]
    exact q3.mono SB5
  ·rw [eK k1 a1] at b1
   rw [eK k2 a2] at b2
   have no:∀kk,zir kk->¬zeo kvs0 (zn9 kk)=some (.ref p2):=fun kk hkk z=>by
    obtain ⟨l1,ws,q0,q1,_⟩:=(g3 kk hkk).2 _ z
    cases q0
    exact p2ls q1
   by_cases z1:k1=key
   ·by_cases z2:k2=key
    ·rw [z1,z2]
    ·rw [if_pos z1] at b1
     rw [if_neg z2] at b2
     cases b1
     exact absurd b2 (no k2 a2)
   ·rw [if_neg z1] at b1
    by_cases z2:k2=key
    ·rw [if_pos z2] at b2
     cases b2
     exact absurd b1 (no k1 a1)
    ·rw [if_neg z2] at b2
     exact g4 k1 k2 l1 a1 a2 b1 b2
  ·rcases mem_cons.mp ha with z|z
   ·exact ⟨_,by rw [z];exact zae⟩
   ·obtain ⟨ws,q⟩:=hO.lists a z
    exact ⟨ws,KH _ _ (fun w=>hO.apart (w▸z)) q⟩
  ·intro z
   rcases mem_cons.mp z with z|z
   ·exact nep2 z
   ·exact hO.apart z
end
end FL
namespace L2
open PySem PySem.Spec PyProof.Rows
theorem args_maxD (x d:Value):argsOk "max" ⟨[x],[("default",d)]⟩:=by unfold argsOk;kernel_rfl
def keptS:Option Value->Array Value
 |none=> #[]
 |some v=> #[v,v]
section
variable {prog:Program}{w:World}{A:Around}{R:Result->Shared->Prop}{I:Addr}{fp wr:List Addr}{n:Nat}{P:Nat->Value->Prop}{St:Nat->Heap->Prop}
theorem maxD_loop (W:Walks prog w A.in1 I fp wr n P St)(bt:Nat->Nat->Bool)(hcmp:CmpOf prog w A.in1 .Gt P bt)(S:Addr)(hSf:S∉fp)(d:Value):
  ∀(k j:Nat) (s:Shared) (ob:Option Value) (c:Nat),n-j=k->j<=n->St j s.heap->(ob=none->j=0)->(∀vb,ob=some vb->0<j/\P (argBest bt (j-1)) vb)->
  s.heap.get? S=some {cls:=.type "list",dict:=none,data:=.seq (keptS ob) c,slots:= #[]}->
  (∀v h' tk,(n=0->v=d)->(0<n->P (argBest bt (n-1)) v)->(∀b o,b∉wr->b≠S->s.heap.get? b=some o->h'.get? b=some o)->R (.ok (.ret v)) {s with heap:=h',toks:=tk})->
  codeAny (model prog w) A (.builtin "max.loop" ⟨[.ref I,.none,.ref S],[("default",d)]⟩) R s:=by
 have hSw:S∉wr:=fun h=>hSf (W.sub _ h)
 have nm:(toString "max"++toString ".loop":String)="max.loop":=by decide
 intro k
 induction k with
 |zero=>
  intro j s ob c hk hj hst h0 h1 hS hR
  have hjn:j=n:=by omega
  subst hjn
  refine codeAny_builtin F.entry_max_loop ?_
  rw [Around.under_plainId F.plain_max_loop _]
  cases ob with
  |none=>
   have z:=h0 rfl
   refine wpAny_bind (wpAny_seqItems (items:=keptS none) (n:=c) (o:=_) hS rfl ?_)
   refine wpAny_bind (wpAny_tryCatch (W.done s _ _ hst fun h' tk hk'=>?_))
   refine wpAny_bind (wpAny_rule (wpAny_pure ?_))
   exact hR d h' tk (fun _=>rfl) (fun q=>by omega) fun b o hb _ e=>hk' b o hb e
  |some vb=>
   obtain ⟨z1,z2⟩:=h1 vb rfl
   refine wpAny_bind (wpAny_seqItems (items:=keptS (some vb)) (n:=c) (o:=_) hS rfl ?_)
   refine wpAny_bind (wpAny_tryCatch (W.done s _ _ hst fun h' tk hk'=>?_))
   have hS2:=hk' S _ hSw hS
   refine wpAny_bind (wpAny_updateSeq (hz:=show 2<=sizeLine from by decide) hS2 rfl (wpAny_bind (wpAny_letGo (wpAny_pure ?_))))
   exact hR vb _ tk (fun q=>by omega) (fun _=>z2) fun b o hb hbS e=>(Heap.get?_update_other _ _ (Ne.symm hbS)).trans (hk' b o hb e)
 |succ k ih=>
  intro j s ob c hk hj hst h0 h1 hS hR
  have hlt:j<n:=by omega
  refine codeAny_builtin F.entry_max_loop ?_
  rw [Around.under_plainId F.plain_max_loop _]
  cases ob with
  |none=>
   have z:=h0 rfl
   subst z
   refine wpAny_bind (wpAny_seqItems (items:=keptS none) (n:=c) (o:=_) hS rfl ?_)
   refine wpAny_bind (wpAny_tryCatch (W.item 0 s _ _ hlt hst fun v h' tk hP hst' hk'=>?_))
   have hS2:=hk' S _ hSw hS
   refine wpAny_bind (wpAny_pure (wpAny_bind (wpAny_updateSeq hS2 rfl ?_)))
   rw [nm]
   refine wpAny_pure ⟨plainId_quiet F.plain_max_loop _,ih 1 _ (some v) _ (by omega) hlt (W.frame _ _ _ hst' fun b hb o e=>?_) (fun q=>nomatch q) (fun vb q=>by cases q;exact ⟨by decide,hP⟩) (Heap.get?_update_self _ hS2 rfl) fun v2 h2 tk2 q0 q1 kk=>?_⟩
   ·exact (Heap.get?_update_other _ _ (fun q:S=b=>hSf (by rw [q];exact hb))).trans e
   ·exact hR v2 h2 tk2 q0 q1 fun b o hb hbS e=>kk b o hb hbS ((Heap.get?_update_other _ _ (Ne.symm hbS)).trans (hk' b o hb e))
  |some vb=>
   obtain ⟨z1,z2⟩:=h1 vb rfl
   refine wpAny_bind (wpAny_seqItems (items:=keptS (some vb)) (n:=c) (o:=_) hS rfl ?_)
   refine wpAny_bind (wpAny_tryCatch (W.item j s _ _ hlt hst fun v h' tk hP hst' hk'=>?_))
   have hS2:=hk' S _ hSw hS
   have ej:j=(j-1)+1:=by omega
   have nx:argBest bt j=if bt j (argBest bt (j-1)) then j else argBest bt (j-1):=by
    conv=>lhs;rw [ej]
    rw [argBest,<-ej]
   refine wpAny_bind (wpAny_pure (wpAny_bind (wpAny_tryCatch (wpAny_holding (wpAny_bind (hcmp j (argBest bt (j-1)) v vb _ _ _ hP z2 ?_))))))
   refine wpAny_bind (wpAny_holding (wpAny_truthy_bool ?_))
   refine wpAny_bind (wpAny_letGo (wpAny_pure ?_))
   cases hb:bt j (argBest bt (j-1)) with
   |true=>
    rw [hb,if_pos rfl] at nx
    refine wpAny_bind (wpAny_updateSeq (hz:=show 2<=sizeLine from by decide) hS2 rfl (wpAny_bind (wpAny_letGo ?_)))
    rw [nm]
    refine wpAny_pure ⟨plainId_quiet F.plain_max_loop _,ih (j+1) _ (some v) _ (by omega) hlt (W.frame _ _ _ hst' fun b hb o e=>?_) (fun q=>nomatch q) (fun vb q=>by cases q;exact ⟨by omega,by rw [Nat.add_sub_cancel,nx];exact hP⟩) (Heap.get?_update_self _ hS2 rfl) fun v2 h2 tk2 q0 q1 kk=>?_⟩
    ·exact (Heap.get?_update_other _ _ (fun q:S=b=>hSf (by rw [q];exact hb))).trans e
    ·exact hR v2 h2 tk2 q0 q1 fun b o hb hbS e=>kk b o hb hbS ((Heap.get?_update_other _ _ (Ne.symm hbS)).trans (hk' b o hb e))
   |false=>
    rw [hb,if_neg Bool.false_ne_true] at nx
    refine wpAny_bind (wpAny_letGo ?_)
    rw [nm]
    refine wpAny_pure ⟨plainId_quiet F.plain_max_loop _,ih (j+1) _ (some vb) c (by omega) hlt hst' (fun q=>nomatch q) (fun vb q=>by cases q;exact ⟨by omega,by rw [Nat.add_sub_cancel,nx];exact z2⟩) hS2 fun v2 h2 tk2 q0 q1 kk=>?_⟩
    exact hR v2 h2 tk2 q0 q1 fun b o hb hbS e=>kk b o hb hbS (hk' b o hb e)
end
section
variable {prog:Program}{w:World}{A:Around}{E:Value->Shared->Prop}{s:Shared}
theorem zsq {x d:Value}{Q:Value->Shared->Prop}
  (h:wpAny (model prog w) A.in1 (pyIter x) (fun it s2=>∃I fp wr n P St bt,it=.ref I/\Walks prog w A.in1 I fp wr n P St/\St 0 s2.heap/\(∀b∈fp,b<s2.heap.objs.size)/\CmpOf prog w A.in1 .Gt P bt/\
   ∀v h' tk,(n=0->v=d)->(0<n->P (argBest bt (n-1)) v)->(∀b o,b∉wr->s2.heap.get? b=some o->h'.get? b=some o)->Q v {s2 with heap:=h',toks:=tk}) E s):
  wpAny (model prog w) A (call (.builtin "max") [x] [("default",d)]) Q E s:=by
 have nm:(toString "max"++toString ".loop":String)="max.loop":=by decide
 refine kmk_tree F.kind_max F.plain_max F.entry_max (args_maxD x d) ?_
 refine wpAny_bind (wpAny_of_eq (show Builtin.Builtins.bindParams "max" ["key","default"] 0 ⟨[],[("default",d)]⟩=pure [none,some d] from rfl) ?_)
 refine wpAny_bind (wpAny_pure (wpAny_bind (wpAny_mono h (fun it s2 h2=>?_) fun _ _ e=>e)))
 obtain ⟨I,fp,wr,n,P,St,bt,rfl,W,hst,hfp,hcmp,hQ⟩:=h2
 refine wpAny_bind (wpAny_newObj_type ?_)
 have hSf:s2.heap.objs.size∉fp:=fun hm=>Nat.lt_irrefl _ (hfp _ hm)
 rw [nm]
 refine wpAny_pure ⟨plainId_quiet F.plain_max_loop _,maxD_loop W bt hcmp s2.heap.objs.size hSf d n 0 _ none 0 (Nat.sub_zero n) (Nat.zero_le n) (W.frame _ _ _ hst fun b _ o e=>Heap.get?_push_of_some _ e) (fun _=>rfl) (fun vb q=>nomatch q) (Heap.get?_push_size _ rfl) fun v h' tk q0 q1 hk=>?_⟩
 exact hQ v h' tk q0 q1 fun b o hb e=>hk b o hb (Nat.ne_of_lt (Heap.lt_size e)) (Heap.get?_push_of_some _ e)
end
def maxI (is:List Int)(n:Int):Int:=match is with
 |[]=>n
 |i::r=>r.foldl max i
theorem zmu (f:Nat->Int):∀k,f (argBest (fun i j=>decide (f i>f j)) k)=((List.range k).map fun i=>f (i+1)).foldl max (f 0)
 |0=>rfl
 |k+1=>by
  have ih:=zmu f k
  rw [List.range_succ,map_append,foldl_append,<-ih]
  show f (if decide (f (k+1)>f (argBest _ k))=true then k+1 else argBest _ k)=max (f (argBest _ k)) (f (k+1))
  by_cases h:f (k+1)>f (argBest (fun i j=>decide (f i>f j)) k)
  ·rw [if_pos (decide_eq_true h)];omega
  ·rw [if_neg (by simpa using h)];omega
theorem maxI_best {is:List Int}{n:Int}(h:0<is.length):maxI is n=is.getD (argBest (fun i j=>decide (is.getD i 0>is.getD j 0)) (is.length-1)) 0:=by
 have:=zmu (fun i=>is.getD i 0) (is.length-1)
 rw [this]
 cases is with
 |nil=>simp at h
 |cons i r=>
  show r.foldl max i=_
  have e:(List.range ((i::r).length-1)).map (fun k=>(i::r).getD (k+1) 0)=r:=by
   refine List.ext_getElem (by simp) fun k h1 h2=>?_
   simp [List.getD,h2]
  rw [e]
  rfl
section
variable {X:Cx}
def rMaxD (K:PySem.W.Frag)(x y:V)(H:Hp)(Q:VK):Prop:=∃a is n,x=.ref a/\y=.int n/\(SqL K H a (is.map V.int)\/SqT K H a (is.map V.int))/\Q (.int (maxI is n)) H
def tMaxD (K:PySem.W.Frag)(te td:TE):TE:=fun σ H Q=>zbp te zev σ H fun vs H1=>zbp td zev σ H1 fun zs H2=>∃x y,vs=[x]/\zs=[y]/\rMaxD K x y H2 Q
theorem maxD_ok (hc:X.calm=true){pins:List (Addr×Obj)}{σ:St}{H:Hp}{s:Shared}{Q:VK}{x y:V}{u v:Value}(I:Inv X pins σ H s)(rx:RelV x u)(ry:RelV y v)(h:rMaxD X.K x y H Q):wpAny (model X.prog X.w) X.A (call (.builtin "max") [u] [("default",v)]) (EP X pins σ Q) X.xe s:=by
 obtain ⟨a,is,n,rfl,rfl,hq,q⟩:=h
 cases rx
 obtain ⟨tk0,rfl⟩:=ry
 have fin:∀{its:List Value} (rv:Vals (is.map V.int) its) {P:Nat->Value->Prop},(∀i w,P i w↔its.toArray[i]?=some w)->CmpOf X.prog X.w X.A.in1 .Gt P (fun i j=>decide (is.getD i 0>is.getD j 0)):=fun {its} rv {P} hP=>CmpOf.ints_gt (fun i=>is.getD i 0) fun i w hw=>by
  have hw:=(hP i w).mp hw
  have hw:its[i]?=some w:=by simpa using hw
  have hi:i<its.length:=(List.getElem?_eq_some_iff.mp hw).1
  have hl:=rv.length
  rw [length_map] at hl
  have hb:(is.map V.int)[i]?=some (.int (is.getD i 0)):=by
   rw [getElem?_map,getElem?_eq_getElem (by omega),List.getD,getElem?_eq_getElem (by omega)]
   rfl
  obtain ⟨w',e1,e2⟩:=rv.get hb
  rw [hw] at e1
  cases e1
  exact e2
 have done:∀{its:List Value} (rv:Vals (is.map V.int) its) {w:Value},(its.toArray.size=0->w=.int n tk0)->(0<its.toArray.size->its.toArray[argBest (fun i j=>decide (is.getD i 0>is.getD j 0)) (its.toArray.size-1)]?=some w)->RelV (.int (maxI is n)) w:=fun {its} rv {w} h0 h1=>by
  have hl:=rv.length
  rw [length_map] at hl
  by_cases z:is.length=0
  ·have:is=[]:=List.eq_nil_of_length_eq_zero z
   subst this
   rw [h0 (by rw [List.size_toArray];exact hl.symm)]
   exact ⟨tk0,rfl⟩
  ·have hw:=h1 (by simp;omega)
   have hw:its[argBest (fun i j=>decide (is.getD i 0>is.getD j 0)) (is.length-1)]?=some w:=by
    rw [List.size_toArray,<-hl] at hw
    simpa using hw
   have hi:=(List.getElem?_eq_some_iff.mp hw).1
   have hb:(is.map V.int)[argBest (fun i j=>decide (is.getD i 0>is.getD j 0)) (is.length-1)]?=some (.int (maxI is n)):=by
    rw [maxI_best (by omega),getElem?_map,getElem?_eq_getElem (by omega),List.getD,getElem?_eq_getElem (by omega)]
    rfl
   obtain ⟨w',e1,e2⟩:=rv.get hb
   rw [hw] at e1
   cases e1
   exact e2
 have hh:X.A.in1.handled=none:=I.ok.hd hc
 rcases hq with hq|hq
 ·obtain ⟨its,rv,p,hz⟩:=I.list hq
  have hlt:a<s.heap.objs.size:=by obtain ⟨_,e,_⟩:=p.isList;exact Heap.lt_size e
  refine zsq (wpAny_pyIter_list p.isList ?_)
  refine ⟨s.heap.objs.size,_,_,its.toArray.size,_,_,_,rfl,Walks.list (A:=X.A.in1) hh _ a (Nat.ne_of_lt hlt) its.toArray,⟨⟨_,Heap.get?_push_size _ rfl,rfl,rfl⟩,p.isList.push _⟩,fun b hb=>?_,fin rv fun i w=>Iff.rfl,fun w h' tk q0 q1 hk=>?_⟩
  ·show b<(s.heap.push _).objs.size
   rw [Heap.size_push]
   simp only [mem_cons,not_mem_nil,or_false] at hb
   rcases hb with rfl|rfl
   ·exact Nat.lt_succ_self _
   ·exact Nat.lt_succ_of_lt hlt
  ·refine ⟨.int (maxI is n),H,I.kept (t':=tk) (fun b o e=>hk b o (fun z=>?_) (Heap.get?_push_of_some _ e)),done rv q0 q1,q⟩
   have:b=s.heap.objs.size:=by simpa using z
   exact absurd (Heap.lt_size e) (by rw [this];exact Nat.lt_irrefl _)
 ·obtain ⟨its,rv,p,hz⟩:=I.tuple hq
  have hlt:a<s.heap.objs.size:=by obtain ⟨_,e,_⟩:=p;exact Heap.lt_size e
  refine zsq (wpAny_pyIter_tuple p ?_)
  refine ⟨s.heap.objs.size,_,_,its.toArray.size,_,_,_,rfl,Walks.tuple (A:=X.A.in1) hh _ a (Nat.ne_of_lt hlt) its.toArray,⟨⟨_,Heap.get?_push_size _ rfl,rfl,rfl⟩,p.push _⟩,fun b hb=>?_,fin rv fun i w=>Iff.rfl,fun w h' tk q0 q1 hk=>?_⟩
  ·show b<(s.heap.push _).objs.size
   rw [Heap.size_push]
   simp only [mem_cons,not_mem_nil,or_false] at hb
   rcases hb with rfl|rfl
   ·exact Nat.lt_succ_self _
   ·exact Nat.lt_succ_of_lt hlt
  ·refine ⟨.int (maxI is n),H,I.kept (t':=tk) (fun b o e=>hk b o (fun z=>?_) (Heap.get?_push_of_some _ e)),done rv q0 q1,q⟩
   have:b=s.heap.objs.size:=by simpa using z
   exact absurd (Heap.lt_size e) (by rw [this];exact Nat.lt_irrefl _)
theorem pe_maxD {e d:Expr}{te td:TE}{p pos kpos:Pos}(hm:X.mg "max"=none)(ha:PE X e te)(hd:PE X d td)(hc:X.calm=true:=by rfl)(hg:Gl X "max":=by rfl)(he:starEach [e] X.env=(false,eval e X.env)::starEach [] X.env:=by rfl)(hs2:starEach [] X.env=[]:=by rfl):
  PE X (.Call (.Name "max" p) [e] [⟨some "default",d,kpos⟩] pos) (tMaxD X.K te td):=by
 intro pins s σ H Q I h
 refine wpAny_Call_Name_kw (zjo I hg hm PyProof.Rows.boot_max ?_ (by decide) (by decide))
 have ha1:PA X [e] (zbp te zev):=zab ha zah he
 have hk1:PK X [⟨some "default",d,kpos⟩] (zbp td zev):=pk_cons hd pk_nil
 refine PyProof.Rows.callWith_kw (thn (ha1 pos pins s σ H _ I h) fun us s1 ⟨vs,H1,I1,r1,q1⟩=>?_) (by rw [he,hs2];rfl) (by rw [he,hs2];rfl)
 refine thn (hk1 pos pins s1 σ H1 _ I1 q1) fun ws s2 ⟨zs,H2,I2,rz,x,y,e1,e2,q2⟩=>?_
 subst e1 e2
 obtain ⟨u,rfl,ru⟩:=zkc r1
 obtain ⟨v,rfl,rv⟩:=zkc rz
 exact maxD_ok hc I2 ru rv q2
end
end L2
namespace FL
open PySem L2
section
variable {G:Hp}{σ:St}{ta tb:TE}{K:PySem.W.Frag}{is:List Int}{n:Int}
theorem zou:∀{H:Hp} {vs:List V} {is:List Int},Reps H vs (is.map D.int)->vs=is.map V.int
 |H,_,[],.nil=>rfl
 |H,_,i::r,.cons q t=>by rw [q.of_int,zou t];rfl
theorem ev_maxL (ha:EvM ta G σ (.lst (is.map D.int)))(hb:EvM tb G σ (.int n)):EvM (tMaxD K ta tb) G σ (.int (maxI is n)):=
 fun M H s l Q k=>ha M H s l _ fun v H1 s1 rv=>hb M H1 (s.trans (s1.but M)) (l.same s1) _ fun y H2 s2 ry=>by
  obtain ⟨a,vs,rfl,h1,h2⟩:=rv.of_lst
  have e:=zou h2
  subst e
  exact ⟨.ref a,y,rfl,rfl,a,is,n,rfl,ry.of_int,.inl (SqL.of (s2 _ _ (zac h1).2)),k _ H2 (s1.trans s2) (.int _)⟩
theorem ev_maxT (ha:EvM ta G σ (.tup (is.map D.int)))(hb:EvM tb G σ (.int n)):EvM (tMaxD K ta tb) G σ (.int (maxI is n)):=
 fun M H s l Q k=>ha M H s l _ fun v H1 s1 rv=>hb M H1 (s.trans (s1.but M)) (l.same s1) _ fun y H2 s2 ry=>by
  obtain ⟨a,vs,rfl,h1,h2⟩:=rv.of_tup
  have e:=zou h2
  subst e
  exact ⟨.ref a,y,rfl,rfl,a,is,n,rfl,ry.of_int,.inr (SqT.of (s2 _ _ (zac h1).2)),k _ H2 (s1.trans s2) (.int _)⟩
end
end FL
namespace L2
open PySem PySem.Spec PyProof.Rows
open AutoSeq1 (wpAny_loadPart')
abbrev enO (it:Addr)(n:Int):Obj:={cls:=.type "enumerate",data:=.fields #[.none,.bool false,.ref it,rawInt n,.none,.none]}
abbrev liO (l:Addr):Obj:={cls:=.type "list_iterator",data:=.fields #[.ref l,.int 0 0]}
set_option maxHeartbeats 2000000 in
theorem enumK_new (l:Addr)(items:Array Value)(k:Nat)(dct:Option Addr)(sl:Array (Option Value))(n:Int)(t:Tok)(hn:Builtin.SmallTypes.fitsIndex n=true):
  Meets (Builtin.«enumerate.__new__» ⟨[.type "enumerate",.ref l],[("start",.int n t)]⟩) (fun _ R s=>s.heap.get? l=some {cls:=.type "list",dict:=dct,data:=.seq items k,slots:=sl}/\
   R (.ok (.ret (.ref (s.heap.push (liO l)).objs.size))) {s with heap:=(s.heap.push (liO l)).push (enO s.heap.objs.size n)}):=
 .of_wp fun prog w A R s h=>by
  obtain ⟨hp,g,d,tk,os⟩:=s
  obtain ⟨hl,h⟩:=h
  have hsub:=sub_enumerate
  have hq:Heap.IsList (Shared.heap ⟨hp,g,d,tk,os⟩) l items:=⟨_,hl,rfl,k,rfl⟩
  wp_walk using wpAny_loadPart' hl
  refine wpAny_stack_any fun st=>wpAny_pure ?_
  split
  ·rename_i c _ _ _ _ _
   cases (c==Value.type "enumerate")
   ·wp_walk using wpAny_loadPart' hl,wpAny_pyIter_list hq
    exact ⟨_,rfl,h⟩
   ·wp_walk using wpAny_loadPart' hl,wpAny_pyIter_list hq
    exact ⟨_,rfl,h⟩
  ·wp_walk using wpAny_loadPart' hl,wpAny_pyIter_list hq
   exact ⟨_,rfl,h⟩
theorem zy9 (a b:Value):checkTypeCall "enumerate" ⟨[a],[("start",b)]⟩=pure ():=by kernel_rfl
theorem zuq (a b:Value):checkBuiltinCall "enumerate.__new__" ⟨[.type "enumerate",a],[("start",b)]⟩=pure ():=by kernel_rfl
theorem zyc (obj a b:Value):argsOk "object.__init__" ⟨[obj,a],[("start",b)]⟩:=by unfold argsOk;kernel_rfl
section
variable {prog:Program}{w:World}{A:Around}{E:Value->Shared->Prop}{s:Shared}
theorem zya {self a b:Value}:Meets (Builtin.«object.__init__» ⟨[self,a],[("start",b)]⟩) (fun _ R s=>s.TypeIs self "enumerate"/\R (.ok (.ret .none)) s):=by
 refine Meets.of_wp fun prog w A R s hs=>?_
 obtain ⟨hT,hq⟩:=hs
 have hl:=F.called_enumerate.init.lookup
 have hm:=F.called_enumerate.made
 have hne:(some "enumerate.__new__" !=some "object.__new__")=true:=by decide
 repeat (any_goals (first|(assumption)|wp_step))
 exact ⟨_,rfl,hq⟩
theorem zyb {l:Addr}{items:Array Value}{n:Int}{t:Tok}{Q:Value->Shared->Prop}(hL:s.heap.IsList l items)(hn:Builtin.SmallTypes.fitsIndex n=true)
  (h:∀h',IsEnum h' (s.heap.objs.size+1) s.heap.objs.size n .none->h'.IsListIter s.heap.objs.size l 0->h'.objs.size=s.heap.objs.size+2->(∀b o,s.heap.get? b=some o->h'.get? b=some o)->Q (.ref (s.heap.objs.size+1)) {s with heap:=h'}):
  wpAny (model prog w) A (call (.type "enumerate") [.ref l] [("start",.int n t)]) Q E s:=by
 obtain ⟨⟨c,dct,dt,sl⟩,hl,hc,k,hd⟩:=hL
 simp only at hc hd
 subst hc hd
 have ft:=F.called_enumerate
 obtain ⟨c0,tl,hmro⟩:=ft.mro
 have hmade:=ft.made
 have hsub:=ft.sub
 have hct:=zy9 (.ref l) (.int n t)
 refine wpAny_call (codeAny_of_tree ?_)
 show wpAny _ _ (callAny (.type "enumerate") _) _ _ _
 refine wpAny_pure ⟨Code.quiet_builtin _ (by decide+kernel),codeAny_builtin F.entry_type_call ?_⟩
 rw [Around.under_plain (weight_type_call_type "enumerate" [.ref l] [("start",.int n t)]) (units_type_call_type "enumerate" [.ref l] [("start",.int n t)])]
 have h1:=ft.notType
 have h2:=ft.canCreate
 repeat (any_goals (first|(assumption)|wp_step))
 have g:=enumK_new l items k dct sl n t hn
 have hz:(s.heap.push (liO l)).objs.size=s.heap.objs.size+1:=Heap.size_push ..
 have he:IsEnum ((s.heap.push (liO l)).push (enO s.heap.objs.size n)) (s.heap.objs.size+1) s.heap.objs.size n .none:=by
  have:=Heap.get?_push_size (s.heap.push (liO l)) (o:=enO s.heap.objs.size n) rfl
  rw [hz] at this
  exact this
 refine codeAny_mono (codeAny_call_builtin ft.plain F.entry_enumerate_new (wpAny_of_eq (zuq _ _) (g prog w A.in1 (wants (fun obj s1=>obj=.ref (s.heap.objs.size+1)/\s1={s with heap:=(s.heap.push (liO l)).push (enO s.heap.objs.size n)}) E) s ⟨hl,⟨by rw [hz],rfl⟩⟩))) fun r s1 hr=>?_
 cases r with
 |error e=>exact hr
 |ok fl=>
  cases fl with
  |ret obj=>
   obtain ⟨rfl,rfl⟩:=hr
   have hT:({s with heap:=(s.heap.push (liO l)).push (enO s.heap.objs.size n)}:Shared).TypeIs (.ref (s.heap.objs.size+1)) "enumerate":=⟨_,he,rfl⟩
   have hli:=ft.init.lookup
   have hbi:=ft.init.bind (.ref (s.heap.objs.size+1))
   repeat (any_goals (first|(assumption)|wp_step))
   refine codeAny_mono (codeAny_call_builtin ft.init.plain F.entry_object_init (ft.init.check _ _ _ _ _ _ _ _ hT (zyc _ _ _) (zya prog w A.in1 (wants (fun r s2=>r=.none/\s2={s with heap:=(s.heap.push (liO l)).push (enO s.heap.objs.size n)}) E) _ ⟨hT,rfl,rfl⟩))) fun r2 s2 hr2=>?_
   cases r2 with
   |error e=>exact hr2
   |ok fl2=>
    cases fl2 with
    |ret r=>
     obtain ⟨rfl,rfl⟩:=hr2
     repeat (any_goals (first|(assumption)|wp_step))
     exact h _ he ⟨_,Heap.get?_push_of_some _ (Heap.get?_push_size _ rfl),rfl,rfl⟩ (by rw [Heap.size_push,hz]) fun b o x=>Heap.get?_push_of_some _ (Heap.get?_push_of_some _ x)
    |_=>exact hr2.elim
  |_=>exact hr.elim
end
end L2
namespace L2
open PySem PySem.Spec PyProof.Rows
theorem zyd {prog:Program}{w:World}{A:Around}{it:Addr}{fp:List Addr}{m:Nat}{P:Nat->Value->Prop}{St:Nat->Heap->Prop}(D:Draws prog w A it fp m P St)(n:Nat):
  Draws prog w A it fp (n+m) (fun i v=>P (i-n) v) (fun i h=>n<=i/\St (i-n) h) where
 live:=fun _ h st=>D.live _ h st.2
 frame:=fun _ h h' st k=>⟨st.1,D.frame _ h h' st.2 k⟩
 item:=fun i s Q E hi st k=>D.item (i-n) s Q E (by have:=st.1;omega) st.2 fun x h' tk hx hst sb=>by
  have e:i+1-n=i-n+1:=by have:=st.1;omega
  exact k x h' tk hx ⟨by have:=st.1;omega,by rw [e];exact hst⟩ sb
 done:=fun s Q E st k=>D.done s Q E (by have:=st.2;rwa [Nat.add_sub_cancel_left] at this) k
theorem draws_end {prog:Program}{w:World}{A:Around}(hh:A.handled=none)(it l:Addr)(hne:l≠it)(items:Array Value)(i:Nat)(hi:items[i]?=none):
  Draws prog w A it [it,l] i (fun _ _=>True) (fun j h=>j=i/\h.IsListIter it l i/\h.IsList l items) where
 live:=fun _ _ st=>let ⟨o,ho,_⟩:=st.2.1;⟨o,ho⟩
 frame:=fun _ _ _ st k=>⟨st.1,st.2.1.at fun o e=>k it (by simp) o e,st.2.2.at fun o e=>k l (by simp) o e⟩
 item:=fun j s Q E hj st k=>by have:=st.1;omega
 done:=fun s Q E st k=>wpAny_nextOf_list_end hh st.2.1 st.2.2 hi k
def Its (K:PySem.W.Frag)(a:Addr)(n:Nat):It:=
 ⟨fun i H=>∃xs x,SqL K H a xs/\xs[i]?=some x,
  fun i H v H'=>∃T x,H T=none/\v=.ref T/\H'=upd H T (.tup [.int ((n+i:Nat):Int),x])/\∀xs,SqL K H a xs->xs[i]?=some x,
  fun i H=>∃xs,SqL K H a xs/\xs.length<=i⟩
theorem zwu {P:Program}{w:World}{K:PySem.W.Frag}{es:List Expr}{kk:Nat}{tp:Pos}{e it a:Addr}(n:Nat)(hne:e≠it)(hea:e≠a)(hai:a≠it):
  Turn P w K (.Tuple es kk tp) (Its K a n) [e,it] e (fun i h=>(∃old,IsEnum h e it ((n+i:Nat):Int) old)/\h.IsListIter it a i) where
 mem:=by simp
 obj:=fun i h ⟨⟨old,he⟩,⟨o1,e1,_,d1⟩⟩ q hq=>by
  simp only [mem_cons,not_mem_nil,or_false] at hq
  rcases hq with rfl|rfl
  ·exact ⟨_,he,fun v z=>nomatch z⟩
  ·exact ⟨_,e1,fun v z=>by rw [d1] at z;cases z⟩
 keep:=fun i h h' ⟨⟨old,he⟩,⟨o1,e1,r1⟩⟩ k=>⟨⟨old,k _ (by simp) _ he⟩,⟨o1,k _ (by simp) _ e1,r1⟩⟩
 item:=by
  intro X hP hw hK hc i pins s σ H E I hf st hg
  subst hP hw hK
  obtain ⟨xs,x,hq,hx⟩:=hg
  obtain ⟨its,rv,p,hz⟩:=I.list hq
  obtain ⟨u,hu,ru⟩:=rv.get hx
  obtain ⟨⟨old,he⟩,hit⟩:=st
  have hi:i<its.toArray.size:=by have:=(List.getElem?_eq_some_iff.mp hu).1;simpa using this
  have D:=zyd (Draws.list (prog:=X.prog) (w:=X.w) (A:=X.A.in1) (I.ok.hd hc) it a hai its.toArray) n
  refine wpAny_pyNext_enum_itemD (i:=n+i) D he ⟨Nat.le_add_right _ _,by rw [Nat.add_sub_cancel_left];exact ⟨hit,p.isList⟩⟩ (by omega) hne (by simp [hne,hea]) fun u' h' tk hu' heo st' hT hzz kp=>?_
  have euu:u'=u:=by
   have h1:its.toArray[n+i-n]?=some u':=hu'
   rw [Nat.add_sub_cancel_left] at h1
   have h2:its[i]?=some u':=by simpa using h1
   rw [hu] at h2
   exact (Option.some.inj h2).symm
  subst euu
  have hit':h'.IsListIter it a (i+1):=by
   have:=st'.2.1
   rw [show n+i+1-n=i+1 by omega] at this
   exact this
  refine ⟨_,rfl,?_⟩
  refine wpAny_letOwnedTupleGo_enum (s:={s with heap:=h',toks:=tk+1}) heo fun h2' he2 sb=>?_
  have hTe:s.heap.objs.size≠e:=Nat.ne_of_gt (Heap.lt_size he)
  have hT2:h2'.get? s.heap.objs.size=some {cls:=.type "tuple",data:=.seq #[.int ((n+i:Nat):Int) tk,u']}:=(sb.2 _ hTe).trans hT
  have kp2:∀c o,c∉[e,it]->s.heap.get? c=some o->h2'.get? c=some o:=fun c o hc e'=>(sb.2 c fun q=>hc (by simp [q])).trans (kp c o (fun q=>hc (by simp [q])) (fun q=>hc (by simp [q])) e')
  have hTn:H s.heap.objs.size=none:=I.hok.fresh (Nat.le_refl _)
  refine ⟨.ref s.heap.objs.size,upd H s.heap.objs.size (.tup [.int ((n+i:Nat):Int),x]),I.turnLay (t':=tk+1) hf (Nat.le_refl _) kp2 ⟨by show 2<=sizeLine;decide,[.int ((n+i:Nat):Int) tk,u'],.cons ⟨_,rfl⟩ (.cons ru .nil),⟨_,hT2,rfl,_,rfl⟩⟩,rfl,⟨_,x,hTn,rfl,rfl,fun ys hy=>by rw [I.list_inj hy hq];exact hx⟩,⟨⟨u',by have:=he2;rw [show ((n+i:Nat):Int)+1=((n+(i+1):Nat):Int) by omega] at this;exact this⟩,hit'.extBut sb.extBut (Ne.symm hne)⟩,fun b' hb=>?_⟩
  obtain ⟨ob,e',_⟩:∃ob,s.heap.get? b'=some ob/\True:=by
   simp only [mem_cons,not_mem_nil,or_false] at hb
   obtain ⟨o1,e1,_⟩:=hit
   rcases hb with rfl|rfl
   ·exact ⟨_,he,trivial⟩
   ·exact ⟨_,e1,trivial⟩
  rw [zal (Nat.ne_of_lt (Heap.lt_size e'))]
  exact (hf b' hb).1
 done:=by
  intro X hP hw hK hc i pins s σ H E I hf st hg
  subst hP hw hK
  obtain ⟨xs,hq,hx⟩:=hg
  obtain ⟨its,rv,p,hz⟩:=I.list hq
  obtain ⟨⟨old,he⟩,hit⟩:=st
  have hl:=rv.length
  exact wpAny_pyNext_enum_endD (draws_end (prog:=X.prog) (w:=X.w) (A:=X.A.in1) (I.ok.hd hc) it a hai its.toArray i (by simp;omega)) he ⟨rfl,hit,p.isList⟩ fun h' eb=>⟨rfl,I.turnN (t':=s.toks) hf fun c o hcc e=>eb c o (fun q=>hcc (by simp [q])) e⟩
 self:=fun A i s Q E st h=>let ⟨⟨_,he⟩,_⟩:=st;wpAny_pyIter_enum he h
theorem zsv {M:Model}{A:Around}{E:Value->Shared->Prop}{s:Shared}{env:Env}{pos:Pos}{T:String}{e:Expr}{rest:List Expr}{kws:List Keyword}{Q:Value->Shared->Prop}
  (h:wpAny M A (spliced (backTo pos (starEach (e::rest) env))) (fun vs s1=>wpAny M A (evalAll ((backToKw pos (keywordEach kws env)).map (·.2)))
   (fun ws s2=>wpAny M A (call (.type T) vs (((backToKw pos (keywordEach kws env)).filterMap (·.1)).zip ws)) Q E s2) E s1) E s)
  (he:backTo pos (starEach (e::rest) env)=(false,eval e env)::backTo pos (starEach rest env)) (hpl:(backTo pos (starEach (e::rest) env)).any (·.1)=false)
  (hall:(backToKw pos (keywordEach kws env)).all (·.1.isSome)=true:=by rfl) (hkw:(backToKw pos (keywordEach kws env)).any (·.1.isNone)=false:=by rfl):
  wpAny M A (callWith pos (.type T) [] (backTo pos (starEach (e::rest) env)) (backToKw pos (keywordEach kws env))) Q E s:=by
 have h1:wpAny M A (evalArgs (.type T) true (backTo pos (starEach (e::rest) env)) (backToKw pos (keywordEach kws env))) (fun a s1=>wpAny M A (call (.type T) a.pos a.kw) Q E s1) E s:=by
  rw [he] at h⊢
  exact evalArgs_kwB hall h
 unfold callWith
 refine wpAny_bind (wpAny_holding (wpAny_mono h1 (fun a s1 q=>wpAny_bind (wpAny_standAt ?_)) fun _ _ z=>z))
 simp only [hpl,hkw,Bool.or_false]
 refine wpAny_bind (wpAny_pure (wpAny_bind (wpAny_mono q (fun r s2 hr=>wpAny_bind (wpAny_holding (wpAny_point (wpAny_pure hr)))) fun _ _ z=>z)))
section
variable {X:Cx}
def iEnumS (K:PySem.W.Frag)(te tb:TE):TI:=fun σ H R=>zbp te zev σ H fun vs H1=>zbp tb zev σ H1 fun zs H2=>∃a n,vs=[.ref a]/\zs=[.int ((n:Nat):Int)]/\n<2^62/\(∃xs,SqL K H2 a xs)/\R (Its K a n) H2
theorem pi_enumS {es:List Expr}{kk:Nat}{tp:Pos}{a b:Expr}{te tb:TE}{p pos kpos:Pos}(hm:X.mg "enumerate"=none)(ha:PE X a te)(hb:PE X b tb)(hg:Gl X "enumerate":=by rfl)(he:starEach [a] X.env=(false,eval a X.env)::starEach [] X.env:=by rfl)(hs2:starEach [] X.env=[]:=by rfl):
  PI X (.Tuple es kk tp) (.Call (.Name "enumerate" p) [a] [⟨some "start",b,kpos⟩] pos) (iEnumS X.K te tb):=by
 intro pins s σ H R I h
 have ha1:PA X [a] (zbp te zev):=zab ha zah he
 have hk1:PK X [⟨some "start",b,kpos⟩] (zbp tb zev):=pk_cons hb pk_nil
 refine wpAny_Call_Name_kw (zjo I hg hm PyProof.Rows.boot_enumerate ?_ (by decide) (by decide))
 refine zsv (thn (ha1 pos pins s σ H _ I h) fun us s1 ⟨vs,H1,I1,r1,q1⟩=>?_) (by rw [he,hs2];rfl) (by rw [he,hs2];rfl)
 refine thn (hk1 pos pins s1 σ H1 _ I1 q1) fun ws s2 ⟨zs,H2,I2,rz,a,n,e1,e2,hn,⟨xs,hq⟩,q⟩=>?_
 subst e1 e2
 obtain ⟨u,rfl,ru⟩:=zkc r1
 obtain ⟨v,rfl,rv⟩:=zkc rz
 cases ru
 obtain ⟨tk,rfl⟩:=rv
 obtain ⟨its,rv,p1,hz1⟩:=I2.list hq
 have hlt:a<s2.heap.objs.size:=by obtain ⟨_,e,_⟩:=p1.isList;exact Heap.lt_size e
 refine zyb p1.isList (by unfold Builtin.SmallTypes.fitsIndex;simp;omega) fun h' g1 g2 hz kp=>?_
 have I3:Inv X pins σ H2 {s2 with heap:=h'}:=I2.kept (t':=s2.toks) kp
 refine wpAny_pyIter_enum (s:={s2 with heap:=h'}) g1 ?_
 refine ⟨s2.heap.objs.size+1,[s2.heap.objs.size+1,s2.heap.objs.size],_,_,H2,rfl,I3,zwu n (Nat.succ_ne_self _) (Nat.ne_of_gt (Nat.lt_succ_of_lt hlt)) (Nat.ne_of_lt hlt),⟨⟨_,g1⟩,g2⟩,fun c hc=>?_,q⟩
 have hcn:s2.heap.objs.size<=c:=by
  simp only [mem_cons,not_mem_nil,or_false] at hc
  rcases hc with rfl|rfl
  ·exact Nat.le_add_right _ _
  ·exact Nat.le_refl _
 exact I2.fpOk hcn (I2.hok.fresh hcn)
end
end L2
namespace FL
open PySem L2
def zsk (n:Nat)(xs:List D):List D:=xs.zipIdx.map fun p=>.tup [.int ((n+p.2:Nat):Int),p.1]
theorem enumS_at {n:Nat}{xs:List D}{j:Nat}{d:D}(h:(zsk n xs)[j]?=some d):∃x,xs[j]?=some x/\d=.tup [.int ((n+j:Nat):Int),x]:=by
 unfold zsk at h
 rw [getElem?_map,List.getElem?_zipIdx] at h
 cases e:xs[j]? with
 |none=>rw [e] at h;cases h
 |some x=>rw [e] at h;exact ⟨x,rfl,by have:=Option.some.inj h;rw [<-this];simp⟩
theorem zwq {G:Hp}{σ:St}{te tb:TE}{xs:List D}{n:Nat}{K:PySem.W.Frag}(hn:n<2^62)(h:EvM te G σ (.lst xs))(hb:EvM tb G σ (.int ((n:Nat):Int))):zte (iEnumS K te tb) G σ (zsk n xs):=fun M H s l R k=>h M H s l _ fun v H0 s0 r0=>hb M H0 (s.trans (s0.but M)) (l.same s0) _ fun z H1 s1 rz=>by
 obtain ⟨a,us,rfl,h1,h2⟩:=r0.of_lst
 have h1:=s1.but M _ _ h1
 have h2:=h2.mono (s1.but M)
 refine ⟨a,n,rfl,by rw [rz.of_int],hn,⟨us,SqL.of (zac h1).2⟩,k _ H1 (s0.trans s1) (fun j d M' H' hj hs hlv=>?_) (fun M' H' hs=>?_)⟩
 ·have ha:=(zac (hs _ _ h1)).2
  obtain ⟨x,e1,rfl⟩:=enumS_at hj
  obtain ⟨u,hu,ru⟩:=h2.get e1
  refine ⟨⟨us,u,SqL.of ha,hu⟩,fun v H'' ⟨T,x',hT,e,eH,hy⟩=>?_⟩
  have q1:=hy us (SqL.of ha)
  rw [hu] at q1
  cases q1
  subst e eH
  refine ⟨zbm hT _,?_⟩
  exact zey hlv hT (.cons (.int _) (.cons (ru.mono hs) .nil))
 ·have ha:=(zac (hs _ _ h1)).2
  refine ⟨us,SqL.of ha,?_⟩
  rw [h2.length]
  simp [zsk]
end FL
namespace L2
open PySem PySem.Spec PyProof.Rows
section
variable {X:Cx}{pins:List (Addr×Obj)}{σ:List (Option V)}{H H':Hp}{s:Shared}{h':Heap}
theorem Inv.stepN {g':Array GenState}{t':Nat}{d':Drawn}{ch:List Addr}(I:Inv X pins σ H s)
  (hch:∀b∈ch,(b∈X.ex\/X.s₀.heap.get? b=none)/\b≠X.env.locals/\(∀x c,X.env.cells.lookup x=some c->c≠b)/\∀p∈X.pn++pins,p.1≠b)
  (keep:∀b o,b≠X.env.locals->b∉X.fs->b∉ch->s.heap.get? b=some o->H b=none->h'.get? b=some o)
  (slot:∀b o,b≠X.env.locals->b∈X.fs->b∉ch->s.heap.get? b=some o->H b=none->∃sl,h'.get? b=some {o with slots:=sl}) (free:∀b o,b∉ch->s.heap.get? b=some o->H b=none->H' b=none)
  (there:∀b o,b∉ch->s.heap.get? b=some o->∃o',h'.get? b=some o')
  (tups:∀b xs,H b=some (.tup xs)->H' b=some (.tup xs)) (frzs:∀b o u,H b=some (.frz o u)->H' b=some (.frz o u)) (tbls:∀b ps,H b=some (.tbl ps)->∃more,H' b=some (.tbl (ps++more)))
  (ns:∀m,s.heap.Ns X.env.locals m->h'.Ns X.env.locals m) (hok:HOk X.prog X.w H' h') (hg:AllBare g'):
  Inv X pins σ H' {s with heap:=h',gens:=g',drawn:=d',toks:=t'}:=by
 have neL:∀b o,X.s₀.heap.get? b=some o->b≠X.env.locals:=fun b o e=>Nat.ne_of_lt (Nat.lt_of_lt_of_le (Heap.lt_size e) I.ok.above)
 have neC:∀b o,X.s₀.heap.get? b=some o->b∉X.ex->b∉ch:=fun b o e hx hb=>by
  rcases (hch b hb).1 with z|z
  ·exact hx z
  ·rw [z] at e;cases e
 have cellK:∀x c,X.env.cells.lookup x=some c->∀v,s.heap.IsCell c v->h'.IsCell c v:=fun x c e v ⟨o,ho,hd⟩=>by
  have nch:c∉ch:=fun z=>(hch c z).2.2.1 x c e rfl
  by_cases hc:c∈X.fs
  ·obtain ⟨sl,q⟩:=slot c o (I.cne x c e) hc nch ho (I.freeC x c e)
   exact ⟨_,q,hd⟩
  ·exact ⟨o,keep c o (I.cne x c e) hc nch ho (I.freeC x c e),hd⟩
 refine ⟨I.ok,I.os,hg,⟨fun b o e n hb hx=>?_,fun b o e n hb hx=>?_,fun b o e n hx=>?_,fun b o e hx=>?_,fun b xs e=>tups b xs (I.base.tups b xs e),fun b o xs e=>frzs b o xs (I.base.frzs b o xs e),fun b ps e=>?_⟩,?_,fun x c e=>?_,?_,fun x c e=>?_,fun p hp=>?_,hok,I.len⟩
 ·exact keep b o (neL b o e) hb (neC b o e hx) (I.base.keep b o e n hb hx) (I.base.free b o e n hx)
 ·obtain ⟨sl,e1⟩:=I.base.slot b o e n hb hx
  obtain ⟨sl',e2⟩:=slot b _ (neL b o e) hb (neC b o e hx) e1 (I.base.free b o e n hx)
  exact ⟨sl',e2⟩
 ·obtain ⟨o',e1⟩:=I.base.there b o e hx
  exact free b o' (neC b o e hx) e1 (I.base.free b o e n hx)
 ·obtain ⟨o',e1⟩:=I.base.there b o e hx
  exact there b o' (neC b o e hx) e1
 ·obtain ⟨m1,e1⟩:=I.base.tbls b ps e
  obtain ⟨m2,e2⟩:=tbls b _ e1
  exact ⟨m1++m2,by rw [e2,Array.append_assoc]⟩
 ·obtain ⟨m,hn,hl⟩:=I.loc
  refine ⟨m,ns m hn,fun i x v e1 e2 e3=>?_⟩
  obtain ⟨u,r,l⟩:=hl i x v e1 e2 e3
  refine ⟨u,r,?_⟩
  rcases l with l|⟨k,c,e,z⟩
  ·exact .inl l
  ·exact .inr ⟨k,c,e,cellK x c e _ z⟩
 ·obtain ⟨v,z⟩:=I.cell x c e
  exact ⟨v,cellK x c e v z⟩
 ·obtain ⟨m,⟨o,_,_,ho,_⟩,_⟩:=I.loc
  exact free _ o (fun z=>(hch _ z).2.1 rfl) ho I.free
 ·obtain ⟨v,o,ho,hd⟩:=I.cell x c e
  exact free c o (fun z=>(hch c z).2.2.1 x c e rfl) ho (I.freeC x c e)
 ·obtain ⟨e,n,ne,nf,d⟩:=I.pin p hp
  have nch:p.1∉ch:=fun z=>(hch p.1 z).2.2.2 p hp rfl
  exact ⟨keep p.1 p.2 ne nf nch e n,free p.1 p.2 nch e n,ne,nf,d⟩
end
section
variable {X:Cx}{σ:St}{H:Hp}{s:Shared}{ea T:Addr}{cls fl:Value}{E:Value->St->Hp->Prop}
end
section
variable {P:Program}{w:World}{K:PySem.W.Frag}{mg:Str->Option Value}{base:Heap}
end
section
variable {X:Cx}{st:Stmt}{rest:List Stmt}{t u:TS}
end
section
variable {P:Program}{w:World}{K:PySem.W.Frag}{mg:Str->Option Value}{base:Heap}
end
end L2
namespace L2
open PySem PySem.Spec PyProof.Rows
section
variable {X:Cx}{pins:List (Addr×Obj)}{σ:St}{H:Hp}{s:Shared}
theorem Inv.freeze {p:Addr}{kvs:List (Key×V)}{o:Obj}(I:Inv X pins σ H s)(e:H p=some (.dK kvs))(ho:s.heap.get? p=some o):Inv X pins σ (upd H p (.frz o (.dK kvs))) s:=by
 have ne:∀b u,H b=some u->u≠.dK kvs->b≠p:=fun b u q hu z=>by rw [z,e] at q;exact hu (Option.some.inj q).symm
 refine I.stepN (h':=s.heap) (g':=s.gens) (d':=s.drawn) (t':=s.toks) (ch:=[]) (fun b hb=>nomatch hb) (fun b o _ _ _ q _=>q) (fun b o _ _ _ q _=>⟨o.slots,q⟩) (fun b o _ _ n=>?_) (fun b o _ q=>⟨o,q⟩)
  (fun b xs q=>by rw [zal (ne b _ q (by intro z;cases z))];exact q) (fun b o u q=>by rw [zal (ne b _ q (by intro z;cases z))];exact q) (fun b ps q=>⟨#[],by rw [zal (ne b _ q (by intro z;cases z)),q];simp⟩) (fun m hm=>hm) (fun b u q=>?_) I.bare
 ·rw [zal fun z=>by rw [z,e] at n;cases n];exact n
 ·by_cases hb:b=p
  ·subst hb
   rw [zae] at q
   cases q
   refine ⟨ho,?_⟩
   exact (I.hok b _ e).stay (fun c v _ q=>q) (fun c q=>by rw [zal (ne c _ q (by intro z;cases z))];exact q) fun c xs q=>by rw [zal (ne c _ q (by intro z;cases z))];exact q
  ·rw [zal hb] at q
   exact (I.hok b u q).stay (fun c v _ q=>q) (fun c q=>by rw [zal (ne c _ q (by intro z;cases z))];exact q) fun c xs q=>by rw [zal (ne c _ q (by intro z;cases z))];exact q
def tFrz (te:TE):TE:=fun σ H Q=>te σ H fun x H1=>∃p kvs,x=.ref p/\H1 p=some (.dK kvs)/\∀o,Q x (upd H1 p (.frz o (.dK kvs)))
theorem pe_frz {e:Expr}{te:TE}(h:PE X e te):PE X e (tFrz te):=by
 intro pins s σ H Q I hq
 refine thn (h pins s σ H _ I hq) fun u s1 ⟨x,H1,I1,r1,p,kvs,ex,ep,q⟩=>?_
 obtain ⟨_,_,vs,_,dd⟩:=(show ObjOk X.prog X.w H1 s1.heap p (.dK kvs) from I1.hok p _ ep)
 obtain ⟨epo,hat⟩:=dd.dictAt
 obtain ⟨o,es,ho,_⟩:=hat
 exact ⟨x,_,I1.freeze ep ho,r1,q o⟩
theorem kv_get {κ:Type}{ks:List (κ×V)}{vs:List (κ×Value)}(h:KV ks vs):∀{i:Nat} {p:κ×V},ks[i]?=some p->∃q,vs[i]?=some q/\p.1=q.1/\RelV p.2 q.2:=by
 unfold KV at h
 induction h with
 |nil=>intro i p e;cases e
 |cons a t ih=>
  intro i p e
  cases i with
  |zero=>cases e;exact ⟨_,rfl,a⟩
  |succ i=>exact ih e
def Itd (d:Addr)(o:Obj)(kvs:List (Key×V)):It:=
 ⟨fun i H=>i<kvs.length/\H d=some (.frz o (.dK kvs)),fun i H x H'=>H'=H/\(kvs[i]?).map (·.2)=some x,fun i H=>kvs.length<=i/\H d=some (.frz o (.dK kvs))⟩
theorem zpm {d:Addr}{o:Obj}{kvs:List (Key×V)}{ep:Nat}{es:Array DictEntry}(I:Inv X pins σ H s)(e:H d=some (.frz o (.dK kvs)))(hd:o.data=.dict es ep):∃vs,KV kvs vs/\s.heap.DictAt (zc9 X.prog X.w) d vs ep:=by
 obtain ⟨ho,_,_,vs,rel,dd⟩:=(show ObjOk X.prog X.w H s.heap d (.frz o (.dK kvs)) from I.hok d _ e)
 obtain ⟨ep2,hat⟩:=dd.dictAt
 obtain ⟨o2,es2,ho2,r1,r2,r3⟩:=id hat
 rw [ho] at ho2
 cases ho2
 rw [hd] at r2
 cases r2
 exact ⟨vs,rel,hat⟩
end
theorem turn_vals {P:Program}{w:World}{K:PySem.W.Frag}{tg:Expr}(d it:Addr)(o:Obj)(kvs:List (Key×V))(ep:Nat)(es:Array DictEntry)(hd:o.data=.dict es ep):Turn P w K tg (Itd d o kvs) [it] it (fun i h=>h.IsValIter it d i kvs.length ep) where
 mem:=by simp
 obj:=fun i h st b hb=>by
  have e:b=it:=by simpa using hb
  subst e
  obtain ⟨o,e,c,d⟩:=st
  exact ⟨o,e,fun v z=>by rw [d] at z;cases z⟩
 keep:=fun i h h' st k=>let ⟨o,e,r⟩:=st;⟨o,k it (by simp) o e,r⟩
 item:=by
  intro X hP hw hK hc i pins s σ H E I hf st hg
  subst hP hw hK
  obtain ⟨hi,hH⟩:=hg
  obtain ⟨vs,rel,hat⟩:=zpm I hH hd
  have hl:=rel.length
  have hx:kvs[i]?=some kvs[i]:=getElem?_eq_getElem hi
  obtain ⟨q,hq,rq⟩:=kv_get rel hx
  obtain ⟨f0,f1,f2,f3,f4,f5⟩:=hf it (by simp)
  rw [hl] at st
  refine wpAny_pyNext_values_item (k:=q.1) (v:=q.2) st hat hq fun h' st' sb=>?_
  have I1:Inv X pins σ H {s with heap:=h'}:=I.turned (t':=s.toks) (fun b o hb e=>(sb.2 b hb).trans e) f0 f1 f3 f4 f5
  obtain ⟨o',e',c',d'⟩:=id st'
  rw [<-hl] at st'
  exact ⟨q.2,rfl,go_of (s:={s with heap:=h'}) e' c' d' (by decide) ⟨kvs[i].2,H,I1,rq.2,⟨rfl,by rw [hx];rfl⟩,st',fun b hb=>(hf b hb).1⟩⟩
 done:=by
  intro X hP hw hK hc i pins s σ H E I hf st hg
  subst hP hw hK
  obtain ⟨hi,hH⟩:=hg
  obtain ⟨vs,rel,hat⟩:=zpm I hH hd
  have hl:=rel.length
  obtain ⟨f0,f1,f2,f3,f4,f5⟩:=hf it (by simp)
  rw [hl] at st
  exact wpAny_pyNext_values_end (I.ok.hd hc) st hat (getElem?_eq_none (by omega)) fun h' eb=>⟨rfl,I.turned (t':=s.toks) (fun b o hb e=>eb b o hb e) f0 f1 f3 f4 f5⟩
 self:=fun _ _ _ _ _ st h=>wpAny_pyIter_valiter st h
abbrev vwO (p d:Addr):HO:=.ext fun h=>h.IsValuesView p d
section
variable {X:Cx}
def rVals:V->List V->Hp->VK->Prop:=fun x xs H Q=>∃d kvs,x=.ref d/\xs=[]/\Rd H d (.dK kvs)/\∀p,H p=none->Q (.ref p) (upd H p (vwO p d))
theorem mt_vals:MtR X "dict.values" rVals:=by
 intro pins s σ H x xs v us Q I rx rs h
 obtain ⟨d,kvs,rfl,rfl,e,q⟩:=h
 cases rx
 cases rs
 obtain ⟨z,hd,vs,rel,dd⟩:=zlc I.hok e
 refine call_meetsIn PySem.F.slot_dict_values dd.typeIs PySem.F.entry_dict_values (PySem.F.args_dict_values_1 _) (meets_dict_values (zc9 X.prog X.w) d hd) ⟨⟨vs,dd⟩,?_⟩
 have hn:H s.heap.objs.size=none:=I.hok.fresh (Nat.le_refl _)
 refine ⟨.ref s.heap.objs.size,upd H s.heap.objs.size (vwO s.heap.objs.size d),I.laid (t':=s.toks) (fun b u q=>Heap.get?_push_of_some _ q) (Nat.le_refl _) ?_,rfl,q _ hn⟩
 have hv:(s.heap.push {cls:=.type "dict_values",data:=.fields #[.ref d]}).IsValuesView s.heap.objs.size d:=⟨_,Heap.get?_push_size _ rfl,rfl,rfl⟩
 exact ⟨hv,⟨_,Heap.get?_push_size _ rfl⟩,fun h1 h2 ⟨o,e1,e2⟩ k=>⟨o,k o e1,e2⟩⟩
def tVals (to:TE):TE:=fun σ H Q=>to σ H fun x H1=>(∃d,x=.ref d/\IsD H1 d)/\rVals x [] H1 Q
theorem pe_vals {o:Expr}{to:TE}{apos cpos:Pos}(ho:PE X o to)(hbase:attributeBase o "values" X.env (eval o X.env)=eval o X.env:=by rfl)(hline:(apos.endLine==cpos.line)=true:=by rfl):PE X (.Call (.Attribute o "values" apos) [] [] cpos) (tVals to):=by
 intro pins s σ H Q I h
 refine wpAny_Call_method0_late hbase hline (thn (ho pins s σ H _ I h) fun v s1 ⟨x,H1,I1,r1,⟨d,ex,hd⟩,q1⟩=>?_)
 subst ex
 cases r1
 obtain ⟨h1,h2,_⟩:=isD_at I1 hd
 exact ⟨"dict","dict.values",PySem.F.plainAttrs_dict,PySem.F.slot_dict_values,PySem.F.type_dict_values,h1,h2,Calls.callWith_builtin rfl (PySem.evalArgs_none (mt_vals pins s1 σ H1 (.ref d) [] (.ref d) [] Q I1 rfl .nil q1))⟩
def iVals (tl:TE):TI:=fun σ H R=>tl σ H fun x H1=>∃p d o kvs,x=.ref p/\H1 p=some (vwO p d)/\H1 d=some (.frz o (.dK kvs))/\R (Itd d o kvs) H1
theorem pi_vals {tg l:Expr}{tl:TE}(hl:PE X l tl):PI X tg l (iVals tl):=by
 intro pins s σ H R I h
 refine thn (hl pins s σ H _ I h) fun v s1 ⟨x,H1,I1,r1,q1⟩=>?_
 obtain ⟨p,d,o,kvs,e,hp,hd,q⟩:=q1
 subst e
 cases r1
 obtain ⟨hv,_,_⟩:=(show ObjOk X.prog X.w H1 s1.heap p (vwO p d) from I1.hok p _ hp)
 obtain ⟨ho,_,_,vs0,rel0,dd⟩:=(show ObjOk X.prog X.w H1 s1.heap d (.frz o (.dK kvs)) from I1.hok d _ hd)
 obtain ⟨ep,hat0⟩:=dd.dictAt
 obtain ⟨o2,es,ho2,r1,r2,r3⟩:=id hat0
 rw [ho] at ho2
 cases ho2
 obtain ⟨vs,rel,hat⟩:=zpm I1 hd r2
 have hlen:=rel.length
 refine wpAny_pyIter_values hv hat ?_
 refine ⟨s1.heap.objs.size,[s1.heap.objs.size],_,_,H1,rfl,I1.kept (t':=s1.toks) fun b o e=>Heap.get?_push_of_some _ e,turn_vals d _ o kvs ep es r2,⟨_,Heap.get?_push_size _ rfl,rfl,by rw [hlen];rfl⟩,fun b hb=>?_,q⟩
 have e:b=s1.heap.objs.size:=by simpa using hb
 subst e
 exact I1.fpOk (Nat.le_refl _) (I1.hok.fresh (Nat.le_refl _))
end
end L2
namespace FL
open PySem L2
def EvR (t:TE)(G:Hp)(σ:St)(a:Addr):Prop:=∀M H,Same G (but H M)->Live M H->∀Q:VK,(∀H',Same H H'->Q (.ref a) H')->t σ H Q
theorem er_var {G:Hp}{σ:St}{i:Nat}{a:Addr}(e:σ[i]?=some (some (.ref a))):EvR (zdk i) G σ a:=fun M H s l Q k=>⟨.ref a,e,k H (Same.refl _)⟩
theorem walk_vals {G:Hp}{σ:St}{to:TE}{d:Addr}{o:Obj}{kvs:List (Key×V)}{is:List Int}(ht:EvR to G σ d)(hG:G d=some (.frz o (.dK kvs)))(hv:kvs.map (·.2)=is.map V.int):zte (iVals (tVals to)) G σ (is.map D.int):=fun M H s l R k=>ht M H s l _ fun H1 s1=>by
 have h1:=(zac ((s.trans (s1.but M)) _ _ hG)).2
 refine ⟨⟨d,rfl,.inl ⟨kvs,.inr ⟨o,h1⟩⟩⟩,d,kvs,rfl,rfl,.inr ⟨o,h1⟩,fun p hp=>?_⟩
 have s2:Same H1 (upd H1 p (vwO p d)):=zbm hp _
 have hlen:kvs.length=is.length:=by have:=congrArg List.length hv;simpa using this
 refine ⟨p,d,o,kvs,rfl,zae,s2 _ _ h1,k _ _ (s1.trans s2) (fun j x M' H' hj hs hlv=>?_) (fun M' H' hs=>?_)⟩
 ·have hd':=(zac (hs _ _ ((s.trans ((s1.trans s2).but M)) _ _ hG))).2
  have hjl:j<is.length:=by have:=(List.getElem?_eq_some_iff.mp hj).1;simpa using this
  refine ⟨⟨by omega,hd'⟩,fun v H'' ⟨eH,hy⟩=>?_⟩
  subst eH
  refine ⟨Same.refl _,?_⟩
  have h3:(kvs.map (·.2))[j]?=some v:=by rw [getElem?_map];exact hy
  rw [hv,getElem?_map] at h3
  rw [getElem?_map] at hj
  cases e:is[j]? with
  |none=>rw [e] at hj;cases hj
  |some n=>
   rw [e] at h3 hj
   cases h3
   cases hj
   exact .int n
 ·have hd':=(zac (hs _ _ ((s.trans ((s1.trans s2).but M)) _ _ hG))).2
  exact ⟨by simp;omega,hd'⟩
end FL
namespace FL
open PySem PySem.Spec PyProof.Rows L2
section
variable {X:Cx}{C:Addr}
theorem pe_mown0 {pl:Sem Bool}{n:Nat}{m:Str}{ps:List Str}{sp:Sp}{o:Expr}{ta:TE}{apos pos:Pos}{k:Nat}(he:PE X o ta)(c:Cls X.K C)(h:HasM X.prog X.w X.K X.mg X.base n C m ps sp)(hr:Room k X.A)(hle:n<=k:=by decide)
  (ht:eval (.Call (.Attribute o m apos) [] [] pos) X.env=(do
   let ov<-eval o X.env
   standAt apos.atName
   let (f,first)<-holding [ov] (getMethod ov m pl)
   callWith pos f first (backTo pos (starEach [] X.env)) (backToKw pos (keywordEach [] X.env))):=by rfl):
  PE X (.Call (.Attribute o m apos) [] [] pos) (zqo C m sp [] E0 ta zev):=by
 obtain ⟨f,fd,F,b,M⟩:=h.ex
 exact pe_meth0 (pl:=pl) he c M (F.mono hle) hr b .nil pass0 ht
end
end FL
namespace FL
open PySem L2
def zyl (wi:TI)(G:Hp)(σ:St)(n:Nat)(R:Nat->Hp->V->Prop):Prop:=∀M H,Same G (but H M)->Live M H->∀S:It->Hp->Prop,
 (∀J H1,Same H H1->(∀(j:Nat) M' H',j<n->Same (but H1 M) (but H' M')->Live M' H'->J.go j H'/\∀x H'',J.yld j H' x H''->Same H' H''/\R j (but H'' M') x)->(∀M' H',Same (but H1 M) (but H' M')->J.stop n H')->S J H1)->wi σ H S
def RDat (ds:List D):Nat->Hp->V->Prop:=fun j G x=>∃d,ds[j]?=some d/\Rep G x d
def RRaw (us:List V):Nat->Hp->V->Prop:=fun j _ x=>us[j]?=some x
def REnum (us:List V):Nat->Hp->V->Prop:=fun j G x=>∃T v,x=.ref T/\G T=some (.tup [.int (j:Nat),v])/\us[j]?=some v
section
variable {G:Hp}{σ:St}{wi:TI}{te:TE}{K:PySem.W.Frag}{a:Addr}{us:List V}
theorem walkR_of {ds:List D}(h:zte wi G σ ds):zyl wi G σ ds.length (RDat ds):=fun M H s l S k=>h M H s l S fun J H1 s1 hgo hstop=>k J H1 s1 (fun j M' H' hj hs hl=>by
 obtain ⟨go,gy⟩:=hgo j _ M' H' (getElem?_eq_getElem hj) hs hl
 exact ⟨go,fun x H'' hy=>let ⟨p,q⟩:=gy x H'' hy;⟨p,_,getElem?_eq_getElem hj,q⟩⟩) hstop
theorem zkb (h:EvR te G σ a)(hG:G a=some (.lst us)):zyl (fun σ H R=>zum K te σ H R\/iTup K te σ H R) G σ us.length (RRaw us):=fun M H s l S k=>.inl (h M H s l _ fun H1 s1=>by
 have h1:=(s.trans (s1.but M)) _ _ hG
 refine ⟨a,rfl,⟨us,SqL.of (zac h1).2⟩,k _ H1 s1 (fun j M' H' hj hs hl=>?_) (fun M' H' hs=>?_)⟩
 ·have ha:=(zac (hs _ _ h1)).2
  refine ⟨⟨us,us[j],SqL.of ha,getElem?_eq_getElem hj⟩,fun x H'' ⟨e,hy⟩=>?_⟩
  subst e
  exact ⟨Same.refl _,hy us (SqL.of ha)⟩
 ·exact ⟨us,SqL.of (zac (hs _ _ h1)).2,Nat.le_refl _⟩)
theorem zwr (h:EvR te G σ a)(hG:G a=some (.lst us)):zyl (iEnum K (zbp te zev)) G σ us.length (REnum us):=fun M H s l S k=>h M H s l _ fun H1 s1=>by
 have h1:=(s.trans (s1.but M)) _ _ hG
 refine ⟨a,rfl,⟨us,SqL.of (zac h1).2⟩,k _ H1 s1 (fun j M' H' hj hs hl=>?_) (fun M' H' hs=>?_)⟩
 ·have ha:=(zac (hs _ _ h1)).2
  refine ⟨⟨us,us[j],SqL.of ha,getElem?_eq_getElem hj⟩,fun v H'' ⟨T,x',hT,e,eH,hy⟩=>?_⟩
  subst e eH
  refine ⟨zbm hT _,T,x',rfl,?_,hy us (SqL.of ha)⟩
  rw [zat (hl.fresh hT),zae]
 ·exact ⟨us,SqL.of (zac (hs _ _ h1)).2,Nat.le_refl _⟩
theorem zti {g:TG}{tb:TS}{E:zka}{H:Hp}{M:List Addr}{n:Nat}{R:Nat->Hp->V->Prop}(hw:zyl wi (but H M) σ n R)(l:Live M H)
  (k:∀H1,Same H H1->∃Pv:Nat->List Addr->St->Hp->Prop,Pv 0 M σ H1/\(∀j M' σ' H',Pv j M' σ' H'->Same (but H1 M) (but H' M')/\Live M' H')/\
   (∀(j:Nat) M' x σ' H' H'',j<n->Pv j M' σ' H'->Same H' H''->R j (but H'' M') x->g x σ' H'' fun σ2 H2=>tb {E with nx:=fun σ H=>∃M,Pv (j+1) M σ H,ct:=fun σ H=>∃M,Pv (j+1) M σ H,bk:=E.nx} σ2 H2)/\∀M' σ' H',Pv n M' σ' H'->E.nx σ' H'):
  tFor wi g tb E σ H:=hw M H (Same.refl _) l _ fun J H1 s1 hgo hstop=>by
 obtain ⟨Pv,p0,hV,hstep,hend⟩:=k H1 s1
 refine ⟨fun j m σ' H'=>m=n-j/\j<=n/\∃M',Pv j M' σ' H',⟨n,by simp,Nat.zero_le _,M,p0⟩,?_⟩
 rintro j m σ' H' ⟨rfl,hj,M',p⟩
 obtain ⟨hs,hl⟩:=hV j M' σ' H' p
 by_cases hlt:j<n
 ·obtain ⟨go,gy⟩:=hgo j M' H' hlt hs hl
  refine .inr ⟨go,fun σ H=>∃M,Pv (j+1) M σ H,fun σ2 H2 p2=>⟨n-(j+1),by omega,rfl,hlt,p2⟩,fun x H'' hy=>?_⟩
  obtain ⟨s3,rx⟩:=gy x H'' hy
  exact hstep j M' x σ' H' H'' hlt p s3 rx
 ·have e:j=n:=by omega
  subst e
  exact .inl ⟨hstop M' H' hs,hend M' σ' H' p⟩
theorem zlj {p:Nat->Bool}(m:Nat):(List.range (m+1)).filter p=(List.range m).filter p++(if p m=true then [m] else []):=by
 rw [List.range_succ,filter_append]
 congr 1
 by_cases hp:p m=true
 ·simp [hp]
 ·simp [hp]
theorem ev_compW {caps:St->St}{i n:Nat}{tt:TT}{R:Nat->Hp->V->Prop}{p:Nat->Bool}{f:Nat->D}(hw:zyl wi G σ n R)(hR:∀j G G' v,Same G G'->R j G v->R j G' v)
  (ht:∀G' v j,Same G G'->j<n->R j G' v->EvT tt G' ((caps σ).set i (some v)) (p j))
  (he:∀G' v j,Same G G'->j<n->p j=true->R j G' v->EvM te G' ((caps σ).set i (some v)) (f j)) (hz:n<sizeLine):
  EvM (zna wi caps (zdz i) tt te) G σ (.lst (((List.range n).filter p).map f)):=fun M H s l Q k=>hw M H s l _ fun J H1 s1 hgo hstop D hD=>by
 have lf:D∉M:=(l.same s1).fresh hD
 have sG1:Same G (but H1 M):=s.trans (s1.but M)
 refine ⟨fun j m τ H'=>m=n-j/\j<=n/\(∀v,τ.set i (some v)=(caps σ).set i (some v))/\Same H1 H'/\∃ys,H' D=some (.lst ys)/\Reps (but H' (D::M)) ys (((List.range j).filter p).map f),
  ⟨n,by simp,Nat.zero_le _,fun _=>rfl,zbm hD _,[],zae,by simpa using Reps.nil⟩,?_⟩
 rintro j m τ H' ⟨rfl,hj,hτ,s2,ys,hD',ry⟩
 have hs:Same (but H1 M) (but H' (D::M)):=zfu hD s2
 have hl:Live (D::M) H':=((l.same s1).same s2).cons hD'
 by_cases hlt:j<n
 ·obtain ⟨go,gy⟩:=hgo j (D::M) H' hlt hs hl
  refine .inr ⟨go,fun τ' H''=>(∀v,τ'.set i (some v)=(caps σ).set i (some v))/\Same H1 H''/\∃ys,H'' D=some (.lst ys)/\Reps (but H'' (D::M)) ys (((List.range (j+1)).filter p).map f),
   fun τ' H'' ⟨a,b,c⟩=>⟨n-(j+1),by omega,rfl,hlt,a,b,c⟩,fun x H'' hy=>?_⟩
  obtain ⟨s3,rx⟩:=gy x H'' hy
  have sG:Same G (but H'' (D::M)):=sG1.trans (hs.trans (s3.but _))
  have hl3:=hl.same s3
  show tt (τ.set i (some x)) H'' _
  rw [hτ x]
  refine ht _ x _ sG hlt rx (D::M) H'' (Same.refl _) hl3 _ fun H4 s4=>?_
  have setset:∀v,((caps σ).set i (some x)).set i (some v)=(caps σ).set i (some v):=fun v=>by rw [set_set]
  by_cases hp:p j=true
  ·rw [if_pos hp]
   refine he _ x _ (sG.trans (s4.but _)) hlt hp (hR _ _ _ _ (s4.but _) rx) (D::M) H4 (Same.refl _) (hl3.same s4) _ fun v H5 s5 r5=>?_
   have hD5:H5 D=some (.lst ys):=s5 _ _ (s4 _ _ (s3 _ _ hD'))
   have hlen:=ry.length
   have hle:(((List.range j).filter p).map f).length<=j:=by
    rw [length_map]
    have:=length_filter_le p (List.range j)
    rw [length_range] at this
    omega
   refine ⟨ys,hD5,by omega,setset,?_,ys++[v],zae,?_⟩
   ·intro b o e
    rw [zal (zax e hD)]
    exact s5 _ _ (s4 _ _ (s3 _ _ (s2 _ _ e)))
   ·rw [zcy mem_cons_self,zlj,if_pos hp,map_append]
    exact (ry.mono (((s3.trans s4).trans s5).but _)).snoc r5
  ·rw [if_neg hp]
   refine ⟨setset,s2.trans (s3.trans s4),ys,s4 _ _ (s3 _ _ hD'),?_⟩
   rw [zlj,if_neg hp,append_nil]
   exact ry.mono ((s3.trans s4).but _)
 ·have e:j=n:=by omega
  subst e
  exact .inl ⟨hstop (D::M) H' hs,k _ H' (s1.trans s2) (zep lf hD' ry)⟩
theorem ev_compE {caps:St->St}{i j n:Nat}(hij:i≠j){tt:TT}{p:Nat->Bool}{f:Nat->D}(hw:zyl wi G σ n (REnum us))
  (ht:∀G' v m,Same G G'->us[m]?=some v->EvT tt G' (((caps σ).set i (some (.int (m:Nat)))).set j (some v)) (p m))
  (he:∀G' v m,Same G G'->us[m]?=some v->p m=true->EvM te G' (((caps σ).set i (some (.int (m:Nat)))).set j (some v)) (f m)) (hz:n<sizeLine):
  EvM (zna wi caps (gTup K 2 (zpq (zdz i) (zpq (zdz j) gNil))) tt te) G σ (.lst (((List.range n).filter p).map f)):=fun M H s l Q k=>hw M H s l _ fun J H1 s1 hgo hstop D hD=>by
 have lf:D∉M:=(l.same s1).fresh hD
 have sG1:Same G (but H1 M):=s.trans (s1.but M)
 refine ⟨fun m q τ H'=>q=n-m/\m<=n/\(∀v w,(τ.set i (some v)).set j (some w)=((caps σ).set i (some v)).set j (some w))/\Same H1 H'/\∃ys,H' D=some (.lst ys)/\Reps (but H' (D::M)) ys (((List.range m).filter p).map f),
  ⟨n,by simp,Nat.zero_le _,fun _ _=>rfl,zbm hD _,[],zae,by simpa using Reps.nil⟩,?_⟩
 rintro m q τ H' ⟨rfl,hj,hτ,s2,ys,hD',ry⟩
 have hs:Same (but H1 M) (but H' (D::M)):=zfu hD s2
 have hl:Live (D::M) H':=((l.same s1).same s2).cons hD'
 by_cases hlt:m<n
 ·obtain ⟨go,gy⟩:=hgo m (D::M) H' hlt hs hl
  refine .inr ⟨go,fun τ' H''=>(∀v w,(τ'.set i (some v)).set j (some w)=((caps σ).set i (some v)).set j (some w))/\Same H1 H''/\∃ys,H'' D=some (.lst ys)/\Reps (but H'' (D::M)) ys (((List.range (m+1)).filter p).map f),
   fun τ' H'' ⟨a,b,c⟩=>⟨n-(m+1),by omega,rfl,hlt,a,b,c⟩,fun x H'' hy=>?_⟩
  obtain ⟨s3,T,v2,rfl,hT,hv⟩:=gy x H'' hy
  have sG:Same G (but H'' (D::M)):=sG1.trans (hs.trans (s3.but _))
  have hl3:=hl.same s3
  refine ⟨T,_,rfl,SqT.of (zac hT).2,rfl,.int (m:Nat),[v2],rfl,v2,[],rfl,rfl,?_⟩
  show tt ((τ.set i (some (.int (m:Nat)))).set j (some v2)) H'' _
  rw [hτ (.int (m:Nat)) v2]
  refine ht _ v2 _ sG hv (D::M) H'' (Same.refl _) hl3 _ fun H4 s4=>?_
  have setset:∀v w,((((caps σ).set i (some (.int (m:Nat)))).set j (some v2)).set i (some v)).set j (some w)=((caps σ).set i (some v)).set j (some w):=fun v w=>by
   rw [List.set_comm (some v2) (some v) (Ne.symm hij),set_set,set_set]
  by_cases hp:p m=true
  ·rw [if_pos hp]
   refine he _ v2 _ (sG.trans (s4.but _)) hv hp (D::M) H4 (Same.refl _) (hl3.same s4) _ fun v H5 s5 r5=>?_
   have hD5:H5 D=some (.lst ys):=s5 _ _ (s4 _ _ (s3 _ _ hD'))
   have hlen:=ry.length
   have hle:(((List.range m).filter p).map f).length<=m:=by
    rw [length_map]
    have:=length_filter_le p (List.range m)
    rw [length_range] at this
    omega
   refine ⟨ys,hD5,by omega,setset,?_,ys++[v],zae,?_⟩
   ·intro b o e
    rw [zal (zax e hD)]
    exact s5 _ _ (s4 _ _ (s3 _ _ (s2 _ _ e)))
   ·rw [zcy mem_cons_self,zlj,if_pos hp,map_append]
    exact (ry.mono (((s3.trans s4).trans s5).but _)).snoc r5
  ·rw [if_neg hp]
   refine ⟨setset,s2.trans (s3.trans s4),ys,s4 _ _ (s3 _ _ hD'),?_⟩
   rw [zlj,if_neg hp,append_nil]
   exact ry.mono ((s3.trans s4).but _)
 ·have e:m=n:=by omega
  subst e
  exact .inl ⟨hstop (D::M) H' hs,k _ H' (s1.trans s2) (zep lf hD' ry)⟩
end
end FL
namespace FL
open PySem L2
theorem seqE {t u:TS}{D:zka}{σ:St}{H:Hp}(h:t {D with nx:=u D} σ H):tSeq t u D σ H:=h
theorem fldE {K:PySem.W.Frag}{ta tv:TE}{f:Str}{D:zka}{σ:St}{H:Hp}{M:List Addr}{d:FL.D}(h:EvM tv (but H M) σ d)(l:Live M H)(k:∀v H',Same H H'->Rep (but H' M) v d->ta σ H' fun x H2=>∃a C dx fs,x=.ref a/\H2 a=some (.ins C dx fs)/\Cls K C/\NoAttr K C f/\fs.length<1000/\D.nx σ (upd H2 a (.ins C dx (zqj f v fs)))):sFld K ta tv f D σ H:=h M H (Same.refl _) l _ k
def OkF (f:List D):Prop:=f≠[]/\zir f
structure zbu where
 asker:List D
 shared:List (Str×Nat)
 gs:List (List D×List Nat)
 of:List zfq
 newest:Int
def zkn (g:List D×List Nat):D:=.tup [.tup g.1,.lst (g.2.map fun n=>D.int (n:Nat))]
def shK (sh:List (Str×Nat)):List (Key×V):=sh.map fun p=>(Sum.inr p.1,V.int (p.2:Nat))
abbrev stFs (v0:V)(sa:Addr)(v2:V)(ao:Addr)(n:Int):List (Str×V):=[("asker",v0),("shared",.ref sa),("guards",v2),("offers",.ref ao),("newest",.int n)]
def StepRep (C:Addr)(G:Hp)(v:V)(s:zbu):Prop:=∃a dx v0 sa v2 ao oS,v=.ref a/\G a=some (.ins C dx (stFs v0 sa v2 ao s.newest))/\Rep G v0 (.tup s.asker)/\G sa=some (.frz oS (.dK (shK s.shared)))/\Rep G v2 (.lst (s.gs.map zkn))/\OffRep G ao s.of
theorem StepRep.mono {C:Addr}{G G':Hp}{v:V}{s:zbu}(e:Same G G')(h:StepRep C G v s):StepRep C G' v s:=by
 obtain ⟨a,dx,v0,sa,v2,ao,oS,h1,h2,h3,h4,h5,h6⟩:=h
 exact ⟨a,dx,v0,sa,v2,ao,oS,h1,e _ _ h2,h3.mono e,e _ _ h4,h5.mono e,h6.mono e⟩
structure ztb (K:PySem.W.Frag)(C:Addr):Prop where
 cl:Cls K C
 nA:NoAttr K C "asker"
 nS:NoAttr K C "shared"
 nG:NoAttr K C "guards"
 nO:NoAttr K C "offers"
 nN:NoAttr K C "newest"
structure StepAt (C:Addr)(H:Hp)(Z:List Addr)(a:Addr)(os:List Addr)(s:zbu):Prop where
 at_:∃dx v0 sa v2 ao ls oS,os=a::ao::ls/\H a=some (.ins C dx (stFs v0 sa v2 ao s.newest))/\Rep (but H Z) v0 (.tup s.asker)/\but H Z sa=some (.frz oS (.dK (shK s.shared)))/\Rep (but H Z) v2 (.lst (s.gs.map zkn))/\OffB H Z ao ls s.of
theorem OffB.weak {H:Hp}{Z M:List Addr}{p:Addr}{ls:List Addr}{of:List zfq}(h:OffB H Z p ls of)(hm:∀x∈M,x∈Z):OffB H M p ls of:=by
 obtain ⟨kvs,h1,hn,h2,h3,h4⟩:=h.kvs
 refine ⟨⟨kvs,h1,hn,h2,fun key hk=>⟨(h3 key hk).1,fun v hv=>?_⟩,h4⟩,h.lists,h.apart⟩
 obtain ⟨l,vs,q1,q2,q3,q4⟩:=(h3 key hk).2 v hv
 refine ⟨l,vs,q1,q2,q3,q4.mono (zcj fun x hx=>?_)⟩
 rcases mem_append.mp hx with z|z
 ·exact mem_append_left _ z
 ·rcases mem_cons.mp z with z|z
  ·rw [z];exact mem_append_right _ mem_cons_self
  ·exact mem_append_right _ (mem_cons_of_mem _ (hm x z))
theorem zpd {Z ls:List Addr}{p:Addr}(hp:p∈Z)(hl:∀x∈ls,x∈Z):∀a,a∈ls++p::Z↔a∈Z:=fun a=>by
 constructor
 ·intro h
  rcases mem_append.mp h with z|z
  ·exact hl a z
  ·rcases mem_cons.mp z with z|z
   ·rw [z];exact hp
   ·exact z
 ·intro h
  exact mem_append_right _ (mem_cons_of_mem _ h)
theorem OffB.frame {H H':Hp}{Z Z':List Addr}{p:Addr}{ls:List Addr}{of:List zfq}(h:OffB H Z p ls of)(hp:p∈Z)(hl:∀x∈ls,x∈Z)(hp':p∈Z')(hl':∀x∈ls,x∈Z')(k:∀b u,b∈p::ls->H b=some u->H' b=some u)(S:Same (but H Z) (but H' Z')):OffB H' Z' p ls of:=by
 obtain ⟨kvs,h1,hn,h2,h3,h4⟩:=h.kvs
 refine ⟨⟨kvs,k _ _ mem_cons_self h1,hn,h2,fun key hk=>⟨(h3 key hk).1,fun v hv=>?_⟩,h4⟩,fun l hl=>?_,h.apart⟩
 ·obtain ⟨l,vs,q1,q2,q3,q4⟩:=(h3 key hk).2 v hv
  refine ⟨l,vs,q1,q2,k _ _ (mem_cons_of_mem _ q2) q3,?_⟩
  rw [zge (zpd hp hl)] at q4
  rw [zge (zpd hp' hl')]
  exact q4.mono S
 ·obtain ⟨vs,z⟩:=h.lists l hl
  exact ⟨vs,k _ _ (mem_cons_of_mem _ hl) z⟩
theorem StepAt.rep {C:Addr}{H:Hp}{Z M:List Addr}{a:Addr}{os:List Addr}{s:zbu}(h:StepAt C H Z a os s)(hm:∀x∈M,x∈Z)(ho:∀x∈os,x∉M):StepRep C (but H M) (.ref a) s:=by
 obtain ⟨dx,v0,sa,v2,ao,ls,oS,rfl,h1,h2,h3,h4,h5⟩:=h.at_
 have S:Same (but H Z) (but H M):=zcj hm
 refine ⟨a,dx,v0,sa,v2,ao,oS,rfl,?_,h2.mono S,S _ _ h3,h4.mono S,(h5.weak hm).rep (ho ao (by simp)) fun l hl=>ho l (by simp [hl])⟩
 rw [zat (ho a (by simp))];exact h1
theorem StepAt.frame {C:Addr}{H H':Hp}{Z Z':List Addr}{a:Addr}{os:List Addr}{s:zbu}(h:StepAt C H Z a os s)(hz:∀x∈os,x∈Z)(hz':∀x∈os,x∈Z')(k:∀b u,b∈os->H b=some u->H' b=some u)(S:Same (but H Z) (but H' Z')):StepAt C H' Z' a os s:=by
 obtain ⟨dx,v0,sa,v2,ao,ls,oS,rfl,h1,h2,h3,h4,h5⟩:=h.at_
 exact ⟨⟨dx,v0,sa,v2,ao,ls,oS,rfl,k _ _ (by simp) h1,h2.mono S,S _ _ h3,h4.mono S,h5.frame (hz _ (by simp)) (fun x hx=>hz _ (by simp [hx])) (hz' _ (by simp)) (fun x hx=>hz' _ (by simp [hx])) (fun b u hb q=>k b u (mem_cons_of_mem _ hb) q) S⟩⟩
theorem StepAt.mono {C:Addr}{H H':Hp}{Z:List Addr}{a:Addr}{os:List Addr}{s:zbu}(h:StepAt C H Z a os s)(e:Same H H'):StepAt C H' Z a os s:=by
 obtain ⟨dx,v0,sa,v2,ao,ls,oS,rfl,h1,h2,h3,h4,h5⟩:=h.at_
 exact ⟨⟨dx,v0,sa,v2,ao,ls,oS,rfl,e _ _ h1,h2.mono (e.but Z),(e.but Z) _ _ h3,h4.mono (e.but Z),h5.same e⟩⟩
theorem zpe {H H':Hp}{Z os os':List Addr}(h1:∀x∈os',x∈os\/H x=none)(hz:∀x∈os,x∈Z)(k:∀b u,b∉os->H b=some u->H' b=some u):Same (but H Z) (but H' (os'++Z)):=fun b u e=>by
 obtain ⟨q1,q2⟩:=zac e
 have nb:b∉os:=fun z=>q1 (hz b z)
 rw [zat]
 ·exact k b u nb q2
 ·intro z
  rcases mem_append.mp z with z|z
  ·rcases h1 b z with w|w
   ·exact nb w
   ·rw [w] at q2;cases q2
  ·exact q1 z
def zew (s:zbu):List Str:=s.shared.map (·.1)
def zdc (s:zbu)(n:Nat)(g:List D):zbu:=match zb9 s.asker g [] with
 |some st=>{s with of:=s.of++[(zeu (zew s) st,(n,zck (zew s) st))],newest:=n}
 |none=>s
theorem zfd {H:Hp}{x:Addr}{o o':HO}:upd (upd H x o) x o'=upd H x o':=by
 funext b
 by_cases e:b=x
 ·subst e;rw [zae,zae]
 ·rw [zal e,zal e,zal e]
theorem upd_over {H:Hp}{x p:Addr}{o o' o2:HO}(h:p≠x):upd (upd (upd H x o) p o2) x o'=upd (upd H p o2) x o':=by
 funext b
 by_cases e:b=x
 ·subst e;rw [zae,zae]
 ·rw [zal e,zal e]
  by_cases e2:b=p
  ·subst e2;rw [zae,zae]
  ·rw [zal e2,zal e2,zal e]
def spInit (C:Addr):Sp:=fun vs H Q _=>∃x dx v1 v2 v3,vs=[.ref x,v1,v2,v3]/\H x=some (.ins C dx [])/\
 ∀p,H p=none->p≠x->Q .non (upd (upd H p (.dT [])) x (.ins C dx [("asker",v1),("shared",v2),("guards",v3),("offers",.ref p),("newest",.int (-1))]))
def spOffer (C:Addr):Sp:=fun vs H Q _=>∃Z os s a n g v2,vs=[.ref a,.int ((n:Nat):Int),v2]/\Live Z H/\StepAt C H Z a os s/\(∀x∈os,x∈Z)/\Rep (but H Z) v2 (.tup g)/\OkA s.asker/\OkF g/\s.of.length<1000/\
 ∀os' H',(∀x∈os',x∈os\/H x=none)->(∀x∈os,x∈os')->(∀b u,b∉os->H b=some u->H' b=some u)->Live (os'++Z) H'->StepAt C H' (os'++Z) a os' (zdc s n g)->Q .non H'
section
variable {K:PySem.W.Frag}{G:Hp}{σ:St}{ty:TE}{i:Nat}{a C dx sa:Addr}{fs:List (Str×V)}{oS:Obj}{sh:List (Str×Nat)}{n:Str}
theorem zhp {v:V}{x:Str}{d:D}(T:Cls K C)(n:NoAttr K C x)(e:σ[i]?=some (some (.ref a)))(hG:G a=some (.ins C dx fs))(hl:fs.lookup x=some v)(r:Rep G v d):EvM (tFld K (zdk i) x) G σ d:=
 fun M H s l Q k=>⟨.ref a,e,a,C,dx,fs,v,rfl,(zac (s _ _ hG)).2,T,n,hl,k v H (Same.refl _) (r.mono s)⟩
theorem zml {b:Addr}{x:Str}(T:Cls K C)(n:NoAttr K C x)(e:σ[i]?=some (some (.ref a)))(hG:G a=some (.ins C dx fs))(hl:fs.lookup x=some (.ref b)):EvR (tFld K (zdk i) x) G σ b:=
 fun M H s l Q k=>⟨.ref a,e,a,C,dx,fs,.ref b,rfl,(zac (s _ _ hG)).2,T,n,hl,k H (Same.refl _)⟩
theorem sh_val:∀(sh:List (Str×Nat)) (n:Str),(zeo (shK sh) (Sum.inr n)).isSome=decide (n∈sh.map (·.1))
 |[],n=>rfl
 |p::r,n=>by
  show (zeo ((Sum.inr p.1,V.int (p.2:Nat))::shK r) (Sum.inr n)).isSome=_
  by_cases e:p.1=n
  ·subst e
   rw [zdx rfl]
   simp
  ·have e':¬(Sum.inr p.1:Key)=Sum.inr n:=fun z=>e (Sum.inr.inj z)
   have e2:¬n=p.1:=fun z=>e z.symm
   rw [zdy (by exact e'),sh_val r n]
   simp [e2]
theorem evt_inF (T:Cls K C)(nA:NoAttr K C "shared")(e:σ[i]?=some (some (.ref a)))(hG:G a=some (.ins C dx fs))(hl:fs.lookup ("shared":Str)=some (.ref sa))(hs:G sa=some (.frz oS (.dK (shK sh))))(h:EvM ty G σ (.str n)):EvT (tB (tDIn ty (tFld K (zdk i) "shared"))) G σ (decide (n∈sh.map (·.1))):=fun M H s l Q k=>h M H s l _ fun v H1 s1 rv=>by
 have ha:=s1 _ _ (zac (s _ _ hG)).2
 have hs1:=s1 _ _ (zac (s _ _ hs)).2
 refine ⟨.ref a,e,a,C,dx,fs,.ref sa,rfl,ha,T,nA,hl,sa,zeo (shK sh) (Sum.inr n),rfl,.inl ⟨shK sh,Sum.inr n,.inr ⟨oS,hs1⟩,(zfs (d:=.str n) rfl rv).2,rfl⟩,_,rfl,?_⟩
 rw [sh_val]
 exact k H1 s1
theorem zxw (T:Cls K C)(nA:NoAttr K C "shared")(e:σ[i]?=some (some (.ref a)))(hG:G a=some (.ins C dx fs))(hl:fs.lookup ("shared":Str)=some (.ref sa))(hs:G sa=some (.frz oS (.dK (shK sh))))(h:EvM ty G σ (.str n)):EvT (tB (ztg ty (tFld K (zdk i) "shared"))) G σ (!decide (n∈sh.map (·.1))):=fun M H s l Q k=>h M H s l _ fun v H1 s1 rv=>by
 have ha:=s1 _ _ (zac (s _ _ hG)).2
 have hs1:=s1 _ _ (zac (s _ _ hs)).2
 refine ⟨.ref a,e,a,C,dx,fs,.ref sa,rfl,ha,T,nA,hl,sa,zeo (shK sh) (Sum.inr n),rfl,.inl ⟨shK sh,Sum.inr n,.inr ⟨oS,hs1⟩,(zfs (d:=.str n) rfl rv).2,rfl⟩,_,rfl,?_⟩
 rw [sh_val]
 exact k H1 s1
end
theorem zug:∀(L:List (D×D)) (F G:zan),ztd F L=some G->(∀t∈F,t.2.sc=true)->(∀p∈L,p.2.sc=true)->∀t∈G,t.2.sc=true
 |[],F,G,h,hF,_=>by
  have:F=G:=Option.some.inj h
  rw [<-this];exact hF
 |p::r,F,G,h,hF,hL=>by
  have h:(zin F p.1 p.2).bind (fun F'=>ztd F' r)=some G:=h
  unfold zin at h
  have hr:∀q∈r,q.2.sc=true:=fun q hq=>hL q (mem_cons_of_mem _ hq)
  by_cases e:(zaq p.1&& !zpp F p.1)=true
  ·rw [if_pos e] at h
   exact zug r _ G h (ztm hF (hL p mem_cons_self)) hr
  ·rw [if_neg e] at h
   by_cases e2:zdh F p.1=p.2
   ·rw [if_pos e2] at h
    exact zug r F G h hF hr
   ·rw [if_neg e2] at h;cases h
theorem zvw {A g:List D}{S st:zan}(h:zb9 A g S=some st)(hS:∀t∈S,t.2.sc=true)(hg:zir g):∀t∈st,t.2.sc=true:=by
 unfold zb9 at h
 by_cases z:A.headD .non=g.headD .non/\A.length=g.length
 ·rw [if_pos z] at h
  exact zug _ S st h hS fun p hp=>hg _ (List.of_mem_zip hp).2
 ·rw [if_neg z] at h;cases h
theorem zsb {A g:List D}{st:zan}(h:zb9 A g []=some st):st.length<=A.length:=by
 obtain ⟨U,_,rfl,_⟩:=zed (V:=fun _=>.non) (B:=[]) zcu h
 unfold zao
 rw [length_map]
 have:=zd9 A []
 rw [length_nil] at this
 omega
def prs (st:zan):List (D×D):=st.map fun q=>(.str q.1,q.2)
theorem zre (st:zan):(prs st).map (fun q=>D.tup [q.1,q.2])=zbj st:=by
 unfold prs zbj
 rw [map_map]
 rfl
theorem prs_key (st:zan)(Bs:List Str):((prs st).filter fun q=>decide (q.1.name∈Bs)).map (fun q=>q.2)=zeu Bs st:=by
 unfold prs zeu
 rw [List.filter_map,map_map]
 rfl
theorem prs_rest (st:zan)(Bs:List Str):((prs st).filter fun q=> !decide (q.1.name∈Bs)).map (fun q=>D.tup [q.1,q.2])=zbj (zck Bs st):=by
 unfold prs zck zbj
 rw [List.filter_map,map_map]
 rfl
theorem key_sc {st:zan}(h:∀t∈st,t.2.sc=true)(Bs:List Str):zir (zeu Bs st):=fun x hx=>by
 unfold zeu at hx
 obtain ⟨t,ht,rfl⟩:=mem_map.mp hx
 exact h t (mem_filter.mp ht).1
end FL
namespace FL
open PySem L2
def pairT (p:Str×D):D:=.tup [.str p.1,p.2]
def zmz (S:zan)(is:List Nat):zan:=is.map fun i=>S.getD i (("":Str),.non)
def zgq (S:zan)(gs:List (List D×List Nat)):Bool:=gs.all fun g=>holdsA (g.1.map (zdh (zmz S g.2)))
def OkG (n:Nat)(g:List D×List Nat):Prop:=(∃r a b,g.1=[.str r,a,b]/\a.sc=true/\b.sc=true/\zaq (.str r)=false)/\(∀i∈g.2,i<n)/\g.2.length<=100
def zor (C:Addr):Sp:=fun vs H Q _=>∃M st S v0 v1,vs=[v0,v1]/\Live M H/\StepRep C (but H M) v0 st/\Rep (but H M) v1 (.lst (zbj S))/\(∀p∈S,p.2.sc=true/\zaq (.str p.1)=true)/\(∀g∈st.gs,OkG S.length g)/\∀H',Same H H'->Q (.bl (zgq S st.gs)) H'
theorem pick_sc {S:zan}{is:List Nat}(h:∀p∈S,p.2.sc=true/\zaq (.str p.1)=true)(hi:∀i∈is,i<S.length):∀p∈zmz S is,p.2.sc=true/\zaq (.str p.1)=true:=fun p hp=>by
 obtain ⟨i,hm,rfl⟩:=mem_map.mp hp
 have:=hi i hm
 rw [List.getD,getElem?_eq_getElem this]
 exact h _ (getElem_mem this)
def zfk (w:Way):D:=.tup [.lst (zbj w.1),.tup (w.2.map fun n=>D.int (n:Nat))]
def zlb (S:zan)(is:List Nat):List D:=(zmz S is).map (·.2)
def OkP (ps:zan):Prop:=∀p∈ps,p.2.sc=true/\zaq (.str p.1)=true
def zhu (st:zbu):List Nat:=st.shared.map (·.2)
structure OkSt (n:Nat)(st:zbu):Prop where
 sh:∀i∈zhu st,i<n
 shl:st.shared.length<=100
 of:∀o∈st.of,OkP o.2.2/\o.2.2.length<=100/\∀g∈st.gs,OkG (n+o.2.2.length) g
 ofl:st.of.length<=900
abbrev onW (w:Way)(o:zfq):Way:=(w.1++o.2.2,w.2++[o.2.1])
def fresh (lo:Int)(o:zfq):Bool:=decide (lo<=((o.2.1:Nat):Int))
def zjw (st:zbu)(w:Way)(lo:Int):List Way:=(((atK st.of (zlb w.1 (zhu st))).reverse.takeWhile (fresh lo)).map (onW w)).filter fun x=>zgq x.1 st.gs
def ztk (C:Addr):Sp:=fun vs H Q _=>∃M st w0 lo v0 v1,vs=[v0,v1,.int lo]/\Live M H/\StepRep C (but H M) v0 st/\Rep (but H M) v1 (zfk w0)/\OkP w0.1/\w0.1.length<=500/\w0.2.length<=500/\OkSt w0.1.length st/\∀v H',Same H H'->Rep (but H' M) v (.lst ((zjw st w0 lo).map zfk))->Q v H'
theorem key_pick {S:zan}{is:List Nat}(hS:OkP S)(hi:∀i∈is,i<S.length):zir (zlb S is):=fun x hx=>by
 obtain ⟨p,hp,rfl⟩:=mem_map.mp hx
 exact (pick_sc hS hi p hp).1
theorem tw_stop {α:Type}{p:α->Bool}:∀{l:List α} {j:Nat} {y:α},(∀x∈l.take j,p x=true)->l[j]?=some y->p y=false->l.takeWhile p=l.take j
 |[],j,y,_,h,_=>by simp at h
 |x::r,0,y,_,h,hy=>by
  simp at h
  subst h
  rw [List.takeWhile_cons,hy];simp
 |x::r,j+1,y,ha,h,hy=>by
  have hx:p x=true:=ha x (by simp)
  rw [List.takeWhile_cons,hx]
  show x::r.takeWhile p=x::r.take j
  rw [tw_stop (l:=r) (j:=j) (fun z hz=>ha z (by simp [hz])) (by simpa using h) hy]
theorem tw_all {α:Type}{p:α->Bool}:∀{l:List α},(∀x∈l,p x=true)->l.takeWhile p=l
 |[],_=>rfl
 |x::r,ha=>by
  rw [List.takeWhile_cons,ha x (by simp)]
  show x::r.takeWhile p=_
  rw [tw_all fun z hz=>ha z (by simp [hz])]
section
variable {K:PySem.W.Frag}{G:Hp}{σ:St}{ty:TE}{i:Nat}{a C dx:Addr}{fs:List (Str×V)}{ao:Addr}{of:List zfq}{key:List D}
theorem ev_offers (T:Cls K C)(n:NoAttr K C "offers")(e:σ[i]?=some (some (.ref a)))(hG:G a=some (.ins C dx fs))(hl:fs.lookup ("offers":Str)=some (V.ref ao))(hO:OffRep G ao of)(hk:zir key)(h:EvM ty G σ (.tup key)):
  EvM (zqp (tFld K (zdk i) "offers") ty (tLst zev)) G σ (.lst (zl9 of key)):=fun M H s l Q k=>by
 obtain ⟨kvs,h1,h2,h3⟩:=hO
 have ha:=(zac (s _ _ hG)).2
 have hd:=(zac (s _ _ h1)).2
 refine ⟨.ref a,e,a,C,dx,fs,.ref ao,rfl,ha,T,n,hl,ao,rfl,.inr ⟨kvs,.inl hd⟩,h M H s l _ fun kv H1 s1 rk=>⟨Nat.zero_le _,fun p2 hp2=>?_⟩⟩
 obtain ⟨b,bs,rfl,hb,rbs⟩:=rk.of_tup
 have hb1:=(zac hb).2
 rw [zot hk rbs] at hb1
 have s12:=zbm hp2 (.lst [])
 have hd2:=s12 _ _ (s1 _ _ hd)
 refine ⟨zeo kvs (zn9 key),DGet.t hd2 (s12 _ _ hb1),?_⟩
 cases hv:zeo kvs (zn9 key) with
 |none=>
  have:zl9 of key=[]:=by unfold zl9;rw [(h3 key hk).1 hv];rfl
  rw [this] at k
  exact k _ _ (s1.trans s12) (zg9 (l.same s1) hp2 .nil)
 |some v=>exact k _ _ (s1.trans s12) (((h3 key hk).2 v hv).mono (s.trans ((s1.trans s12).but M)))
theorem zxx {st:zbu}{S:zan}{j:Nat}(e:σ[i]?=some (some (.ref a)))(hst:StepRep C G (.ref a) st)(hS:OkP S)(hg:∀g∈st.gs,OkG S.length g)(h:EvM (zdk j) G σ (.lst (zbj S))):
  EvT (tB (zqo C "allows" (zor C) [] L2.E0 (zdk i) (zbp (zdk j) zev))) G σ (zgq S st.gs):=fun M H s l Q k=>by
 obtain ⟨a',dx',v0,sa,v2,ao',oS,e1,g1,g2,g3,g4,g5⟩:=id hst
 cases e1
 refine ⟨.ref a,e,a,dx',_,rfl,(zac (s _ _ g1)).2,rfl,h M H s l _ fun v H1 s1 r1=>?_⟩
 exact ⟨M,st,S,.ref a,v,rfl,l.same s1,hst.mono (s.trans (s1.but M)),r1,hS,hg,fun H2 s2=>⟨_,rfl,k H2 (s1.trans s2)⟩⟩
end
end FL
namespace FL
open PySem L2
theorem zox {kvs:List (Key×V)}{k:Key}{v:V}(h:zeo kvs k=none):zgs kvs k v=kvs++[(k,v)]:=by
 unfold zgs
 rw [zhg,h]
 rfl
theorem zsa:∀(ps:zan) (acc:List (Key×V)),(ps.map (·.1)).Nodup->(∀p∈ps,zeo acc (Sum.inr p.1)=none)->zbk acc (zbx ps)=acc++zbx ps
 |[],acc,_,_=>by rw [show zbx []=[] from rfl,append_nil];rfl
 |p::r,acc,hn,ha=>by
  rw [map_cons,nodup_cons] at hn
  show zbk (zgs acc (Sum.inr p.1) p.2.toV) (zbx r)=_
  rw [zox (ha p (by simp)),zsa r _ hn.2 ?_,append_assoc]
  ·rfl
  ·intro x hx
   have ne:¬(Sum.inr x.1:Key)=Sum.inr p.1:=fun z=>hn.1 (by rw [<-Sum.inr.inj z];exact mem_map.mpr ⟨x,hx,rfl⟩)
   rw [<-zox (ha p (by simp)),zoo,if_neg ne]
   exact ha x (by simp [hx])
section
variable {σ:St}{δ:Dn}{M:List Addr}{H:Hp}{te:TE}{E:zka}{K:PySem.W.Frag}
theorem s_frz {i:Nat}{ps:zan}(l:Live M H)(hE:EnvR (but H M) σ δ)(hi:i<δ.length)(h:EvM te (but H M) σ (.lst (zbj ps)))(hp:∀p∈ps,p.2.sc=true)(hn:(ps.map (·.1)).Nodup)
  (k:∀p o σ' H',(∀j:Nat,j≠i->σ'[j]?=σ[j]?)->σ'[i]?=some (some (.ref p))->H p=none->p∉M->H' p=some (.frz o (.dK (zbx ps)))->Same H H'->Live M H'->EnvR (but H' M) σ' (δ.set i none)->E.nx σ' H'):
  zqi (tFrz (tCB (fun xs H Q=>∃a vs kvs,xs=[.ref a]/\SqL K H a vs/\zym K H vs kvs/\∀p,H p=none->Q (.ref p) (upd H p (.dK (zbk [] kvs)))) (zbp te zev))) (zdz i) E σ H:=
 h M H (Same.refl _) l _ fun v H1 s1 rv=>by
  obtain ⟨a,vs,rfl,h1,h2⟩:=rv.of_lst
  refine ⟨a,vs,zbx ps,rfl,SqL.of (zac h1).2,zjk hp h2,fun p hpn=>⟨p,_,rfl,zae,fun o=>?_⟩⟩
  rw [zfd,zsa ps [] hn fun p _=>rfl,nil_append]
  have hl:=hE.len
  have s2:Same H1 (upd H1 p (.frz o (.dK (zbx ps)))):=zbm hpn _
  refine k p o _ _ (fun j hj=>getElem?_set_ne (Ne.symm hj)) (getElem?_set_self (by omega)) ?_ ((l.same s1).fresh hpn) zae (s1.trans s2) ((l.same s1).same s2) ((hE.same (s1.trans s2)).off i _)
  cases q:H p with
  |none=>rfl
  |some u=>rw [s1 _ _ q] at hpn;cases hpn
end
theorem zlr {H:Hp}{M:List Addr}{v:V}{d:D}:∀{os:List Addr},(∀x∈os,∃o,H x=some o/\Seen o=false)->Rep (but H M) v d->Rep (but H (os++M)) v d
 |[],_,r=>r
 |x::os,h,r=>by
  obtain ⟨o,h1,h2⟩:=h x (by simp)
  exact Rep.hideD (M:=os++M) h1 h2 (zlr (fun y hy=>h y (by simp [hy])) r)
structure StepReps (C:Addr)(G:Hp)(us:List V)(ss:List zbu):Prop where
 len:us.length=ss.length
 get:∀(j:Nat) s,ss[j]?=some s->∃v,us[j]?=some v/\StepRep C G v s
theorem StepReps.mono {C:Addr}{G G':Hp}{us:List V}{ss:List zbu}(h:StepReps C G us ss)(e:Same G G'):StepReps C G' us ss:=⟨h.len,fun j s q=>let ⟨v,a,b⟩:=h.get j s q;⟨v,a,b.mono e⟩⟩
structure StepsAt (C:Addr)(H:Hp)(Z:List Addr)(us:List V)(oss:List (List Addr))(ss:List zbu):Prop where
 l1:us.length=ss.length
 l2:oss.length=ss.length
 get:∀(j:Nat) s,ss[j]?=some s->∃a os,us[j]?=some (.ref a)/\oss[j]?=some os/\StepAt C H Z a os s/\∀x∈os,x∈Z
 apart:∀(i j:Nat) oi oj,i≠j->oss[i]?=some oi->oss[j]?=some oj->∀x∈oi,x∉oj
theorem StepsAt.mono {C:Addr}{H H':Hp}{Z:List Addr}{us:List V}{oss:List (List Addr)}{ss:List zbu}(h:StepsAt C H Z us oss ss)(e:Same H H'):StepsAt C H' Z us oss ss:=⟨h.l1,h.l2,fun j s q=>let ⟨a,os,h1,h2,h3,h4⟩:=h.get j s q;⟨a,os,h1,h2,h3.mono e,h4⟩,h.apart⟩
theorem StepsAt.rep {C:Addr}{H:Hp}{Z M:List Addr}{us:List V}{oss:List (List Addr)}{ss:List zbu}(h:StepsAt C H Z us oss ss)(hm:∀x∈M,x∈Z)(ho:∀os∈oss,∀x∈os,x∉M):StepReps C (but H M) us ss:=⟨h.l1,fun j s q=>by
 obtain ⟨a,os,h1,h2,h3,h4⟩:=h.get j s q
 exact ⟨_,h1,h3.rep hm (ho os (mem_of_getElem? h2))⟩⟩
theorem StepsAt.frame {C:Addr}{H H':Hp}{Z Z':List Addr}{us:List V}{oss:List (List Addr)}{ss:List zbu}(h:StepsAt C H Z us oss ss)(hz:∀x∈Z,x∈Z')(k:∀b u,(∃os∈oss,b∈os)->H b=some u->H' b=some u)(S:Same (but H Z) (but H' Z')):StepsAt C H' Z' us oss ss:=⟨h.l1,h.l2,fun j s q=>by
 obtain ⟨a,os,h1,h2,h3,h4⟩:=h.get j s q
 exact ⟨a,os,h1,h2,h3.frame h4 (fun x hx=>hz x (h4 x hx)) (fun b u hb=>k b u ⟨os,mem_of_getElem? h2,hb⟩) S,fun x hx=>hz x (h4 x hx)⟩,h.apart⟩
theorem StepsAt.frame' {C:Addr}{H H':Hp}{Z Z':List Addr}{us:List V}{oss:List (List Addr)}{ss:List zbu}(h:StepsAt C H Z us oss ss)(hz:∀os∈oss,∀x∈os,x∈Z')(k:∀b u,(∃os∈oss,b∈os)->H b=some u->H' b=some u)(S:Same (but H Z) (but H' Z')):StepsAt C H' Z' us oss ss:=⟨h.l1,h.l2,fun j s q=>by
 obtain ⟨a,os,h1,h2,h3,h4⟩:=h.get j s q
 have ho:=mem_of_getElem? h2
 exact ⟨a,os,h1,h2,h3.frame h4 (hz os ho) (fun b u hb=>k b u ⟨os,ho,hb⟩) S,hz os ho⟩,h.apart⟩
theorem OffB.hideD {H:Hp}{Z:List Addr}{p x:Addr}{ls:List Addr}{of:List zfq}{o:HO}(h:OffB H Z p ls of)(hx:H x=some o)(hs:Seen o=false):OffB H (x::Z) p ls of:=by
 obtain ⟨kvs,h1,hn,h2,h3,h4⟩:=h.kvs
 refine ⟨⟨kvs,h1,hn,h2,fun key hk=>⟨(h3 key hk).1,fun v hv=>?_⟩,h4⟩,h.lists,h.apart⟩
 obtain ⟨l,vs,q1,q2,q3,q4⟩:=(h3 key hk).2 v hv
 refine ⟨l,vs,q1,q2,q3,?_⟩
 have q5:=Reps.hideD hx hs q4
 rwa [zge (M':=ls++p::x::Z) fun a=>by
  simp only [mem_cons,mem_append]
  constructor
  ·rintro (z|z|z|z)
   ·exact .inr (.inr (.inl z))
   ·exact .inl z
   ·exact .inr (.inl z)
   ·exact .inr (.inr (.inr z))
  ·rintro (z|z|z|z)
   ·exact .inr (.inl z)
   ·exact .inr (.inr (.inl z))
   ·exact .inl z
   ·exact .inr (.inr (.inr z))] at q5
theorem StepsAt.hideD {C:Addr}{H:Hp}{Z:List Addr}{us:List V}{oss:List (List Addr)}{ss:List zbu}{x C' dx':Addr}{fs:List (Str×V)}(h:StepsAt C H Z us oss ss)(hx:H x=some (.ins C' dx' fs))(hs:Seen (.ins C' dx' fs)=false):StepsAt C H (x::Z) us oss ss:=⟨h.l1,h.l2,fun j s q=>by
 obtain ⟨a,os,h1,h2,h3,h4⟩:=h.get j s q
 refine ⟨a,os,h1,h2,?_,fun y hy=>mem_cons_of_mem _ (h4 y hy)⟩
 obtain ⟨dx,v0,sa,v2,ao,ls,oS,q1,q2,q3,q5,q6,q7⟩:=h3.at_
 refine ⟨⟨dx,v0,sa,v2,ao,ls,oS,q1,q2,Rep.hideD hx hs q3,?_,Rep.hideD hx hs q6,q7.hideD hx hs⟩⟩
 obtain ⟨r1,r2⟩:=zac q5
 have ne:sa≠x:=fun z=>by rw [z,hx] at r2;cases r2
 rw [zat (by simp only [mem_cons,not_or];exact ⟨ne,r1⟩)]
 exact r2,h.apart⟩
theorem StepsAt.put {C:Addr}{H H':Hp}{Z:List Addr}{us:List V}{oss:List (List Addr)}{ss:List zbu}{j:Nat}{s s':zbu}{a:Addr}{os os':List Addr}(h:StepsAt C H Z us oss ss)(l:Live Z H)(hs:ss[j]?=some s)(ha:us[j]?=some (.ref a))(ho:oss[j]?=some os)
  (n:∀x∈os',x∈os\/H x=none) (k:∀b u,b∉os->H b=some u->H' b=some u) (hos:∀x∈os,x∈Z) (A:StepAt C H' (os'++Z) a os' s'):StepsAt C H' (os'++Z) us (oss.set j os') (ss.set j s'):=by
 have S:=zpe n hos k
 have hjs:=(List.getElem?_eq_some_iff.mp hs).1
 have hl2:=h.l2
 have hjo:j<oss.length:=by omega
 refine ⟨by rw [length_set];exact h.l1,by rw [length_set,length_set];exact h.l2,fun i t q=>?_,fun i m oi om him qi qm x hx=>?_⟩
 ·by_cases e:j=i
  ·subst e
   rw [getElem?_set_self hjs] at q
   cases q
   exact ⟨a,os',ha,getElem?_set_self hjo,A,fun x hx=>mem_append_left _ hx⟩
  ·rw [getElem?_set_ne e] at q
   obtain ⟨a2,o2,h1,h2,h3,h4⟩:=h.get i t q
   refine ⟨a2,o2,h1,by rw [getElem?_set_ne e];exact h2,h3.frame h4 (fun x hx=>mem_append_right _ (h4 x hx)) (fun b u hb=>k b u fun z=>h.apart j i os o2 e ho h2 b z hb) S,fun x hx=>mem_append_right _ (h4 x hx)⟩
 ·have inZ:∀{m:Nat} {om:List Addr} {x:Addr},oss[m]?=some om->x∈om->x∈Z:=fun {m om x} q hx=>by
   have hm:=(List.getElem?_eq_some_iff.mp q).1
   have hms:m<ss.length:=by omega
   obtain ⟨_,o2,_,h2,_,h4⟩:=h.get m ss[m] (getElem?_eq_getElem hms)
   rw [q] at h2
   cases h2
   exact h4 x hx
  by_cases e:j=i
  ·subst e
   rw [getElem?_set_self hjo] at qi
   cases qi
   rw [getElem?_set_ne him] at qm
   rcases n x hx with z|z
   ·exact h.apart j m os om him ho qm x z
   ·intro w
    exact l x (inZ qm w) z
  ·rw [getElem?_set_ne e] at qi
   by_cases e2:j=m
   ·subst e2
    rw [getElem?_set_self hjo] at qm
    cases qm
    intro w
    rcases n x w with z|z
    ·exact h.apart i j oi os him qi ho x hx z
    ·exact l x (inZ qi hx) z
   ·rw [getElem?_set_ne e2] at qm
    exact h.apart i m oi om him qi qm x hx
def NewRep (C:Addr)(G:Hp)(v:V)(os:List Addr)(s:zbu):Prop:=∃a dx v0 sa v2 ao oS,v=.ref a/\os=[a,ao]/\G a=some (.ins C dx (stFs v0 sa v2 ao s.newest))/\Rep G v0 (.tup s.asker)/\G sa=some (.frz oS (.dK (shK s.shared)))/\Rep G v2 (.lst (s.gs.map zkn))/\G ao=some (.dT [])/\s.of=[]
theorem NewRep.mono {C:Addr}{G G':Hp}{v:V}{os:List Addr}{s:zbu}(e:Same G G')(h:NewRep C G v os s):NewRep C G' v os s:=by
 obtain ⟨a,dx,v0,sa,v2,ao,oS,h1,h2,h3,h4,h5,h6,h7,h8⟩:=h
 exact ⟨a,dx,v0,sa,v2,ao,oS,h1,h2,e _ _ h3,h4.mono e,e _ _ h5,h6.mono e,e _ _ h7,h8⟩
structure NewReps (C:Addr)(G:Hp)(us:List V)(oss:List (List Addr))(ss:List zbu):Prop where
 l1:us.length=ss.length
 l2:oss.length=ss.length
 get:∀(j:Nat) s,ss[j]?=some s->∃v os,us[j]?=some v/\oss[j]?=some os/\NewRep C G v os s
 apart:∀(i j:Nat) oi oj,i≠j->oss[i]?=some oi->oss[j]?=some oj->∀x∈oi,x∉oj
theorem NewReps.nil {C:Addr}{G:Hp}:NewReps C G [] [] []:=⟨rfl,rfl,fun j s q=>by simp at q,fun i j oi oj _ q=>by simp at q⟩
theorem NewReps.mono {C:Addr}{G G':Hp}{us:List V}{oss:List (List Addr)}{ss:List zbu}(h:NewReps C G us oss ss)(e:Same G G'):NewReps C G' us oss ss:=⟨h.l1,h.l2,fun j s q=>let ⟨v,os,h1,h2,h3⟩:=h.get j s q;⟨v,os,h1,h2,h3.mono e⟩,h.apart⟩
theorem NewReps.seen {C:Addr}{G:Hp}{us:List V}{oss:List (List Addr)}{ss:List zbu}(h:NewReps C G us oss ss){j:Nat}{os:List Addr}(ho:oss[j]?=some os):∀x∈os,∃o,G x=some o/\Seen o=false:=fun x hx=>by
 have hj:=(List.getElem?_eq_some_iff.mp ho).1
 have hl:=h.l2
 have hjs:j<ss.length:=by omega
 obtain ⟨v,o2,_,h2,a,dx,v0,sa,v2,ao,oS,q1,q2,q3,q4,q5,q6,q7,q8⟩:=h.get j ss[j] (getElem?_eq_getElem hjs)
 rw [ho] at h2
 cases h2
 rw [q2] at hx
 rcases mem_cons.mp hx with z|z
 ·rw [z];exact ⟨_,q3,rfl⟩
 ·have:x=ao:=by simpa using z
  rw [this];exact ⟨_,q7,rfl⟩
theorem NewReps.snoc {C:Addr}{G:Hp}{us:List V}{oss:List (List Addr)}{ss:List zbu}{v:V}{os:List Addr}{s:zbu}(h:NewReps C G us oss ss)(hs:NewRep C G v os s)(hn:∀o∈oss,∀x∈o,x∉os):NewReps C G (us++[v]) (oss++[os]) (ss++[s]):=by
 have hl1:=h.l1
 have hl2:=h.l2
 have at_:∀{α:Type} {l:List α} {x y:α} {j:Nat},(l++[x])[j]?=some y->(j<l.length/\l[j]?=some y)\/(j=l.length/\y=x):=fun {α l x y j} q=>by
  by_cases hj:j<l.length
  ·rw [getElem?_append_left hj] at q;exact .inl ⟨hj,q⟩
  ·rw [getElem?_append_right (Nat.le_of_not_lt hj)] at q
   have:j-l.length=0:=by
    have:=(List.getElem?_eq_some_iff.mp q).1
    simp at this
    exact this
   rw [this] at q
   exact .inr ⟨by omega,by simpa using q.symm⟩
 refine ⟨by simp [hl1],by simp [hl2],fun j t q=>?_,fun i j oi oj hij qi qj x hx=>?_⟩
 ·rcases at_ q with ⟨h1,h2⟩|⟨h1,h2⟩
  ·obtain ⟨w,o2,q1,q2,q3⟩:=h.get j t h2
   exact ⟨w,o2,by rw [getElem?_append_left (by omega)];exact q1,by rw [getElem?_append_left (by omega)];exact q2,q3⟩
  ·subst h2
   refine ⟨v,os,?_,?_,hs⟩
   ·rw [h1,<-hl1,getElem?_append_right (Nat.le_refl _)];simp
   ·rw [h1,<-hl2,getElem?_append_right (Nat.le_refl _)];simp
 ·rcases at_ qi with ⟨h1,h2⟩|⟨h1,h2⟩
  ·rcases at_ qj with ⟨h3,h4⟩|⟨h3,h4⟩
   ·exact h.apart i j oi oj hij h2 h4 x hx
   ·rw [h4];exact hn oi (mem_of_getElem? h2) x hx
  ·rcases at_ qj with ⟨h3,h4⟩|⟨h3,h4⟩
   ·rw [h2] at hx
    exact fun z=>hn oj (mem_of_getElem? h4) x z hx
   ·exact absurd (h1.trans h3.symm) hij
theorem NewReps.own {C:Addr}{H:Hp}{M:List Addr}{us:List V}{oss:List (List Addr)}{ss:List zbu}(h:NewReps C (but H M) us oss ss):StepsAt C H (oss.flatten++M) us oss ss:=by
 have hall:∀x∈oss.flatten,∃o,H x=some o/\Seen o=false:=fun x hx=>by
  obtain ⟨os,ho,hx⟩:=mem_flatten.mp hx
  obtain ⟨j,hj⟩:=mem_iff_getElem?.mp ho
  obtain ⟨o,h1,h2⟩:=h.seen hj x hx
  exact ⟨o,(zac h1).2,h2⟩
 refine ⟨h.l1,h.l2,fun j s q=>?_,h.apart⟩
 obtain ⟨v,os,h1,h2,a,dx,v0,sa,v2,ao,oS,rfl,q2,q3,q4,q5,q6,q7,q8⟩:=h.get j s q
 have hin:∀x∈os,x∈oss.flatten++M:=fun x hx=>mem_append_left _ (mem_flatten.mpr ⟨os,mem_of_getElem? h2,hx⟩)
 refine ⟨a,os,h1,h2,⟨⟨dx,v0,sa,v2,ao,[],oS,q2,(zac q3).2,zlr hall q4,?_,zlr hall q6,?_⟩⟩,hin⟩
 ·obtain ⟨r1,r2⟩:=zac q5
  rw [zat]
  ·exact r2
  ·intro z
   rcases mem_append.mp z with z|z
   ·obtain ⟨os',ho',hx'⟩:=mem_flatten.mp z
    obtain ⟨i,hi⟩:=mem_iff_getElem?.mp ho'
    have hjs:i<ss.length:=by have:=(List.getElem?_eq_some_iff.mp hi).1;have:=h.l2;omega
    obtain ⟨v',o2,_,p2,a',dx',v0',sa',v2',ao',oS',e1,e2,e3,e4,e5,e6,e7,e8⟩:=h.get i ss[i] (getElem?_eq_getElem hjs)
    rw [hi] at p2
    cases p2
    rw [e2] at hx'
    rcases mem_cons.mp hx' with w|w
    ·rw [w] at r2;rw [(zac e3).2] at r2;cases r2
    ·have w:sa=ao':=by simpa using w
     rw [w,(zac e7).2] at r2;cases r2
   ·exact r1 z
 ·rw [q8]
  exact ⟨⟨[],(zac q7).2,Nat.le_refl _,⟨fun _=>rfl,fun _=>rfl⟩,fun key hk=>⟨fun _=>rfl,fun v hv=>by simp [zeo] at hv⟩,fun _ _ _ _ _ hv=>by simp [zeo] at hv⟩,(fun l hl=>nomatch hl),(fun z=>nomatch z)⟩
def shOf (a:List D)(B:List Str):List (Str×Nat):=((za9 [] a).filter fun b=>decide (b∈B)).map fun b=>(b,B.idxOf b)
def znn (a:List D)(B:List Str)(W:List (List D)):zbu:=⟨a,shOf a B,(W.filter fun g=>zbv g (za9 B a)).map fun g=>(g,zbt g (za9 B a)),[],-1⟩
def stepsGo:List (List D)->List Str->List (List D)->List zbu
 |[],_,_=>[]
 |a::r,B,W=>znn a B W::stepsGo r (za9 B a) (W.filter fun g=> !zbv g (za9 B a))
theorem zwy (B:List Str)(n:Str)(h:n∉B):zgs (zfz B) (Sum.inr n) (V.int (B.length:Nat))=zfz (B++[n]):=by
 have hv:=zlg B n
 rw [if_neg h] at hv
 unfold zgs
 rw [zhg,hv]
 show zfz B++_=_
 unfold zfz
 rw [List.zipIdx_append,map_append,Nat.zero_add]
 rfl
theorem zqu (B:List Str):(zfz B).length=B.length:=by unfold zfz;rw [length_map,List.length_zipIdx]
theorem s_slot {σ:St}{δ:Dn}{M:List Addr}{H:Hp}{E:zka}{ty:TE}{i:Nat}{p:Addr}{B:List Str}{n:Str}(l:Live M H)(hE:EnvR (but H M) σ δ)(hpM:p∈M)(e:σ[i]?=some (some (.ref p)))(hp:H p=some (.dK (zfz B)))(hz:B.length<sizeLine)(h:EvM ty (but H M) σ (.str n))
  (k:∀H',(∀b o,b≠p->H b=some o->H' b=some o)->Live M H'->H' p=some (.dK (zfz (if n∈B then B else B++[n])))->EnvR (but H' M) σ δ->E.nx σ H'):zop (tDSet (zdk i) ty (tCB rLenD (zbp (zdk i) zev))) E σ H:=by
 refine ⟨.ref p,e,p,rfl,.inl ⟨_,.inl hp⟩,h M H (Same.refl _) l _ fun v H1 s1 rv=>⟨.ref p,e,.inl ⟨p,zfz B,rfl,.inl (s1 _ _ hp),?_⟩⟩⟩
 have hp1:=s1 _ _ hp
 have ev:=(zfs (d:=.str n) rfl rv).2
 have hv:=zlg B n
 by_cases hn:n∈B
 ·rw [if_pos hn] at hv
  refine ⟨_,H1,.inl ⟨by rw [ev,<-hv];exact DGet.k hp1,rfl,_,hp1⟩,k H1 (fun b o _ q=>s1 _ _ q) (l.same s1) (by rw [if_pos hn];exact hp1) (hE.same s1)⟩
 ·rw [if_neg hn] at hv
  refine ⟨_,_,.inr ⟨by rw [ev,<-hv];exact DGet.k hp1,rfl,by rw [ev];exact DPut.k (k:=Sum.inr n) hp1 (by rw [zqu];exact hz)⟩,?_⟩
  have eb:but (upd H1 p (.dK (zgs (zfz B) (Sum.inr n) (.int ((zfz B).length:Nat))))) M=but H1 M:=zcy hpM
  refine k _ (fun b o hb q=>by rw [zal hb];exact s1 _ _ q) (l.same s1).upd ?_ (by rw [eb];exact hE.same s1)
  rw [zae,zqu,zwy B n hn,if_neg hn]
section
variable {H:Hp}{M:List Addr}{b p:Addr}{σ:St}{δ:Dn}{kvs:List (Key×V)}
theorem sameV:Same (but H (b::p::M)) (but H (b::M)):=zcj fun x hx=>by
 rcases mem_cons.mp hx with z|z
 ·rw [z];exact mem_cons_self
 ·exact mem_cons_of_mem _ (mem_cons_of_mem _ z)
theorem sameH:Same (but H (p::b::M)) (but H (b::p::M)):=zcj fun x hx=>by
 rcases mem_cons.mp hx with z|z
 ·rw [z];exact mem_cons_of_mem _ mem_cons_self
 ·rcases mem_cons.mp z with z|z
  ·rw [z];exact mem_cons_self
  ·exact mem_cons_of_mem _ (mem_cons_of_mem _ z)
theorem toH (h:EnvR (but H (b::M)) σ δ)(hp:H p=some (.dK kvs)):EnvR (but H (b::p::M)) σ δ:=(h.hideD hp rfl).mono sameH
end
theorem zxh {Bj L:List Str}{k:Nat}{n:Str}(hL:L.Nodup)(h:L[k]?=some n):(if n∈Bj++(L.take k).filter (fun x=> !decide (x∈Bj)) then Bj++(L.take k).filter (fun x=> !decide (x∈Bj)) else Bj++(L.take k).filter (fun x=> !decide (x∈Bj))++[n])=Bj++(L.take (k+1)).filter (fun x=> !decide (x∈Bj)):=by
 have hnt:n∉L.take k:=fun z=>by
  obtain ⟨i,hi⟩:=mem_iff_getElem?.mp z
  have hik:i<k:=by
   have:=(List.getElem?_eq_some_iff.mp hi).1
   rw [length_take] at this
   omega
  rw [List.getElem?_take_of_lt hik] at hi
  exact Nat.ne_of_lt hik (zpi hL hi h)
 rw [take_add_one,h,filter_append]
 by_cases hB:n∈Bj
 ·rw [if_pos (mem_append_left _ hB)]
  simp [hB]
 ·rw [if_neg (by
   intro z
   rcases mem_append.mp z with z|z
   ·exact hB z
   ·exact hnt (mem_filter.mp z).1),append_assoc]
  simp [hB]
def zjz (g:List D):Bool:= !((za9 [] g).map D.str).isEmpty
def ztc (as:List (List D)):Prop:=(∀a∈as,OkA a)/\as.length<=100
def stepsD (as:List (List D)):List zbu:=stepsGo (as.filter fun a=> !zap a) [] ((as.filter zap).filter zjz)
def spSteps (C:Addr):Sp:=fun vs H Q _=>∃M as v0,vs=[v0]/\Live M H/\Rep (but H M) v0 (zgu as)/\ztc as/\
 ∀p us oss H',Same H H'->but H' M p=some (.lst us)->NewReps C (but H' M) us oss (stepsD as)->(∀os∈oss,∀x∈os,H x=none)->H p=none->Q (.ref p) H'
theorem zgo (q:D->Bool)(r:List D->Bool)(F:D->D)(fF:List D->D)(as:List (List D))(h:∀a∈as,q (.tup a)=r a)(hF:∀a∈as,F (.tup a)=fF a):((as.map D.tup).filter q).map F=(as.filter r).map fF:=by
 rw [List.filter_map,map_map]
 have e:as.filter (q∘D.tup)=as.filter r:=filter_congr h
 rw [e]
 exact map_congr_left fun a ha=>hF a (mem_filter.mp ha).1
def tupP (r:List D->Bool):D->Bool
 |.tup a=>r a
 |_=>false
def tupF (r:List D->D):D->D
 |.tup a=>r a
 |_=>.non
end FL
namespace FL
open PySem L2
structure zgg where
 steps:List zbu
 barred:Bool
 taken:Nat
 fresh:Nat
 last:Int
abbrev loFs (sl:Addr)(b:Bool)(t f l:Int):List (Str×V):=[("steps",.ref sl),("is_barred",.bl b),("taken_in",.int t),("fresh",.int f),("last_fresh_step",.int l)]
structure zvb (K:PySem.W.Frag)(C:Addr):Prop where
 cl:Cls K C
 nS:NoAttr K C "steps"
 nB:NoAttr K C "is_barred"
 nT:NoAttr K C "taken_in"
 nF:NoAttr K C "fresh"
 nL:NoAttr K C "last_fresh_step"
def LoomAt (C CL:Addr)(H:Hp)(Z:List Addr)(a:Addr)(oss:List (List Addr))(lm:zgg):Prop:=∃dx sl us,H a=some (.ins CL dx (loFs sl lm.barred lm.taken lm.fresh lm.last))/\but H Z sl=some (.lst us)/\StepsAt C H Z us oss lm.steps/\a∈Z/\∀os∈oss,a∉os
def LoomRep (C CL:Addr)(G:Hp)(v:V)(lm:zgg):Prop:=∃a dx sl us,v=.ref a/\G a=some (.ins CL dx (loFs sl lm.barred lm.taken lm.fresh lm.last))/\G sl=some (.lst us)/\StepReps C G us lm.steps
theorem LoomRep.mono {C CL:Addr}{G G':Hp}{v:V}{lm:zgg}(h:LoomRep C CL G v lm)(e:Same G G'):LoomRep C CL G' v lm:=by
 obtain ⟨a,dx,sl,us,h1,h2,h3,h4⟩:=h
 exact ⟨a,dx,sl,us,h1,e _ _ h2,e _ _ h3,h4.mono e⟩
theorem LoomAt.rep {C CL:Addr}{H:Hp}{Z M:List Addr}{a:Addr}{oss:List (List Addr)}{lm:zgg}(h:LoomAt C CL H Z a oss lm)(hm:∀x∈M,x∈Z)(ha:a∉M)(ho:∀os∈oss,∀x∈os,x∉M):LoomRep C CL (but H M) (.ref a) lm:=by
 obtain ⟨dx,sl,us,h1,h2,h3,h4,h5⟩:=h
 exact ⟨a,dx,sl,us,rfl,by rw [zat ha];exact h1,(zcj hm) _ _ h2,h3.rep hm ho⟩
def zih (as:List (List D)):Bool:= !((as.filter zap).filter fun g=> !zjz g).all holdsA
def zet (as:List (List D)):zgg:=⟨stepsD as,zih as,0,0,-1⟩
def OkGs (as:List (List D)):Prop:=∀g∈as,zap g=true->∃r a b,g=[.str r,a,b]
def spLInit (C CL:Addr):Sp:=fun vs H Q _=>∃M as x dx v1,vs=[.ref x,v1]/\H x=some (.ins CL dx [])/\Live M H/\Rep (but H M) v1 (zgu as)/\ztc as/\OkGs as/\
 ∀oss H',(∀b u,b≠x->H b=some u->H' b=some u)->(∀os∈oss,∀y∈os,H y=none)->Live (oss.flatten++x::M) H'->LoomAt C CL H' (oss.flatten++x::M) x oss (zet as)->Q .non H'
def zbz (s:zbu)(n:Nat)(facts:List (List D)):zbu:=(facts.zipIdx n).foldl (fun s p=>zdc s p.2 p.1) s
theorem zrv {s:zbu}{n j:Nat}{facts:List (List D)}{g:List D}(h:facts[j]?=some g):zbz s n (facts.take (j+1))=zdc (zbz s n (facts.take j)) (n+j) g:=by
 have hj:j<facts.length:=(List.getElem?_eq_some_iff.mp h).1
 unfold zbz
 rw [take_add_one,h,List.zipIdx_append,foldl_append]
 have hl:(facts.take j).length=j:=by rw [length_take];omega
 rw [hl]
 rfl
theorem offerS_of (s:zbu)(n:Nat)(g:List D):(zdc s n g).of.length<=s.of.length+1:=by
 unfold zdc
 split
 ·simp
 ·omega
theorem zrw (s:zbu)(n:Nat)(g:List D):(zdc s n g).asker=s.asker:=by
 unfold zdc
 split<;>rfl
theorem zhi (n:Nat)(s:zbu):∀(l:List (List D×Nat)) (s:zbu),((l.foldl (fun s p=>zdc s p.2 p.1) s).of.length<=s.of.length+l.length)/\(l.foldl (fun s p=>zdc s p.2 p.1) s).asker=s.asker
 |[],s=>⟨Nat.le_refl _,rfl⟩
 |p::r,s=>by
  obtain ⟨h1,h2⟩:=zhi n s r (zdc s p.2 p.1)
  have h3:=offerS_of s p.2 p.1
  refine ⟨?_,?_⟩
  ·show (r.foldl _ (zdc s p.2 p.1)).of.length<=_
   rw [length_cons]
   omega
  ·show (r.foldl _ (zdc s p.2 p.1)).asker=_
   rw [h2,zrw]
theorem zxf (s:zbu)(n:Nat)(facts:List (List D)):(zbz s n facts).of.length<=s.of.length+facts.length:=by
 have:=(zhi n s (facts.zipIdx n) s).1
 rw [List.length_zipIdx] at this
 exact this
theorem zpg (s:zbu)(n:Nat)(facts:List (List D)):(zbz s n facts).asker=s.asker:=(zhi n s (facts.zipIdx n) s).2
def lastD (ss:List zbu)(n:Nat):Int:=maxI (((List.range ss.length).filter fun j=>decide ((n:Int)<=(ss.getD j ⟨[],[],[],[],-1⟩).newest)).map fun j=>((j:Nat):Int)) (-1)
def zfl (lm:zgg)(facts:List (List D)):zgg:=⟨lm.steps.map fun s=>zbz s lm.taken facts,lm.barred,lm.taken+facts.length,lm.taken,lastD (lm.steps.map fun s=>zbz s lm.taken facts) lm.taken⟩
def spTake (C CL:Addr):Sp:=fun vs H Q _=>∃Z oss lm facts a v1,vs=[.ref a,v1]/\Live Z H/\LoomAt C CL H Z a oss lm/\Rep (but H Z) v1 (.lst (facts.map D.tup))/\(∀g∈facts,OkF g)/\(∀s∈lm.steps,OkA s.asker/\s.of.length+facts.length<1000)/\lm.steps.length<=100/\lm.taken+facts.length<2^60/\
 ∀oss' H',(∀os∈oss',∀x∈os,(∃o∈oss,x∈o)\/H x=none)->(∀b u,b≠a->(∀os∈oss,b∉os)->H b=some u->H' b=some u)->Live (oss'.flatten++Z) H'->LoomAt C CL H' (oss'.flatten++Z) a oss' (zfl lm facts)->Q .non H'
structure TakeI (C:Addr)(us:List V)(H2:Hp)(Z2:List Addr)(oss:List (List Addr))(H':Hp)(Z':List Addr)(oss':List (List Addr))(ss':List zbu):Prop where
 st:StepsAt C H' Z' us oss' ss'
 own:∀os∈oss',∀x∈os,(∃o∈oss,x∈o)\/H2 x=none
 keep:∀b u,(∀os∈oss,b∉os)->H2 b=some u->H' b=some u
 live:Live Z' H'
 sub:∀x∈Z2,x∈Z'
 sup:∀x∈Z',x∈Z2\/∃os∈oss',x∈os
section
variable {C:Addr}{us:List V}{H2 H' H'':Hp}{Z2 Z':List Addr}{oss oss':List (List Addr)}{ss':List zbu}
theorem TakeI.same (h:TakeI C us H2 Z2 oss H' Z' oss' ss')(hz:∀os∈oss,∀x∈os,x∈Z2):Same (but H2 Z2) (but H' Z'):=fun b u e=>by
 obtain ⟨q1,q2⟩:=zac e
 have no:∀os∈oss,b∉os:=fun os ho z=>q1 (hz os ho b z)
 rw [zat]
 ·exact h.keep b u no q2
 ·intro z
  rcases h.sup b z with w|⟨os,ho,w⟩
  ·exact q1 w
  ·rcases h.own os ho b w with ⟨o,ho',w'⟩|w'
   ·exact no o ho' w'
   ·rw [w'] at q2;cases q2
theorem TakeI.mono (h:TakeI C us H2 Z2 oss H' Z' oss' ss')(e:Same H' H''):TakeI C us H2 Z2 oss H'' Z' oss' ss':=⟨h.st.mono e,h.own,fun b u hb q=>e _ _ (h.keep b u hb q),h.live.same e,h.sub,h.sup⟩
theorem TakeI.put {j:Nat}{s s':zbu}{a:Addr}{os os':List Addr}(h:TakeI C us H2 Z2 oss H' Z' oss' ss')(hs:ss'[j]?=some s)(ha:us[j]?=some (.ref a))(ho:oss'[j]?=some os)(hos:∀x∈os,x∈Z')
  (n:∀x∈os',x∈os\/H' x=none) (hin:∀x∈os,x∈os') (k:∀b u,b∉os->H' b=some u->H'' b=some u) (l:Live (os'++Z') H'') (A:StepAt C H'' (os'++Z') a os' s'):TakeI C us H2 Z2 oss H'' (os'++Z') (oss'.set j os') (ss'.set j s'):=by
 have hjo:j<oss'.length:=(List.getElem?_eq_some_iff.mp ho).1
 have mem_set:∀{o:List Addr},o∈oss'.set j os'->o=os'\/o∈oss':=fun {o} q=>by
  rcases List.mem_or_eq_of_mem_set q with z|z
  ·exact .inr z
  ·exact .inl z
 have none2:∀{x:Addr},H' x=none->(∃o∈oss,x∈o)\/H2 x=none:=fun {x} e=>by
  by_cases z:∃o∈oss,x∈o
  ·exact .inl z
  ·cases q:H2 x with
   |none=>exact .inr rfl
   |some u=>
    have:=h.keep x u (fun o ho' hx=>z ⟨o,ho',hx⟩) q
    rw [e] at this;cases this
 refine ⟨h.st.put h.live hs ha ho n k hos A,fun o hq x hx=>?_,fun b u hb q=>?_,l,fun x hx=>mem_append_right _ (h.sub x hx),fun x hx=>?_⟩
 ·rcases mem_set hq with z|z
  ·subst z
   rcases n x hx with w|w
   ·exact h.own os (mem_of_getElem? ho) x w
   ·exact none2 w
  ·exact h.own o z x hx
 ·have hb':=h.keep b u hb q
  refine k b u (fun z=>?_) hb'
  rcases h.own os (mem_of_getElem? ho) b z with ⟨o,ho',w⟩|w
  ·exact hb o ho' w
  ·rw [q] at w;cases w
 ·rcases mem_append.mp hx with z|z
  ·exact .inr ⟨os',mem_iff_getElem?.mpr ⟨j,getElem?_set_self hjo⟩,z⟩
  ·rcases h.sup x z with w|⟨o,ho',w⟩
   ·exact .inl w
   ·obtain ⟨i,hi⟩:=mem_iff_getElem?.mp ho'
    by_cases e:j=i
    ·subst e
     rw [ho] at hi
     cases hi
     exact .inr ⟨os',mem_iff_getElem?.mpr ⟨j,getElem?_set_self hjo⟩,hin x w⟩
    ·exact .inr ⟨o,mem_iff_getElem?.mpr ⟨i,by rw [getElem?_set_ne e];exact hi⟩,w⟩
end
end FL
namespace FL
open PySem L2
def zfj (lm:zgg):List Way:=if (lm.barred||(decide (lm.last<0)&&decide ((0:Int)<lm.fresh)))=true then [] else if (lm.steps.all fun s=>decide ((0:Int)<=s.newest))=true then [([],[])] else []
def lowD (lm:zgg)(w:Way):Int:=if (decide (((w.2.length:Nat):Int)=lm.last)&&decide (maxI (w.2.map fun n=>((n:Nat):Int)) (-1)<lm.fresh))=true then lm.fresh else 0
def zce (lm:zgg)(w:Way):List Way:=match lm.steps[w.2.length]? with
 |some st=>zjw st w (lowD lm w)
 |none=>[]
def zps (lm:zgg):Nat->Way->List Way
 |0,w=>[w]
 |n+1,w=>(zce lm w).reverse.flatMap (zps lm n)
def zea (lm:zgg):Nat->Way->Nat
 |0,_=>1
 |n+1,w=>1+((zce lm w).map (zea lm n)).sum
theorem znw (lm:zgg):∀(n:Nat) (w:Way),1<=zea lm n w
 |0,_=>Nat.le_refl _
 |n+1,w=>Nat.le_add_right _ _
def zcw (lm:zgg)(w:Way):Nat:=lm.steps.length-w.2.length
theorem zhl {lm:zgg}{w x:Way}(h:x∈zce lm w):x.2.length=w.2.length+1:=by
 unfold zce at h
 split at h
 ·unfold zjw at h
  obtain ⟨o,ho,rfl⟩:=mem_map.mp (mem_filter.mp h).1
  show (w.2++[o.2.1]).length=_
  rw [length_append]
  rfl
 ·cases h
theorem folW_step {lm:zgg}{w:Way}(h:w.2.length<lm.steps.length):zps lm (zcw lm w) w=(zce lm w).reverse.flatMap fun x=>zps lm (zcw lm x) x:=by
 have e:zcw lm w=zcw lm w-1+1:=by unfold zcw;omega
 rw [e]
 show (zce lm w).reverse.flatMap (zps lm (zcw lm w-1))=_
 have:∀(L:List Way),(∀x∈L,x.2.length=w.2.length+1)->L.flatMap (zps lm (zcw lm w-1))=L.flatMap fun x=>zps lm (zcw lm x) x:=by
  intro L
  induction L with
  |nil=>exact fun _=>rfl
  |cons x r ih=>
   intro hx
   have e2:zcw lm x=zcw lm w-1:=by have:=hx x mem_cons_self;unfold zcw;omega
   rw [flatMap_cons,flatMap_cons,ih fun y hy=>hx y (mem_cons_of_mem _ hy),e2]
 exact this _ fun x hx=>zhl (mem_reverse.mp hx)
theorem zua {lm:zgg}{w:Way}(h:w.2.length<lm.steps.length):zea lm (zcw lm w) w=1+((zce lm w).map fun x=>zea lm (zcw lm x) x).sum:=by
 have e:zcw lm w=zcw lm w-1+1:=by unfold zcw;omega
 rw [e]
 show 1+((zce lm w).map (zea lm (zcw lm w-1))).sum=_
 congr 2
 exact map_congr_left fun x hx=>by
  have e2:zcw lm x=zcw lm w-1:=by have:=zhl hx;unfold zcw;omega
  rw [e2]
theorem zth (lm:zgg):∀(l:List Way),l.length<=(l.map fun w=>zea lm (zcw lm w) w).sum
 |[]=>Nat.le_refl _
 |w::r=>by
  rw [map_cons,List.sum_cons,length_cons]
  have:=zth lm r
  have:=znw lm (zcw lm w) w
  omega
structure zqh (sz:Nat->Nat)(ss:List zbu):Prop where
 zero:sz 0=0
 st:∀k s,ss[k]?=some s->OkSt (sz k) s/\∀o∈s.of,sz k+o.2.2.length=sz (k+1)
 le:∀k,sz k<=500
 len:ss.length<=100
structure GoodW (sz:Nat->Nat)(ss:List zbu)(w:Way):Prop where
 one:w.1.length=sz w.2.length
 two:w.2.length<=ss.length
 ok:OkP w.1
theorem GoodW.nil {sz:Nat->Nat}{ss:List zbu}(h:zqh sz ss):GoodW sz ss ([],[]):=⟨h.zero.symm,Nat.zero_le _,fun p hp=>nomatch hp⟩
theorem zso {sz:Nat->Nat}{lm:zgg}{w:Way}(h:zqh sz lm.steps)(hw:GoodW sz lm.steps w):∀x∈zce lm w,GoodW sz lm.steps x:=fun x hx=>by
 have hl:=zhl hx
 unfold zce at hx
 split at hx
 ·rename_i s hs
  unfold zjw at hx
  obtain ⟨o,ho,rfl⟩:=mem_map.mp (mem_filter.mp hx).1
  have ho1:o∈(atK s.of (zlb w.1 (zhu s))).reverse:=(List.takeWhile_sublist _).subset ho
  have hom:o∈s.of:=(mem_filter.mp (mem_reverse.mp ho1)).1
  obtain ⟨h1,h2⟩:=h.st _ s hs
  have hlt:=(List.getElem?_eq_some_iff.mp hs).1
  refine ⟨?_,?_,fun p hp=>?_⟩
  ·show (w.1++o.2.2).length=sz (w.2++[o.2.1]).length
   have hl:(w.2++[o.2.1]).length=w.2.length+1:=hl
   rw [length_append,hw.one,h2 o hom,hl]
  ·have hl:(onW w o).2.length=w.2.length+1:=hl
   rw [hl];omega
  ·rcases mem_append.mp hp with z|z
   ·exact hw.ok p z
   ·exact (h1.of o hom).1 p z
 ·cases hx
def spBegin (C CL:Addr):Sp:=fun vs H Q _=>∃M lm v0,vs=[v0]/\Live M H/\LoomRep C CL (but H M) v0 lm/\lm.steps.length<=100/\∀p us H',Same H H'->H p=none->H' p=some (.lst us)->Reps (but H' (p::M)) us ((zfj lm).map zfk)->Q (.ref p) H'
def ztj (C CL:Addr):Sp:=fun vs H Q _=>∃M lm w0 v0 v1,vs=[v0,v1]/\Live M H/\LoomRep C CL (but H M) v0 lm/\Rep (but H M) v1 (zfk w0)/\∀H',Same H H'->Q (.bl (decide (w0.2.length=lm.steps.length))) H'
def zlp (C CL:Addr):Sp:=fun vs H Q _=>∃M lm w0 v0 v1 sz,vs=[v0,v1]/\Live M H/\LoomRep C CL (but H M) v0 lm/\Rep (but H M) v1 (zfk w0)/\zqh sz lm.steps/\GoodW sz lm.steps w0/\w0.2.length<lm.steps.length/\∀v H',Same H H'->Rep (but H' M) v (.lst ((zce lm w0).map zfk))->Q v H'
def zkr (as facts:List (List D)):List Way:=(zfj (zfl (zet as) facts)).flatMap fun w=>zps (zfl (zet as) facts) (zcw (zfl (zet as) facts) w) w
def spWays:Sp:=fun vs H Q _=>∃M facts as v0 v1 sz,vs=[v0,v1]/\Live M H/\Rep (but H M) v0 (.lst (facts.map D.tup))/\Rep (but H M) v1 (zgu as)/\(∀g∈facts,OkF g)/\facts.length<=200/\ztc as/\OkGs as/\zqh sz (zfl (zet as) facts).steps/\zea (zfl (zet as) facts) (zfl (zet as) facts).steps.length ([],[])<sizeLine/\
 ∀v H',Same H H'->Rep (but H' M) v (.lst ((zkr as facts).map zfk))->Q v H'
section
variable {K:PySem.W.Frag}{G:Hp}{σ:St}{te:TE}{a:Addr}{us:List V}
theorem ev_lenE (h:EvR te G σ a)(hG:G a=some (.lst us)):EvM (tCB (fun xs H Q=>∃p ys,xs=[.ref p]/\(SqL K H p ys\/SqT K H p ys)/\Q (.int ys.length) H) (zbp te zev)) G σ (.int (us.length:Nat)):=
 fun M H s l Q k=>h M H s l _ fun H1 s1=>⟨a,us,rfl,.inl (SqL.of (s1 _ _ (zac (s _ _ hG)).2)),k _ H1 s1 (.int _)⟩
theorem zsj {C:Addr}{i n q:Nat}{v:V}{st:zbu}{w0:Way}{m:Nat}{lo:Int}(h:EvR te G σ a)(hG:G a=some (.lst us))(h6:EvM (zdk i) G σ (.int (m:Nat)))(hv:us[m]?=some v)(hst:StepRep C G v st)(hS:OkP w0.1)(hz1:w0.1.length<=500)(hz2:w0.2.length<=500)(ho:OkSt w0.1.length st)(hw:EvM (zdk n) G σ (zfk w0))(hlo:EvM (zdk q) G σ (.int lo)):
  EvM (zqo C "carry_on" (ztk C) [] L2.E0 (tOp (rIx K) te (zdk i)) (zbp (zdk n) (zbp (zdk q) zev))) G σ (.lst ((zjw st w0 lo).map zfk)):=fun M H s l Q k=>by
 refine h M H s l _ fun H0 s0=>h6 M H0 (s.trans (s0.but M)) (l.same s0) _ fun y H1 s1 ry=>.inl ⟨a,us,_,v,rfl,ry.of_int,SqL.of (s1 _ _ (s0 _ _ (zac (s _ _ hG)).2)),zqd hv,?_⟩
 have s01:=s0.trans s1
 have hst1:=hst.mono (s.trans (s01.but M))
 obtain ⟨a',dx',w1,sa,w3,ao',oS,rfl,g1,g2,g3,g4,g5⟩:=id hst1
 refine ⟨a',dx',_,rfl,(zac g1).2,rfl,hw M H1 (s.trans (s01.but M)) (l.same s01) _ fun u H2 s2 ru=>hlo M H2 (s.trans ((s01.trans s2).but M)) (l.same (s01.trans s2)) _ fun z H3 s3 rz=>?_⟩
 have ez:=rz.of_int
 subst ez
 exact ⟨M,st,w0,lo,.ref a',u,rfl,l.same (s01.trans (s2.trans s3)),hst1.mono ((s2.trans s3).but M),ru.mono (s3.but M),hS,hz1,hz2,ho,fun v' H4 s4 r4=>k v' H4 (s01.trans (s2.trans (s3.trans s4))) r4⟩
theorem evt_whole {C CL:Addr}{i j:Nat}{lm:zgg}{w0:Way}(e:σ[i]?=some (some (.ref a)))(hL:LoomRep C CL G (.ref a) lm)(h:EvM (zdk j) G σ (zfk w0)):EvT (tB (zqo CL "is_whole" (ztj C CL) [] L2.E0 (zdk i) (zbp (zdk j) zev))) G σ (decide (w0.2.length=lm.steps.length)):=fun M H s l Q k=>by
 obtain ⟨a',dx',sl,us,e1,g1,g2,g3⟩:=id hL
 cases e1
 refine ⟨.ref a,e,a,dx',_,rfl,(zac (s _ _ g1)).2,rfl,h M H s l _ fun v H1 s1 r1=>?_⟩
 exact ⟨M,lm,w0,.ref a,v,rfl,l.same s1,hL.mono (s.trans (s1.but M)),r1,fun H2 s2=>⟨_,rfl,k H2 (s1.trans s2)⟩⟩
theorem zxy {C CL:Addr}{i j:Nat}{lm:zgg}{w0:Way}{sz:Nat->Nat}(e:σ[i]?=some (some (.ref a)))(hL:LoomRep C CL G (.ref a) lm)(hR:zqh sz lm.steps)(hW:GoodW sz lm.steps w0)(hlt:w0.2.length<lm.steps.length)(h:EvM (zdk j) G σ (zfk w0)):EvM (zqo CL "carried_on" (zlp C CL) [] L2.E0 (zdk i) (zbp (zdk j) zev)) G σ (.lst ((zce lm w0).map zfk)):=fun M H s l Q k=>by
 obtain ⟨a',dx',sl,us,e1,g1,g2,g3⟩:=id hL
 cases e1
 refine ⟨.ref a,e,a,dx',_,rfl,(zac (s _ _ g1)).2,rfl,h M H s l _ fun v H1 s1 r1=>?_⟩
 exact ⟨M,lm,w0,.ref a,v,sz,rfl,l.same s1,hL.mono (s.trans (s1.but M)),r1,hR,hW,hlt,fun v2 H2 s2 r2=>k v2 H2 (s1.trans s2) r2⟩
theorem zjn {H H':Hp}{p:Addr}(s:Same H H')(h:H' p=none):H p=none:=by
 cases q:H p with
 |none=>rfl
 |some u=>rw [s _ _ q] at h;cases h
theorem s_retL {M:List Addr}{H:Hp}{E:zka}{t:TA}{ds:List D}(l:Live M H)(h:EvA t (but H M) σ ds)(hz:ds.length<=sizeLine)(k:∀p vs H',Same H H'->H p=none->H' p=some (.lst vs)->Reps (but H' (p::M)) vs ds->E.rt (.ref p) H'):tRet (tLst t) E σ H:=
 h M H (Same.refl _) l _ fun vs H1 s1 rs=>⟨by rw [rs.length];exact hz,fun p hp=>k p vs _ (s1.trans (zbm hp _)) (by
  cases q:H p with
  |none=>rfl
  |some u=>rw [s1 _ _ q] at hp;cases hp) zae (zji hp rs)⟩
end
theorem zjc:∀(as:List (List D)) (B:List Str) (W:List (List D)) (s:zbu),s∈stepsGo as B W->s.asker∈as/\s.of=[]/\s.newest=-1
 |[],_,_,s,h=>by cases h
 |a::r,B,W,s,h=>by
  rcases mem_cons.mp h with z|z
  ·subst z;exact ⟨mem_cons_self,rfl,rfl⟩
  ·obtain ⟨h1,h2,h3⟩:=zjc r _ _ s z
   exact ⟨mem_cons_of_mem _ h1,h2,h3⟩
theorem zex:∀(as:List (List D)) (B:List Str) (W:List (List D)),(stepsGo as B W).length=as.length
 |[],_,_=>rfl
 |a::r,B,W=>congrArg (· +1) (zex r _ _)
end FL
namespace O5
open PySem L2 FL
structure StepI where
 shared:List Nat
 of:List zfq
 gs:List (List D×List Nat)
structure OkSt (n:Nat)(st:StepI):Prop where
 sh:∀i∈st.shared,i<n
 shl:st.shared.length<=100
 of:∀o∈st.of,OkP o.2.2/\o.2.2.length<=100/\∀g∈st.gs,OkG (n+o.2.2.length) g
 ofl:st.of.length<=200
def carryD (st:StepI)(w:Way):List Way:=(zyf st.of (zlb w.1 st.shared) w).filter fun x=>zgq x.1 st.gs
def stepsGo (facts:List (List D)):List (List D)->List Str->List (List D)->List StepI
 |[],_,_=>[]
 |a::r,B,W=>⟨zbt a B,zej a facts B,(W.filter fun g=>zbv g (za9 B a)).map fun g=>(g,zbt g (za9 B a))⟩::stepsGo facts r (za9 B a) (W.filter fun g=> !zbv g (za9 B a))
def stepsD (facts as:List (List D)):List StepI:=stepsGo facts (as.filter fun a=> !zap a) [] ((as.filter zap).filter zjz)
def fol:List StepI->Way->List Way
 |[],w=>[w]
 |s::r,w=>(carryD s w).flatMap (fol r)
def nodes:List StepI->Way->Nat
 |[],_=>1
 |s::r,w=>1+((carryD s w).map (nodes r)).sum
def waysP (facts as:List (List D)):List Way:=if (((as.filter zap).filter fun g=> !zjz g).all holdsA&&(stepsD facts as).all fun s=> !s.of.isEmpty)=true then fol (stepsD facts as) ([],[]) else []
structure zqh (sz:Nat->Nat)(ss:List StepI):Prop where
 zero:sz 0=0
 st:∀k s,ss[k]?=some s->OkSt (sz k) s/\∀o∈s.of,sz k+o.2.2.length=sz (k+1)
 le:∀k,sz k<=500
 len:ss.length<=100
theorem zrx (A:List D)(facts:List (List D))(Bs:List Str):(zej A facts Bs).length<=facts.length:=by
 unfold zej
 have:=List.length_filterMap_le (fun p:List D×Nat=>(zb9 A p.1 []).map fun st=>(zeu Bs st,(p.2,zck Bs st))) facts.zipIdx
 rw [List.length_zipIdx] at this
 exact this
theorem zxs {V:Str->D}{B:List Str}{b:Str}(h:b∈B)(d:Str×D):(zao V B).getD (B.idxOf b) d=(b,V b):=by
 have hl:=List.idxOf_lt_length_of_mem h
 unfold zao
 rw [List.getD,getElem?_map,getElem?_eq_getElem hl]
 show (B[B.idxOf b],V B[B.idxOf b])=(b,V b)
 rw [List.getElem_idxOf hl]
theorem zns (V:Str->D)(B:List Str)(g:List D):zmz (zao V B) (zbt g B)=zao V ((za9 [] g).filter fun b=>decide (b∈B)):=by
 unfold zmz zbt
 rw [map_map]
 unfold zao
 refine map_congr_left fun b hb=>?_
 have:=of_decide_eq_true (mem_filter.mp hb).2
 exact zxs this _
theorem zuk (V:Str->D)(B:List Str)(a:List D):zlb (zao V B) (zbt a B)=((za9 [] a).filter fun b=>decide (b∈B)).map V:=by
 unfold zlb
 rw [zns]
 unfold zao
 rw [map_map]
 rfl
theorem zrb {g:List D}{B:List Str}(h:zbv g B=true):(za9 [] g).filter (fun b=>decide (b∈B))=za9 [] g:=by
 have:=of_decide_eq_true h
 unfold zbt at this
 rw [length_map] at this
 exact filter_eq_self.mpr (List.length_filter_eq_length_iff.mp this)
theorem fill_look {V:Str->D}{B:List Str}{g:List D}(hB:AllBl B)(h:∀b∈za9 [] g,b∈B):g.map (zdh (zao V B))=g.map (zbr V):=
 map_congr_left fun x hx=>zhd hB fun e=>h _ (zdw hx e)
def zyn (W:List (List D))(B:List Str)(S:zan):Bool:=(W.filter fun g=>zbv g B).all fun g=>holdsA (g.map (zdh S))
theorem allow_ok {V:Str->D}{B:List Str}(W:List (List D))(hB:AllBl B):zgq (zao V B) ((W.filter fun g=>zbv g B).map fun g=>(g,zbt g B))=zyn W B (zao V B):=by
 unfold zgq zyn
 rw [List.all_map]
 have key:∀L:List (List D),(∀g∈L,zbv g B=true)->L.all ((fun g=>holdsA (g.1.map (zdh (zmz (zao V B) g.2))))∘fun g=>(g,zbt g B))=L.all fun g=>holdsA (g.map (zdh (zao V B))):=by
  intro L
  induction L with
  |nil=>exact fun _=>rfl
  |cons g r ih=>
   intro h
   rw [all_cons,all_cons,ih fun x hx=>h x (mem_cons_of_mem _ hx)]
   congr 1
   have hg:=zrb (h g mem_cons_self)
   show holdsA (g.map (zdh (zmz (zao V B) (zbt g B))))=holdsA (g.map (zdh (zao V B)))
   have hsub:∀b∈za9 [] g,b∈B:=fun b hb=>by
    rw [<-hg] at hb
    exact of_decide_eq_true (mem_filter.mp hb).2
   rw [zns,hg,fill_look (zcf zcu) (fun b hb=>hb),fill_look hB hsub]
 exact key _ fun g hg=>(mem_filter.mp hg).2
def zdo:List (List D)->List Str->List (List D)->List StepD
 |[],_,_=>[]
 |a::r,B,W=>⟨a,zyn W (za9 B a)⟩::zdo r (za9 B a) (W.filter fun g=> !zbv g (za9 B a))
theorem zmh {facts:List (List D)}{a:List D}{V:Str->D}{B:List Str}{pl:List Nat}(hB:AllBl B){x:Way}(hx:x∈ext facts a (zao V B,pl)):∃V',x.1=zao V' (za9 B a):=by
 obtain ⟨S,pl'⟩:=x
 obtain ⟨i,g,_,hm,_⟩:=mem_ext.mp hx
 obtain ⟨V',_,h2,_⟩:=zed hB hm
 exact ⟨V',h2⟩
theorem zvz (facts:List (List D)):∀(asks:List (List D)) (B:List Str) (W:List (List D)) (V:Str->D) (pl:List Nat),AllBl B->(∀a∈asks,zmx a)->fol (stepsGo facts asks B W) (zao V B,pl)=zhr facts (zdo asks B W) [(zao V B,pl)]
 |[],B,W,V,pl,_,_=>rfl
 |a::r,B,W,V,pl,hB,hG=>by
  have hBa:=zcf (l:=a) hB
  have e1:carryD ⟨zbt a B,zej a facts B,(W.filter fun g=>zbv g (za9 B a)).map fun g=>(g,zbt g (za9 B a))⟩ (zao V B,pl)=zwx facts ⟨a,zyn W (za9 B a)⟩ (zao V B,pl):=by
   unfold carryD zwx
   show (zyf (zej a facts B) (zlb (zao V B) (zbt a B)) (zao V B,pl)).filter _=(ext facts a (zao V B,pl)).filter _
   rw [zuk,zsn hB (hG a mem_cons_self)]
   refine filter_congr fun x hx=>?_
   obtain ⟨V',e⟩:=zmh hB hx
   rw [e]
   exact allow_ok W hBa
  show (carryD ⟨zbt a B,zej a facts B,_⟩ (zao V B,pl)).flatMap (fol (stepsGo facts r (za9 B a) _))=zhr facts (zdo r (za9 B a) _) ([(zao V B,pl)].flatMap (zwx facts ⟨a,zyn W (za9 B a)⟩))
  rw [e1,List.flatMap_singleton,znq]
  have key:∀L:List Way,(∀x∈L,∃V',x.1=zao V' (za9 B a))->L.flatMap (fol (stepsGo facts r (za9 B a) (W.filter fun g=> !zbv g (za9 B a))))=L.flatMap fun w=>zhr facts (zdo r (za9 B a) (W.filter fun g=> !zbv g (za9 B a))) [w]:=by
   intro L
   induction L with
   |nil=>exact fun _=>rfl
   |cons x t ih=>
    intro h
    obtain ⟨V',e⟩:=h x mem_cons_self
    obtain ⟨S,pl'⟩:=x
    have e:S=zao V' (za9 B a):=e
    subst e
    rw [flatMap_cons,flatMap_cons,ih fun y hy=>h y (mem_cons_of_mem _ hy),zvz facts r (za9 B a) _ V' pl' hBa fun c hc=>hG c (mem_cons_of_mem _ hc)]
  exact key _ fun x hx=>zmh hB (mem_filter.mp hx).1
def allG (gs:List (List D))(S:zan):Bool:=gs.all fun g=>holdsA (g.map (zdh S))
theorem ready_iff {g:List D}{B:List Str}:zbv g B=true↔∀b∈za9 [] g,b∈B:=by
 constructor
 ·intro h b hb
  rw [<-zrb h] at hb
  exact of_decide_eq_true (mem_filter.mp hb).2
 ·intro h
  unfold zbv zbt
  rw [length_map,filter_eq_self.mpr fun b hb=>decide_eq_true (h b hb)]
  exact decide_eq_true rfl
theorem zmv {α:Type}(p f:α->Bool):∀l:List α,l.all f=((l.filter p).all f&&(l.filter fun x=> !p x).all f)
 |[]=>rfl
 |x::r=>by
  rw [all_cons,zmv p f r,filter_cons,filter_cons]
  by_cases h:p x=true
  ·rw [if_pos h,if_neg (by simp [h]),all_cons,Bool.and_assoc]
  ·have h':p x=false:=by simpa using h
   rw [if_neg h,if_pos (by simp [h']),all_cons]
   cases f x<;>simp
theorem zjd (S:zan):∀(asks:List (List D)) (B:List Str) (W:List (List D)),(∀g∈W,zbv g B=false)->(∀g∈W,∀b∈za9 [] g,b∈zaj B asks)->((zdo asks B W).all fun s=>s.ok S)=allG W S
 |[],B,W,h1,h2=>by
  have:W=[]:=by
   cases W with
   |nil=>rfl
   |cons g r=>
    have a:=h1 g mem_cons_self
    have b:=ready_iff.mpr (h2 g mem_cons_self)
    rw [show zbv g B=true from b] at a;cases a
  rw [this];rfl
 |a::r,B,W,h1,h2=>by
  show (zyn W (za9 B a) S&&(zdo r (za9 B a) _).all fun s=>s.ok S)=_
  rw [zjd S r (za9 B a) _ (fun g hg=>by simpa using (mem_filter.mp hg).2) (fun g hg=>h2 g (mem_filter.mp hg).1)]
  unfold allG zyn
  exact (zmv (fun g=>zbv g (za9 B a)) _ W).symm
theorem zfy:∀(asks:List (List D)) (B:List Str) (W:List (List D)),(zdo asks B W).map (·.atom)=asks
 |[],_,_=>rfl
 |a::r,B,W=>by
  show a::(zdo r _ _).map (·.atom)=a::r
  rw [zfy r]
theorem zki:∀(asks:List (List D)) (B:List Str) (W:List (List D)) (i:Nat) (s:StepD),(zdo asks B W)[i]?=some s->∃W',s.ok=zyn W' (zaj B (asks.take (i+1)))
 |[],_,_,i,s,h=>by simp [zdo] at h
 |a::r,B,W,0,s,h=>by
  have h:StepD.mk a (zyn W (za9 B a))=s:=Option.some.inj h
  refine ⟨W,?_⟩
  rw [<-h]
  rfl
 |a::r,B,W,i+1,s,h=>by
  have h:(zdo r (za9 B a) (W.filter fun g=> !zbv g (za9 B a)))[i]?=some s:=h
  obtain ⟨W',e⟩:=zki r _ _ i s h
  exact ⟨W',by rw [e];rfl⟩
theorem ok_stable {W:List (List D)}{B:List Str}(V V':Str->D)(C:List Str)(hB:AllBl (B++C))(h:∀b∈B,V' b=V b):zyn W B (zao V' (B++C))=zyn W B (zao V B):=by
 unfold zyn
 have key:∀L:List (List D),(∀g∈L,zbv g B=true)->L.all (fun g=>holdsA (g.map (zdh (zao V' (B++C)))))=L.all fun g=>holdsA (g.map (zdh (zao V B))):=by
  intro L
  induction L with
  |nil=>exact fun _=>rfl
  |cons g r ih=>
   intro hL
   rw [all_cons,all_cons,ih fun x hx=>hL x (mem_cons_of_mem _ hx)]
   congr 2
   have hr:=ready_iff.mp (hL g mem_cons_self)
   refine map_congr_left fun x hx=>?_
   by_cases e:zaq x=true
   ·have hm:=hr _ (zdw hx e)
    have h1:=zfa (V:=V') (B:=B++C) (mem_append_left _ hm)
    have h2:=zfa (V:=V) hm
    rw [zfi e,h1,h2,h _ hm]
   ·have e':zaq x=false:=by simpa using e
    rw [zia (zgt hB e'),zia (zgt (fun b hb=>hB b (mem_append_left _ hb)) e')]
 exact key _ fun g hg=>(mem_filter.mp hg).2
theorem zxt {facts asks:List (List D)}{W:List (List D)}(hG:∀a∈asks,zmx a)(h1:∀g∈W,zbv g []=false)(h2:∀g∈W,∀b∈za9 [] g,b∈zaj [] asks):fol (stepsGo facts asks [] W) ([],[])=(zgz facts asks [([],[])]).filter fun w=>allG W w.1:=by
 have e0:=zvz facts asks [] W (fun _=>.non) [] zcu hG
 have e1:=znp facts (zdo asks [] W) [] [([],[])] zcu (fun w hw=>⟨fun _=>.non,by rw [mem_singleton.mp hw];rfl⟩) (fun i s hs V V' C hC h=>by
  obtain ⟨W',e⟩:=zki asks [] W i s hs
  rw [List.map_take,zfy] at hC h⊢
  rw [e]
  exact ok_stable V V' C hC h)
 rw [zfy] at e1
 refine (show fol (stepsGo facts asks [] W) ([],[])=_ from e0).trans (e1.trans ?_)
 refine filter_congr fun w _=>?_
 exact zjd w.1 asks [] W h1 h2
theorem zno (facts:List (List D)):∀(asks:List (List D)) (B:List Str) (W:List (List D)) (ws:List Way),AllBl B->(∀a∈asks,zmx a)->(∀w∈ws,∃V,w.1=zao V B)->((stepsGo facts asks B W).all fun s=> !s.of.isEmpty)=false->zgz facts asks ws=[]
 |[],_,_,_,_,_,_,h=>by cases h
 |a::r,B,W,ws,hB,hG,hw,h=>by
  show zgz facts r (ws.flatMap (ext facts a))=[]
  by_cases ho:zej a facts B=[]
  ·have:ws.flatMap (ext facts a)=[]:=by
    rw [List.flatMap_eq_nil_iff]
    intro w hw'
    obtain ⟨V,e⟩:=hw w hw'
    obtain ⟨S,pl⟩:=w
    have e:S=zao V B:=e
    subst e
    rw [<-zsn hB (hG a mem_cons_self),ho]
    rfl
   rw [this,zqr]
  ·refine zno facts r (za9 B a) (W.filter fun g=> !zbv g (za9 B a)) _ (zcf hB) (fun c hc=>hG c (mem_cons_of_mem _ hc)) (fun x hx=>?_) ?_
   ·obtain ⟨w,hw',hx⟩:=mem_flatMap.mp hx
    obtain ⟨V,e⟩:=hw w hw'
    obtain ⟨S,pl⟩:=w
    have e:S=zao V B:=e
    subst e
    exact zmh hB hx
   ·have h:((!(zej a facts B).isEmpty)&&(stepsGo facts r (za9 B a) (W.filter fun g=> !zbv g (za9 B a))).all fun s=> !s.of.isEmpty)=false:=h
    have hne:(!(zej a facts B).isEmpty)=true:=by
     cases hq:zej a facts B with
     |nil=>exact absurd hq ho
     |cons _ _=>rfl
    rw [hne,Bool.true_and] at h
    exact h
theorem fill_none {g:List D}{S:zan}(hS:∀p∈S,zaq (.str p.1)=true)(h:zjz g=false):g.map (zdh S)=g:=by
 have hb:za9 [] g=[]:=by
  unfold zjz at h
  cases e:za9 [] g with
  |nil=>rfl
  |cons x r=>rw [e] at h;cases h
 have:∀x∈g,zdh S x=x:=fun x hx=>by
  have hx':zaq x=false:=by
   cases e:zaq x with
   |false=>rfl
   |true=>
    have:=zdw (B:=[]) hx e
    rw [hb] at this;cases this
  refine zia ?_
  cases q:zpp S x with
  |false=>rfl
  |true=>
   obtain ⟨p,hp,e⟩:=any_eq_true.mp q
   have e:D.str p.1=x:=of_decide_eq_true e
   have:=hS p hp
   rw [e,hx'] at this;cases this
 exact (map_congr_left this).trans (List.map_id' g)
theorem waysP_spec {facts as:List (List D)}(hG:∀a∈as,zap a=false->zmx a)(h2:∀g∈as,zap g=true->∀b∈za9 [] g,b∈zaj [] (as.filter fun a=> !zap a)):waysP facts as=(zgz facts (as.filter fun a=> !zap a) [([],[])]).filter fun w=>allG (as.filter zap) w.1:=by
 have hG':∀a∈as.filter fun a=> !zap a,zmx a:=fun a ha=>hG a (mem_filter.mp ha).1 (by simpa using (mem_filter.mp ha).2)
 have hW1:∀g∈(as.filter zap).filter zjz,zbv g []=false:=fun g hg=>by
  have ht:=(mem_filter.mp hg).2
  cases e:zbv g [] with
  |false=>rfl
  |true=>
   have:=ready_iff.mp e
   have hb:za9 [] g=[]:=by
    cases q:za9 [] g with
    |nil=>rfl
    |cons x r=>have:=this x (by rw [q];exact mem_cons_self);cases this
   unfold zjz at ht
   rw [hb] at ht;cases ht
 have hW2:∀g∈(as.filter zap).filter zjz,∀b∈za9 [] g,b∈zaj [] (as.filter fun a=> !zap a):=fun g hg=>by
  have:=(mem_filter.mp hg).1
  exact h2 g (mem_filter.mp this).1 (mem_filter.mp this).2
 have hf:=zxt (facts:=facts) hG' hW1 hW2
 have hsp:∀w∈zgz facts (as.filter fun a=> !zap a) [([],[])],∀p∈w.1,zaq (.str p.1)=true:=fun w hw p hp=>by
  obtain ⟨S,pl⟩:=w
  obtain ⟨V,rfl,_⟩:=(zhc hG').mp hw
  obtain ⟨b,hb,rfl⟩:=mem_map.mp hp
  exact zhn zcu b hb
 have hsplit:∀w∈zgz facts (as.filter fun a=> !zap a) [([],[])],allG (as.filter zap) w.1=(allG ((as.filter zap).filter zjz) w.1&&((as.filter zap).filter fun g=> !zjz g).all holdsA):=fun w hw=>by
  unfold allG
  rw [zmv zjz]
  congr 1
  have:∀L:List (List D),(∀g∈L,zjz g=false)->(L.all fun g=>holdsA (g.map (zdh w.1)))=L.all holdsA:=by
   intro L
   induction L with
   |nil=>exact fun _=>rfl
   |cons g r ih=>
    intro h
    rw [all_cons,all_cons,ih fun x hx=>h x (mem_cons_of_mem _ hx),fill_none (hsp w hw) (h g mem_cons_self)]
  exact this _ fun g hg=>by simpa using (mem_filter.mp hg).2
 rw [filter_congr hsplit]
 unfold waysP
 by_cases c1:((as.filter zap).filter fun g=> !zjz g).all holdsA=true
 ·by_cases c2:((stepsD facts as).all fun s=> !s.of.isEmpty)=true
  ·rw [if_pos (by rw [c1,c2];rfl)]
   unfold stepsD
   rw [hf]
   refine filter_congr fun w _=>?_
   rw [c1,Bool.and_true]
  ·have c2':((stepsD facts as).all fun s=> !s.of.isEmpty)=false:=by simpa using c2
   rw [if_neg (by rw [c2'];simp),zno facts _ [] _ _ zcu hG' (fun w hw=>⟨fun _=>.non,by rw [mem_singleton.mp hw];rfl⟩) c2']
   rfl
 ·have c1':((as.filter zap).filter fun g=> !zjz g).all holdsA=false:=by simpa using c1
  rw [if_neg (by rw [c1'];simp),List.filter_eq_nil_iff.mpr fun w _=>by rw [c1',Bool.and_false];exact Bool.false_ne_true]
def OkGd (g:List D):Prop:=OkA g/\∃r x y,g=[.str r,x,y]/\zaq (.str r)=false
theorem zvh {g:List D}{B:List Str}:∀i∈zbt g B,i<B.length:=fun i hi=>by
 obtain ⟨b,hb,rfl⟩:=mem_map.mp hi
 exact List.idxOf_lt_length_of_mem (of_decide_eq_true (mem_filter.mp hb).2)
theorem zvi (g:List D)(B:List Str):(zbt g B).length<=g.length:=by
 unfold zbt
 rw [length_map]
 have h1:=length_filter_le (fun b=>decide (b∈B)) (za9 [] g)
 have h2:=zd9 g []
 rw [length_nil] at h2
 omega
theorem step_ok {facts:List (List D)}{a:List D}{B:List Str}{W:List (List D)}(hF:∀g∈facts,OkF g)(hz:facts.length<=200)(ha:OkA a)(hW:∀g∈W,OkGd g):
  OkSt B.length ⟨zbt a B,zej a facts B,(W.filter fun g=>zbv g (za9 B a)).map fun g=>(g,zbt g (za9 B a))⟩/\∀o∈zej a facts B,B.length+o.2.2.length=(za9 B a).length:=by
 have key:∀o∈zej a facts B,OkP o.2.2/\o.2.2.length<=100/\B.length+o.2.2.length=(za9 B a).length:=fun o ho=>by
  unfold zej at ho
  obtain ⟨⟨g,i⟩,hg,e⟩:=List.mem_filterMap.mp ho
  have hgm:g∈facts:=mem_of_getElem? (List.mem_zipIdx_iff_getElem?.mp hg)
  cases hm:zb9 a g [] with
  |none=>
   have e:(zb9 a g []).map (fun st=>(zeu B st,(i,zck B st)))=some o:=e
   rw [hm] at e;cases e
  |some st=>
   have e:(zb9 a g []).map (fun st=>(zeu B st,(i,zck B st)))=some o:=e
   rw [hm] at e
   have e:=Option.some.inj e
   rw [<-e]
   have hsc:=zvw hm (fun t ht=>nomatch ht) (hF g hgm).2
   have hln:=zsb hm
   have hal:=ha.len
   obtain ⟨U,_,hst,_⟩:=zed (V:=fun _=>.non) (B:=[]) zcu hm
   have hst:st=zao U (za9 [] a):=hst
   refine ⟨fun p hp=>?_,?_,?_⟩
   ·have hp1:=(mem_filter.mp (show p∈zck B st from hp)).1
    refine ⟨hsc p hp1,?_⟩
    rw [hst] at hp1
    obtain ⟨b,hb,rfl⟩:=mem_map.mp hp1
    exact zcf zcu b hb
   ·have:=length_filter_le (fun p:Str×D=> !decide (p.1∈B)) st
    show (zck B st).length<=100
    unfold zck
    omega
   ·show B.length+(zck B st).length=_
    have e2:(zck B st).length=((za9 [] a).filter fun b=> !decide (b∈B)).length:=by
     unfold zck
     rw [hst,zib U _ (fun b=> !decide (b∈B))]
     unfold zao
     rw [length_map]
    rw [e2,zcz a B,length_append]
 refine ⟨⟨zvh,Nat.le_trans (zvi a B) ha.len,fun o ho=>?_,Nat.le_trans (zrx a facts B) hz⟩,fun o ho=>(key o ho).2.2⟩
 obtain ⟨k1,k2,k3⟩:=key o ho
 refine ⟨k1,k2,fun g hg=>?_⟩
 obtain ⟨g0,hg0,rfl⟩:=mem_map.mp hg
 obtain ⟨hga,r,x,y,e,hr⟩:=hW g0 (mem_filter.mp hg0).1
 refine ⟨⟨r,x,y,e,(hga.sc x (by rw [e];simp)).1,(hga.sc y (by rw [e];simp)).1,hr⟩,?_,Nat.le_trans (zvi g0 _) hga.len⟩
 rw [k3]
 exact zvh
theorem zvg {facts:List (List D)}(hF:∀g∈facts,OkF g)(hz:facts.length<=200):∀(asks:List (List D)) (B:List Str) (W:List (List D)),(∀a∈asks,OkA a)->(∀g∈W,OkGd g)->∀(k:Nat) (s:StepI),(stepsGo facts asks B W)[k]?=some s->
  OkSt (zaj B (asks.take k)).length s/\∀o∈s.of,(zaj B (asks.take k)).length+o.2.2.length=(zaj B (asks.take (k+1))).length
 |[],_,_,_,_,k,s,h=>by simp [stepsGo] at h
 |a::r,B,W,hA,hW,0,s,h=>by
  have h:=Option.some.inj h
  rw [<-h]
  exact step_ok hF hz (hA a mem_cons_self) hW
 |a::r,B,W,hA,hW,k+1,s,h=>by
  have h:(stepsGo facts r (za9 B a) (W.filter fun g=> !zbv g (za9 B a)))[k]?=some s:=h
  exact zvg hF hz r (za9 B a) _ (fun c hc=>hA c (mem_cons_of_mem _ hc)) (fun g hg=>hW g (mem_filter.mp hg).1) k s h
theorem zex (facts:List (List D)):∀(asks:List (List D)) (B:List Str) (W:List (List D)),(stepsGo facts asks B W).length=asks.length
 |[],_,_=>rfl
 |a::r,B,W=>congrArg (· +1) (zex facts r _ _)
theorem run_ok {facts as:List (List D)}(hF:∀g∈facts,OkF g)(hz:facts.length<=200)(hA:∀a∈as,OkA a)(hl:as.length<=100)(hg:∀g∈as,zap g=true->OkGd g)(hb:∀k,(zaj [] ((as.filter fun a=> !zap a).take k)).length<=500):
  zqh (fun k=>(zaj [] ((as.filter fun a=> !zap a).take k)).length) (stepsD facts as):=by
 refine ⟨rfl,fun k s h=>?_,hb,?_⟩
 ·exact zvg hF hz _ [] _ (fun a ha=>hA a (mem_filter.mp ha).1) (fun g hg'=>hg g (mem_filter.mp (mem_filter.mp hg').1).1 (mem_filter.mp (mem_filter.mp hg').1).2) k s h
 ·unfold stepsD
  rw [zex]
  exact Nat.le_trans (length_filter_le _ _) hl
def pw (F:Nat):Nat->Nat
 |0=>1
 |n+1=>1+F*pw F n
theorem sum_le {α:Type}(f:α->Nat)(c:Nat):∀l:List α,(∀x∈l,f x<=c)->(l.map f).sum<=l.length*c
 |[],_=>Nat.zero_le _
 |x::r,h=>by
  rw [map_cons,List.sum_cons,length_cons,Nat.succ_mul]
  have h1:=sum_le f c r fun y hy=>h y (mem_cons_of_mem _ hy)
  have h2:=h x mem_cons_self
  omega
theorem carry_le (s:StepI)(w:Way):(carryD s w).length<=s.of.length:=by
 unfold carryD zyf
 refine Nat.le_trans (length_filter_le _ _) ?_
 rw [length_map]
 exact length_filter_le _ _
theorem zvt {F:Nat}:∀(ss:List StepI) (w:Way),(∀s∈ss,s.of.length<=F)->nodes ss w<=pw F ss.length
 |[],_,_=>Nat.le_refl _
 |s::r,w,h=>by
  show 1+((carryD s w).map (nodes r)).sum<=1+F*pw F r.length
  have h1:=sum_le (nodes r) (pw F r.length) (carryD s w) fun x _=>zvt r x fun t ht=>h t (mem_cons_of_mem _ ht)
  have h2:=Nat.le_trans (carry_le s w) (h s mem_cons_self)
  have h3:=Nat.mul_le_mul_right (pw F r.length) h2
  omega
theorem znm {facts:List (List D)}:∀(asks:List (List D)) (B:List Str) (W:List (List D)),∀s∈stepsGo facts asks B W,s.of.length<=facts.length
 |[],_,_,s,h=>by cases h
 |a::r,B,W,s,h=>by
  rcases mem_cons.mp h with z|z
  ·rw [z];exact zrx a facts B
  ·exact znm r _ _ s z
theorem few_nodes {facts as:List (List D)}(hz:facts.length<=200)(h3:(as.filter fun a=> !zap a).length<=3):nodes (stepsD facts as) ([],[])<sizeLine:=by
 have h1:=zvt (F:=200) (stepsD facts as) ([],[]) fun s hs=>Nat.le_trans (znm _ _ _ s hs) hz
 have hl:(stepsD facts as).length<=3:=by unfold stepsD;rw [zex];exact h3
 have h2:∀n,n<=3->pw 200 n<=8100000:=fun n hn=>by
  have:n=0\/n=1\/n=2\/n=3:=by omega
  rcases this with rfl|rfl|rfl|rfl<;>decide
 exact Nat.lt_of_le_of_lt (Nat.le_trans h1 (h2 _ hl)) (show 8100000<sizeLine by decide)
end O5
namespace FL
open PySem L2
def offN (a:List D)(B:List Str)(l:List (List D×Nat)):List zfq:=l.filterMap fun p=>(zb9 a p.1 []).map fun st=>(zeu B st,(p.2,zck B st))
theorem zlw:∀(l:List (List D×Nat)) (s:zbu),let t:=l.foldl (fun s p=>zdc s p.2 p.1) s
  t.asker=s.asker/\t.shared=s.shared/\t.gs=s.gs/\t.of=s.of++offN s.asker (zew s) l
 |[],s=>⟨rfl,rfl,rfl,(append_nil _).symm⟩
 |p::r,s=>by
  obtain ⟨h1,h2,h3,h4⟩:=zlw r (zdc s p.2 p.1)
  have e:(zdc s p.2 p.1).asker=s.asker/\(zdc s p.2 p.1).shared=s.shared/\(zdc s p.2 p.1).gs=s.gs/\(zdc s p.2 p.1).of=s.of++(match zb9 s.asker p.1 [] with|some st=>[(zeu (zew s) st,(p.2,zck (zew s) st))]|none=>[]):=by
   unfold zdc
   cases hm:zb9 s.asker p.1 [] with
   |none=>exact ⟨rfl,rfl,rfl,(append_nil _).symm⟩
   |some st=>exact ⟨rfl,rfl,rfl,rfl⟩
  have en:zew (zdc s p.2 p.1)=zew s:=by unfold zew;rw [e.2.1]
  refine ⟨h1.trans e.1,h2.trans e.2.1,h3.trans e.2.2.1,h4.trans ?_⟩
  rw [e.2.2.2,e.1,en,append_assoc]
  congr 1
  unfold offN
  rw [List.filterMap_cons]
  cases hm:zb9 s.asker p.1 [] with
  |none=>rfl
  |some st=>rfl
def nwOk (s:zbu):Prop:=decide ((0:Int)<=s.newest)= !s.of.isEmpty
theorem nw_fold:∀(l:List (List D×Nat)) (s:zbu),nwOk s->nwOk (l.foldl (fun s p=>zdc s p.2 p.1) s)
 |[],s,h=>h
 |p::r,s,h=>by
  refine nw_fold r (zdc s p.2 p.1) ?_
  unfold zdc
  cases hm:zb9 s.asker p.1 [] with
  |none=>exact h
  |some st=>
   show decide ((0:Int)<=((p.2:Nat):Int))= !(s.of++[_]).isEmpty
   simp
theorem zuf {a g:List D}{st:zan}(h:zb9 a g []=some st):∀p∈st,p.1∈za9 [] a:=fun p hp=>by
 obtain ⟨U,_,rfl,_⟩:=zed (V:=fun _=>.non) (B:=[]) zcu h
 obtain ⟨b,hb,rfl⟩:=mem_map.mp hp
 exact hb
theorem names_sh (a:List D)(B:List Str):(shOf a B).map (·.1)=(za9 [] a).filter fun b=>decide (b∈B):=by
 unfold shOf
 rw [map_map]
 exact List.map_id' _
theorem slots_sh (a:List D)(B:List Str):(shOf a B).map (·.2)=zbt a B:=by
 unfold shOf zbt
 rw [map_map]
 rfl
theorem mem_sh {a:List D}{B:List Str}{b:Str}(h:b∈za9 [] a):decide (b∈(za9 [] a).filter fun b=>decide (b∈B))=decide (b∈B):=
 decide_eq_decide.mpr ⟨fun w=>of_decide_eq_true (mem_filter.mp w).2,fun z=>mem_filter.mpr ⟨h,decide_eq_true z⟩⟩
theorem zxg (a:List D)(B:List Str)(facts:List (List D)):offN a ((za9 [] a).filter fun b=>decide (b∈B)) (facts.zipIdx 0)=zej a facts B:=by
 unfold offN zej
 have:∀l:List (List D×Nat),l.filterMap (fun p=>(zb9 a p.1 []).map fun st=>(zeu ((za9 [] a).filter fun b=>decide (b∈B)) st,(p.2,zck ((za9 [] a).filter fun b=>decide (b∈B)) st)))=l.filterMap fun p=>(zb9 a p.1 []).map fun st=>(zeu B st,(p.2,zck B st)):=by
  intro l
  induction l with
  |nil=>rfl
  |cons p r ih=>
   rw [List.filterMap_cons,List.filterMap_cons,ih]
   cases hm:zb9 a p.1 [] with
   |none=>rfl
   |some st=>
    have hn:=zuf hm
    have e1:zeu ((za9 [] a).filter fun b=>decide (b∈B)) st=zeu B st:=by
     unfold zeu
     rw [filter_congr fun q hq=>mem_sh (hn q hq)]
    have e2:zck ((za9 [] a).filter fun b=>decide (b∈B)) st=zck B st:=by
     unfold zck
     refine filter_congr fun q hq=>?_
     rw [mem_sh (hn q hq)]
    show (_,_)::_=(_,_)::_
    rw [e1,e2]
 exact this _
def zgh (s:zbu):O5.StepI:=⟨zhu s,s.of,s.gs⟩
theorem step_old (a:List D)(B:List Str)(W facts:List (List D)):zgh (zbz (znn a B W) 0 facts)=⟨zbt a B,zej a facts B,(W.filter fun g=>zbv g (za9 B a)).map fun g=>(g,zbt g (za9 B a))⟩/\nwOk (zbz (znn a B W) 0 facts):=by
 obtain ⟨h1,h2,h3,h4⟩:=zlw (facts.zipIdx 0) (znn a B W)
 refine ⟨?_,nw_fold _ _ (show decide ((0:Int)<= -1)= !([]:List zfq).isEmpty from rfl)⟩
 have e:(zbz (znn a B W) 0 facts).of=zej a facts B:=by
  unfold zbz
  rw [h4]
  show []++offN a ((shOf a B).map (·.1)) _=_
  rw [nil_append,names_sh,zxg]
 unfold zgh zhu
 rw [e]
 unfold zbz
 rw [h2,h3]
 show O5.StepI.mk ((shOf a B).map (·.2)) _ _=_
 rw [slots_sh]
 rfl
theorem zjb (facts:List (List D)):∀(asks:List (List D)) (B:List Str) (W:List (List D)),((stepsGo asks B W).map fun s=>zbz s 0 facts).map zgh=O5.stepsGo facts asks B W/\∀s∈(stepsGo asks B W).map fun s=>zbz s 0 facts,nwOk s
 |[],_,_=>⟨rfl,fun s h=>nomatch h⟩
 |a::r,B,W=>by
  obtain ⟨h1,h2⟩:=zjb facts r (za9 B a) (W.filter fun g=> !zbv g (za9 B a))
  obtain ⟨h3,h4⟩:=step_old a B W facts
  refine ⟨?_,fun s hs=>?_⟩
  ·show zgh _::List.map zgh (List.map _ (stepsGo r _ _))=_::O5.stepsGo facts r _ _
   rw [h1,h3]
  ·rcases mem_cons.mp hs with z|z
   ·rw [z];exact h4
   ·exact h2 s z
theorem carry_old (s:zbu)(w:Way):zjw s w 0=(O5.carryD (zgh s) w).reverse:=by
 unfold zjw O5.carryD zyf
 rw [tw_all fun o _=>(by unfold FL.fresh;exact decide_eq_true (by omega)),List.map_reverse,List.filter_reverse]
 rfl
theorem lowD_zero {lm:zgg}(h:lm.fresh=0)(w:Way):lowD lm w=0:=by
 unfold lowD
 rw [h]
 split<;>rfl
theorem zpr {lm:zgg}(h:lm.fresh=0):∀(n:Nat) (w:Way),w.2.length+n=lm.steps.length->zps lm n w=O5.fol ((lm.steps.map zgh).drop w.2.length) w/\zea lm n w=O5.nodes ((lm.steps.map zgh).drop w.2.length) w
 |0,w,hn=>by
  rw [List.drop_eq_nil_of_le (by rw [length_map];omega)]
  exact ⟨rfl,rfl⟩
 |n+1,w,hn=>by
  have hlt:w.2.length<lm.steps.length:=by omega
  have hs:=getElem?_eq_getElem hlt
  have hc:zce lm w=(O5.carryD (zgh lm.steps[w.2.length]) w).reverse:=by
   unfold zce
   rw [hs,lowD_zero h]
   exact carry_old _ w
  have hl:∀x∈O5.carryD (zgh lm.steps[w.2.length]) w,x.2.length=w.2.length+1:=fun x hx=>zhl (lm:=lm) (by rw [hc];exact mem_reverse.mpr hx)
  have ed:(lm.steps.map zgh).drop w.2.length=zgh lm.steps[w.2.length]::(lm.steps.map zgh).drop (w.2.length+1):=by
   rw [List.drop_eq_getElem_cons (by rw [length_map];exact hlt),List.getElem_map]
  rw [ed]
  constructor
  ·show (zce lm w).reverse.flatMap (zps lm n)=(O5.carryD _ w).flatMap (O5.fol _)
   rw [hc,List.reverse_reverse]
   have:∀L:List Way,(∀x∈L,x.2.length=w.2.length+1)->L.flatMap (zps lm n)=L.flatMap (O5.fol ((lm.steps.map zgh).drop (w.2.length+1))):=by
    intro L
    induction L with
    |nil=>exact fun _=>rfl
    |cons x r ih=>
     intro hx
     have e:=hx x mem_cons_self
     rw [flatMap_cons,flatMap_cons,ih fun y hy=>hx y (mem_cons_of_mem _ hy),(zpr h n x (by omega)).1,e]
   exact this _ hl
  ·show 1+((zce lm w).map (zea lm n)).sum=1+((O5.carryD _ w).map (O5.nodes _)).sum
   rw [hc,List.map_reverse,List.sum_reverse]
   congr 2
   refine map_congr_left fun x hx=>?_
   rw [(zpr h n x (by have:=hl x hx;omega)).2,hl x hx]
theorem all_old {ss:List zbu}(h:∀s∈ss,nwOk s):(ss.all fun s=>decide ((0:Int)<=s.newest))=(ss.map zgh).all fun s=> !s.of.isEmpty:=by
 induction ss with
 |nil=>rfl
 |cons s r ih=>
  rw [all_cons,map_cons,all_cons,ih fun x hx=>h x (mem_cons_of_mem _ hx)]
  congr 1
  exact h s mem_cons_self
theorem waysL_eq (as facts:List (List D)):zkr as facts=O5.waysP facts as:=by
 obtain ⟨h1,h2⟩:=zjb facts (as.filter fun a=> !zap a) [] ((as.filter zap).filter zjz)
 have e1:(zfl (zet as) facts).steps.map zgh=O5.stepsD facts as:=h1
 have e2:=all_old (ss:=(zfl (zet as) facts).steps) h2
 rw [e1] at e2
 have hb:(zfl (zet as) facts).barred=zih as:=rfl
 have hf:(zfl (zet as) facts).fresh=0:=rfl
 unfold zkr zfj O5.waysP
 generalize zfl (zet as) facts=lm at e1 e2 hb hf
 rw [hb,hf,e2]
 unfold zih
 generalize ((as.filter zap).filter fun g=> !zjz g).all holdsA=c1
 cases c1 with
 |false=>simp
 |true=>
  have e0:((!true)||(decide (lm.last<0)&&decide ((0:Int)<((0:Nat):Int))))=false:=by simp
  rw [if_neg (by rw [e0];exact Bool.false_ne_true),Bool.true_and]
  split
  ·rw [List.flatMap_singleton]
   have:=(zpr hf (zcw lm ([],[])) ([],[]) (by unfold zcw;simp)).1
   rw [this]
   show O5.fol ((lm.steps.map zgh).drop 0) _=_
   rw [List.drop_zero,e1]
  ·rfl
theorem run_okL {facts as:List (List D)}(hF:∀g∈facts,OkF g)(hz:facts.length<=200)(hA:∀a∈as,OkA a)(hl:as.length<=100)(hg:∀g∈as,zap g=true->O5.OkGd g)(hb:∀k,(zaj [] ((as.filter fun a=> !zap a).take k)).length<=500):
  zqh (fun k=>(zaj [] ((as.filter fun a=> !zap a).take k)).length) (zfl (zet as) facts).steps:=by
 obtain ⟨h1,_⟩:=zjb facts (as.filter fun a=> !zap a) [] ((as.filter zap).filter zjz)
 have e1:(zfl (zet as) facts).steps.map zgh=O5.stepsD facts as:=h1
 have R:=O5.run_ok hF hz hA hl hg hb
 refine ⟨R.zero,fun k s hs=>?_,R.le,?_⟩
 ·have ho:(O5.stepsD facts as)[k]?=some (zgh s):=by rw [<-e1,getElem?_map,hs];rfl
  obtain ⟨q1,q2⟩:=R.st k _ ho
  refine ⟨⟨q1.sh,?_,q1.of,Nat.le_trans q1.ofl (by decide)⟩,q2⟩
  have:=q1.shl
  unfold zgh zhu at this
  rw [length_map] at this
  exact this
 ·have:=R.len
  rw [<-e1,length_map] at this
  exact this
theorem zxv {facts as:List (List D)}(hz:facts.length<=200)(h3:(as.filter fun a=> !zap a).length<=3):zea (zfl (zet as) facts) (zfl (zet as) facts).steps.length ([],[])<sizeLine:=by
 obtain ⟨h1,_⟩:=zjb facts (as.filter fun a=> !zap a) [] ((as.filter zap).filter zjz)
 have e1:(zfl (zet as) facts).steps.map zgh=O5.stepsD facts as:=h1
 have:=(zpr (lm:=zfl (zet as) facts) rfl (zfl (zet as) facts).steps.length ([],[]) (by simp)).2
 rw [this]
 show O5.nodes ((List.map zgh _).drop 0) _<_
 rw [List.drop_zero,e1]
 exact O5.few_nodes hz h3
end FL
namespace L2
open PySem PySem.Spec PyProof.Rows
section
variable {X:Cx}
def rDcp:List V->Hp->VK->Prop:=fun xs H Q=>∃a kvs,xs=[.ref a]/\Rd H a (.dK kvs)/\∀p,H p=none->Q (.ref p) (upd H p (.dK kvs))
theorem zsu:zmy X (.type "dict") rDcp:=by
 intro pins s σ H xs us Q I r h
 obtain ⟨a,kvs,rfl,e,q⟩:=h
 obtain ⟨u,rfl,ru⟩:=zkc r
 cases ru
 obtain ⟨z,hd,vs,rel,dd⟩:=zlc I.hok e
 have hl:=rel.length
 refine kt_call_dict hd dd (by omega) fun h' hd' sb=>?_
 refine ⟨.ref s.heap.objs.size,_,I.laid (a:=s.heap.objs.size) (o:=.dK kvs) (t':=s.toks) (fun b o e=>?_) (Nat.le_refl _) (zwf z (beq_eq_false_iff_ne.mpr (Ne.symm (Nat.ne_of_lt I.big))) rel hd'),rfl,q _ (I.hok.fresh (Nat.le_refl _))⟩
 exact (sb.2 b (Nat.ne_of_lt (Heap.lt_size e))).trans (Heap.get?_push_of_some _ e)
end
end L2
namespace FL
open PySem L2
section
variable {X:Cx}{e:Expr}{te:TE}{p pos:Pos}
theorem pe_dictD (B:Bl X.mg)(h:PE X e te)(hg:Gl X "dict":=by rfl)(he:starEach [e] X.env=(false,eval e X.env)::starEach [] X.env:=by rfl):PE X (.Call (.Name "dict" p) [e] [] pos) (tCB rDcp (zbp te zev)):=
 zhz zsu hg B.dict PyProof.Rows.boot_dict (zab h zah he) (he:=he)
end
def xyz:List D:=[.str "X",.str "Xy",.str "Z"]
structure BlOk (as:List (List D)):Prop where
 ne:∀a∈as,a≠[]/\zaq (a.headD .non)=false
 sc:∀a∈as,∀x∈a,x.sc=true
 bl:∀a∈as,∀x∈a.tail,zaq x=decide (x∈xyz)
 few:as.length<=100/\∀a∈as,a.length<=10
theorem addB_cond (B:List Str)(x:D)(hx:x.sc=true):zgv B x=if (zaq x&& !decide (x∈B.map D.str))=true then B++[x.name] else B:=by
 unfold zgv
 have:decide (x∈B.map D.str)=decide (x.name∈B)\/zaq x=false:=by
  by_cases e:zaq x=true
  ·left
   rw [zfi e]
   refine decide_eq_decide.mpr ⟨fun h=>?_,fun h=>mem_map.mpr ⟨_,h,rfl⟩⟩
   obtain ⟨y,hy,e2⟩:=mem_map.mp h
   have:y=x.name:=by injection e2
   rw [<-this];exact hy
  ·right;simpa using e
 rcases this with e|e
 ·rw [e]
 ·simp [e]
theorem zsw (as:List (List D))(j:Nat){a:List D}(h:as[j]?=some a):zaj [] (as.take (j+1))=za9 (zaj [] (as.take j)) a:=by
 unfold zaj
 rw [take_add_one,h,foldl_append]
 rfl
theorem zqb {B:List Str}{a:List D}(h:a≠[])(hb:zaq (a.headD .non)=false):za9 B a=za9 B a.tail:=by
 cases a with
 |nil=>exact absurd rfl h
 |cons x r=>
  show za9 (zgv B x) r=za9 B r
  rw [zqe (show zaq x=false from hb)]
theorem zqc {B:List Str}{l:List D}{j:Nat}{x:D}(h:l[j]?=some x):za9 B (l.take (j+1))=zgv (za9 B (l.take j)) x:=by
 unfold za9
 rw [take_add_one,h,foldl_append]
 rfl
def OkFs (fs:List (List D)):Prop:=(∀f∈fs,OkF f/\(∃r,f.headD .non=.str r)/\f.length<=10)/\fs.length<=100
def RSame:List D->D->Prop:=fun ds d=>∃fs,ds=[zbg fs,zbg fs]/\OkFs fs/\d=.bl true
theorem zjr {a b:List D}(ha:∀x∈a,x.sc=true)(hb:∀x∈b,x.sc=true):zgw (.tup a) (.tup b)=true/\(D.tup a).dep<=40:=by
 have h:∀a b:List D,(∀x∈a,x.sc=true)->(∀x∈b,x.sc=true)->zld a b=true/\D.deps a<=0:=by
  intro a
  induction a with
  |nil=>
   intro b _ _
   cases b<;>exact ⟨rfl,Nat.le_refl _⟩
  |cons x r ih=>
   intro b hx hb
   have hr:=ih b.tail (fun y hy=>hx y (mem_cons_of_mem _ hy)) (fun y hy=>hb y (List.mem_of_mem_tail hy))
   have hx0:=hx x mem_cons_self
   have dx:x.dep=0:=by
    cases x with
    |int _=>rfl
    |str _=>rfl
    |_=>simp [D.sc] at hx0
   have hd:D.deps (x::r)<=0:=by
    show Nat.max x.dep (D.deps r)<=0
    rw [dx]
    exact Nat.max_le.mpr ⟨Nat.le_refl _,hr.2⟩
   cases b with
   |nil=>exact ⟨rfl,hd⟩
   |cons y t=>
    refine ⟨?_,hd⟩
    show (zgw x y&&zld r t)=true
    rw [(zfe hx0 (hb y mem_cons_self)).1]
    exact hr.1
 obtain ⟨h1,h2⟩:=h a b ha hb
 exact ⟨h1,Nat.le_trans (show (D.tup a).dep<=D.deps a+1 from Nat.le_refl _) (by omega)⟩
theorem isFact_ok {f:List D}(h:OkF f)(hr:∃r,f.headD .non=.str r):znz (.tup f)=true:=by
 cases f with
 |nil=>exact absurd rfl h.1
 |cons x r=>
  obtain ⟨s,e⟩:=hr
  have e:x=.str s:=e
  subst e
  show (isS (.str s)&&((D.str s::r).all thing))=true
  rw [all_eq_true.mpr fun y hy=>zvd (h.2 y hy)]
  rfl
def zxo:List Nat->List Nat->Bool
 |a::r,b::t=>if a=b then zxo r t else decide (a<b)
 |_,_=>false
def zgk (pl:List Nat):D:=.tup (pl.map fun n=>D.int (n:Nat))
def RAhead:List D->D->Prop:=fun ds d=>∃p q,ds=[zgk p,zgk q]/\p.length=q.length/\p.length<=100/\d=.bl (zxo p q)
def zhk (S:zan)(a:List D):List D:=a.headD .non::a.tail.map (zdh S)
def zqg:List Da->D->Prop:=fun xs d=>∃a S,xs=[.d (.tup a),.k (zbk [] (zbx S))]/\a≠[]/\(∀x∈a,x.sc=true)/\(∀p∈S,p.2.sc=true)/\a.length<=10/\d=.tup (zhk S a)
def zgy (fs:List (List D))(a:List D):Bool:=if a.headD .non=.str "unlike" then (match a with|[_,x,y]=> !decide (x=y)|_=>false) else if a.headD .non=.str "less" then (match a with|[_,.int i,.int j]=>decide (i<j)|_=>false) else decide (a∈fs)
def OkT (a:List D):Prop:=a≠[]/\(∀x∈a,x.sc=true)/\(zap a=true->∃r x y,a=[.str r,x,y])
def RTrue:List D->D->Prop:=fun ds d=>∃a fs,ds=[.tup a,zbg fs]/\OkT a/\OkFs fs/\d=.bl (zgy fs a)
def RKinds:List D->D->Prop:=fun ds d=>∃w n m,ds=[zfk w,.int ((n:Nat):Int),.int ((m:Nat):Int)]/\(∀p∈w.1,p.2.sc=true)/\w.2.length=n/\(∀i∈w.2,i<m)/\d=.bl true
def RPairs:List D->D->Prop:=fun ds d=>∃ps,ds=[.lst (zbj ps)]/\(∀p∈ps,p.2.sc=true)/\d=.bl true
structure DReps (G:Hp)(us:List V)(cs:List zan):Prop where
 len:us.length=cs.length
 get:∀(j:Nat) c,cs[j]?=some c->∃a,us[j]?=some (.ref a)/\G a=some (.dK (zbk [] (zbx c)))
theorem DReps.mono {G G':Hp}{us:List V}{cs:List zan}(h:DReps G us cs)(e:Same G G'):DReps G' us cs:=⟨h.len,fun j c q=>let ⟨a,h1,h2⟩:=h.get j c q;⟨a,h1,e _ _ h2⟩⟩
theorem DReps.nil {G:Hp}:DReps G [] []:=⟨rfl,fun j c q=>by simp at q⟩
theorem DReps.snoc {G:Hp}{us:List V}{cs:List zan}{a:Addr}{c:zan}(h:DReps G us cs)(ha:G a=some (.dK (zbk [] (zbx c)))):DReps G (us++[.ref a]) (cs++[c]):=by
 have hl:=h.len
 refine ⟨by simp [hl],fun j d q=>?_⟩
 by_cases hj:j<cs.length
 ·rw [getElem?_append_left hj] at q
  obtain ⟨b,h1,h2⟩:=h.get j d q
  exact ⟨b,by rw [getElem?_append_left (by omega)];exact h1,h2⟩
 ·rw [getElem?_append_right (Nat.le_of_not_lt hj)] at q
  have h0:j-cs.length=0:=by
   have:=(List.getElem?_eq_some_iff.mp q).1
   simp at this
   exact this
  rw [h0] at q
  have e:c=d:=by simpa using q
  subst e
  exact ⟨a,by rw [getElem?_append_right (by omega),show j-us.length=0 by omega];rfl,ha⟩
theorem zko (pool:List D)(b:Str):∀(l:List Str) (ms:List zan),zbq pool (l++[b]) ms=(zbq pool l ms).flatMap fun c=>pool.map fun t=>c++[(b,t)]
 |[],ms=>rfl
 |x::r,ms=>zko pool b r _
theorem zmn (pool:List D):∀(l:List Str) (ms:List zan),(zbq pool l ms).length=ms.length*pool.length^l.length
 |[],ms=>by simp [zbq]
 |x::r,ms=>by
  show (zbq pool r _).length=_
  rw [zmn pool r,List.length_flatMap]
  have:(ms.map fun c=>(pool.map fun t=>c++[(x,t)]).length).sum=ms.length*pool.length:=by
   have e:(fun c:zan=>(pool.map fun t=>c++[(x,t)]).length)=fun _=>pool.length:=by funext c;exact length_map _
   rw [e]
   induction ms with
   |nil=>simp
   |cons m t ih=>rw [map_cons,List.sum_cons,ih,length_cons,Nat.succ_mul,Nat.add_comm]
  rw [this,length_cons,Nat.pow_succ,Nat.mul_assoc,Nat.mul_comm pool.length]
theorem zfx (pool:List D):∀(l:List Str) (ms:List zan) (c:zan),(∀x∈pool,x.sc=true)->(∀m∈ms,(∀p∈m,p.2.sc=true))->c∈zbq pool l ms->∀p∈c,p.2.sc=true
 |[],ms,c,_,hm,h=>hm c h
 |x::r,ms,c,hp,hm,h=>by
  refine zfx pool r _ c hp (fun m hmm=>?_) h
  obtain ⟨c0,h0,h1⟩:=mem_flatMap.mp hmm
  obtain ⟨t,ht,rfl⟩:=mem_map.mp h1
  exact ztm (hm c0 h0) (hp t ht)
theorem zkp (pool:List D):∀(l:List Str) (ms:List zan) (k:Nat),(∀m∈ms,m.length=k)->∀c∈zbq pool l ms,c.length=k+l.length
 |[],ms,k,hm,c,h=>hm c h
 |x::r,ms,k,hm,c,h=>by
  have:=zkp pool r _ (k+1) (fun m hmm=>by
   obtain ⟨c0,h0,h1⟩:=mem_flatMap.mp hmm
   obtain ⟨t,ht,rfl⟩:=mem_map.mp h1
   rw [length_append,hm c0 h0]
   rfl) c h
  rw [this,length_cons]
  omega
def zje:Sp:=fun vs H Q _=>∃M Bs pool v0 v1,vs=[v0,v1]/\Live M H/\Rep (but H M) v0 (zcp Bs)/\Rep (but H M) v1 (.lst pool)/\(∀x∈pool,x.sc=true)/\Bs.length<=3/\pool.length<=3/\
 ∀p us H',Same H H'->but H' M p=some (.lst us)->DReps (but H' M) us (zbq pool Bs [[]])->Q (.ref p) H'
theorem mem_tups {a:List D}{fs:List (List D)}:D.tup a∈fs.map D.tup↔a∈fs:=by
 rw [mem_map]
 constructor
 ·rintro ⟨b,hb,e⟩
  have:b=a:=by injection e
  rw [<-this];exact hb
 ·exact fun h=>⟨a,h,rfl⟩
end FL
namespace FL
open PySem L2
def spE (pre:List D->Prop)(post:List D->D->Prop):Sp:=fun vs H Q _=>∃M ds,Live M H/\Reps (but H M) vs ds/\pre ds/\∀d v H',post ds d->Same H H'->Rep (but H' M) v d->Q v H'
theorem spE_len {pre:List D->Prop}{post:List D->D->Prop}{n:Nat}(hn:∀ds,pre ds->ds.length=n):∀vs H Q E,spE pre post vs H Q E->vs.length=n:=fun vs H Q E ⟨M,ds,l,r,e,k⟩=>by rw [r.length];exact hn ds e
section
variable {σ:St}{δ:Dn}{M:List Addr}{H:Hp}{t:TA}{E:zka}{ds:List D}
theorem s_ins {j:Nat}{a:Addr}{vs:List V}{es:List D}{n:Int}{d:D}{ti te:TE}{K:PySem.W.Frag}(l:Live M H)(hE:EnvR (but H M) σ δ)(ha':a∈M)(e:σ[j]?=some (some (.ref a)))(ha:H a=some (.lst vs))(r:Reps (but H M) vs es)(hz:es.length<1000)(hn:0<=n/\n<1000)(hi:EvM ti (but H M) σ (.int n))(h:EvM te (but H M) σ d)
  (k:∀vs' H',(∀b o,b≠a->H b=some o->H' b=some o)->Live M H'->H' a=some (.lst vs')->Reps (but H' M) vs' (es.take n.toNat++d::es.drop n.toNat)->EnvR (but H' M) σ δ->E.nx σ H'):zop (tBM K "list" rInsert (zdk j) (zbp ti (zbp te zev))) E σ H:=
 ⟨.ref a,e,(show tyV K "list" (.ref a) H from .inl ⟨rfl,vs,SqL.of ha⟩),hi M H (Same.refl _) l _ fun u H1 s1 ru=>h M H1 (s1.but M) (l.same s1) _ fun v H2 s2 rv=>by
  have eu:=ru.of_int
  subst eu
  have s12:=s1.trans s2
  have hl:=r.length
  refine ⟨a,vs,n,v,rfl,rfl,hn.1,hn.2,s12 _ _ ha,zar (by omega),?_⟩
  have eb:but (upd H2 a (.lst (vs.take n.toNat++v::vs.drop n.toNat))) M=but H2 M:=zcy ha'
  refine k _ _ (fun b o hb q=>by rw [zal hb];exact s12 b o q) (l.same s12).upd zae ?_ ?_
  ·rw [eb]
   have r2:=r.mono (s12.but M)
   exact (r2.take _).append (.cons rv (r2.drop _))
  ·rw [eb];exact hE.same s12⟩
end
def spLBl:Sp:=fun vs H Q _=>∃M as v0,vs=[v0]/\Live M H/\Rep (but H M) v0 (zbg as)/\BlOk as/\∀p H',Same H H'->H p=none->H' p=some (.lst ((zaj [] as).map V.str))->Q (.ref p) H'
theorem ev_lbl {G:Hp}{σ:St}{t:TA}{E:XK}{as:List (List D)}(hA:BlOk as)(h:EvA t G σ [zbg as]):EvM (zks spLBl [] E t) G σ (zcp (zaj [] as)):=fun M H s l Q k=>h M H s l _ fun vs H1 s1 rs=>by
 obtain ⟨v,rfl,rv⟩:=zov rs
 refine ⟨M,as,v,rfl,l.same s1,rv,hA,fun p H2 s2 hp h2=>k _ H2 (s1.trans s2) ?_⟩
 exact .lst (by rw [zat ((l.same s1).fresh hp)];exact h2) (zjh _)
theorem zvl {H:Hp}:∀{vs:List V} {B:List Str},Reps H vs (B.map D.str)->vs=B.map V.str
 |_,[],.nil=>rfl
 |_,b::r,.cons h t=>by rw [h.of_str,zvl t];rfl
def GP (x:D):Prop:=x.sc=true/\okS x/\zaq x=decide (x∈xyz)
structure AtOk (a:List D):Prop where
 ne:a≠[]
 hd:zaq (a.headD .non)=false
 ok:∀x∈a,x.sc=true/\okS x
 bl:∀x∈a.tail,zaq x=decide (x∈xyz)
 len:a.length<=10
theorem at_mk {r:Str}{xs:List D}(h1:okS (.str r))(h2:zaq (.str r)=false)(hx:∀x∈xs,GP x)(hl:xs.length<=9):AtOk (.str r::xs):=
 ⟨(fun z=>nomatch z),h2,(fun x hm=>by
  rcases mem_cons.mp hm with z|z
  ·rw [z];exact ⟨rfl,h1⟩
  ·exact ⟨(hx x z).1,(hx x z).2.1⟩),(fun x hm=>(hx x hm).2.2),(by rw [length_cons];omega)⟩
theorem AtOk.okA {a:List D}(h:AtOk a):OkA a:=⟨h.ok,h.ne,by have:=h.len;omega⟩
theorem zuw {as:List (List D)}(h:∀a∈as,AtOk a)(hl:as.length<=100):BlOk as:=⟨fun a ha=>⟨(h a ha).ne,(h a ha).hd⟩,fun a ha x hx=>((h a ha).ok x hx).1,fun a ha=>(h a ha).bl,hl,fun a ha=>(h a ha).len⟩
theorem gp_X:GP (.str "X"):=⟨rfl,⟨by decide,_,_,rfl⟩,by decide+kernel⟩
theorem gp_Xy:GP (.str "Xy"):=⟨rfl,⟨by decide,_,_,rfl⟩,by decide+kernel⟩
theorem gp_Z:GP (.str "Z"):=⟨rfl,⟨by decide,_,_,rfl⟩,by decide+kernel⟩
theorem gp_xyz:∀x∈xyz,GP x:=fun x hx=>by
 simp only [xyz,mem_cons,not_mem_nil,or_false] at hx
 rcases hx with rfl|rfl|rfl
 ·exact gp_X
 ·exact gp_Xy
 ·exact gp_Z
theorem gp_int (i:Int):GP (.int i):=⟨rfl,trivial,by simp [xyz,zaq]⟩
structure zwp (pool:List D):Prop where
 len:pool.length=3
 nodup:pool.Nodup
 gp:∀x∈pool,GP x
 nb:∀x∈pool,zaq x=false
def zjg (one:D):List (List D):=[[.str "road",.str "X",.str "Xy"],[.str "road",.str "Xy",.str "Z"],[.str "kin",.str "X",.str "Z"],[.str "mark",.str "Xy"],[.str "kin",.str "Z",.str "Z"],[.str "road",.str "X",one],[.str "mark",one],[.str "rain"],[.str "deal",.str "X",.str "Xy",.str "X"],[.str "rig",.str "X",.str "Xy",.str "Z",.str "X",.str "Xy"]]
theorem zlf:∀r∈(["road","kin","mark","rain","deal","rig","unlike","less"]:List Str),okS (.str r)/\zaq (.str r)=false:=by
 intro r hr
 simp only [mem_cons,not_mem_nil,or_false] at hr
 rcases hr with rfl|rfl|rfl|rfl|rfl|rfl|rfl|rfl<;>exact ⟨⟨by decide,_,_,rfl⟩,by decide+kernel⟩
theorem zfp {r:Str}{xs:List D}(hr:r∈(["road","kin","mark","rain","deal","rig","unlike","less"]:List Str))(hx:∀x∈xs,GP x)(hl:xs.length<=9):AtOk (.str r::xs):=at_mk (zlf r hr).1 (zlf r hr).2 hx hl
theorem gps {xs:List D}(h:∀x∈xs,x∈xyz):∀x∈xs,GP x:=fun x hx=>gp_xyz x (h x hx)
theorem rows_ok {one:D}(h1:GP one):∀a∈zjg one,AtOk a/\zap a=false:=by
 intro a ha
 have g2:∀{x y:D},GP x->GP y->∀z∈[x,y],GP z:=fun {x y} hx hy z hz=>by
  simp only [mem_cons,not_mem_nil,or_false] at hz
  rcases hz with rfl|rfl
  ·exact hx
  ·exact hy
 have g1:∀{x:D},GP x->∀z∈[x],GP z:=fun {x} hx z hz=>by rw [mem_singleton.mp hz];exact hx
 simp only [zjg,mem_cons,not_mem_nil,or_false] at ha
 rcases ha with rfl|rfl|rfl|rfl|rfl|rfl|rfl|rfl|rfl|rfl
 ·exact ⟨zfp (by decide) (gps (by decide)) (by decide),by decide+kernel⟩
 ·exact ⟨zfp (by decide) (gps (by decide)) (by decide),by decide+kernel⟩
 ·exact ⟨zfp (by decide) (gps (by decide)) (by decide),by decide+kernel⟩
 ·exact ⟨zfp (by decide) (gps (by decide)) (by decide),by decide+kernel⟩
 ·exact ⟨zfp (by decide) (gps (by decide)) (by decide),by decide+kernel⟩
 ·exact ⟨zfp (by decide) (g2 gp_X h1) (show 2<=9 by decide),by unfold zap;rfl⟩
 ·exact ⟨zfp (by decide) (g1 h1) (show 1<=9 by decide),by unfold zap;rfl⟩
 ·exact ⟨zfp (by decide) (gps (by decide)) (by decide),by decide+kernel⟩
 ·exact ⟨zfp (by decide) (gps (by decide)) (by decide),by decide+kernel⟩
 ·exact ⟨zfp (by decide) (gps (by decide)) (by decide),by decide+kernel⟩
structure BI (base bs:List (List D)):Prop where
 ask:bs.filter (fun a=> !zap a)=base
 at_:∀a∈bs,AtOk a
 gd:∀g∈bs,zap g=true->(∃r x y,g=[.str r,x,y])/\∀b∈za9 [] g,b∈zaj [] base
 base3:base.length<=3
theorem BI.start {base:List (List D)}(h:∀a∈base,AtOk a/\zap a=false)(hl:base.length<=3):BI base base:=
 ⟨filter_eq_self.mpr fun a ha=>by rw [(h a ha).2];rfl,fun a ha=>(h a ha).1,(fun g hg e=>by rw [(h g hg).2] at e;cases e),hl⟩
theorem BI.ins {base bs:List (List D)}{g:List D}(h:BI base bs)(i:Nat)(h1:AtOk g)(h2:zap g=true)(h3:∃r x y,g=[.str r,x,y])(h4:∀b∈za9 [] g,b∈zaj [] base):BI base (bs.take i++g::bs.drop i):=by
 have mem:∀{a:List D},a∈bs.take i++g::bs.drop i->a=g\/a∈bs:=fun {a} ha=>by
  rcases mem_append.mp ha with z|z
  ·exact .inr (mem_of_mem_take z)
  ·rcases mem_cons.mp z with z|z
   ·exact .inl z
   ·exact .inr (List.mem_of_mem_drop z)
 refine ⟨?_,fun a ha=>?_,fun a ha e=>?_,h.base3⟩
 ·rw [filter_append,List.filter_cons_of_neg (by rw [h2];simp),<-filter_append,List.take_append_drop]
  exact h.ask
 ·rcases mem ha with z|z
  ·rw [z];exact h1
  ·exact h.at_ a z
 ·rcases mem ha with z|z
  ·rw [z];exact ⟨h3,h4⟩
  ·exact h.gd a z e
theorem BI.snoc {base bs:List (List D)}{g:List D}(h:BI base bs)(h1:AtOk g)(h2:zap g=true)(h3:∃r x y,g=[.str r,x,y])(h4:∀b∈za9 [] g,b∈zaj [] base):BI base (bs++[g]):=by
 have:=h.ins bs.length h1 h2 h3 h4
 rw [take_of_length_le (Nat.le_refl _),List.drop_eq_nil_of_le (Nat.le_refl _)] at this
 exact this
def BodyOk (body:List (List D)):Prop:=(∃base,BI base body)/\body.length<=10
theorem zkm {r:Str}{x y:D}{B:List Str}(hr:zaq (.str r)=false)(hx:zaq x=true->x.name∈B)(hy:zaq y=true->y.name∈B):∀b∈za9 [] [.str r,x,y],b∈B:=fun b hb=>by
 have e:za9 [] [.str r,x,y]=zgv (zgv (zgv [] (.str r)) x) y:=rfl
 rw [e,zqe (B:=[]) hr] at hb
 have key:∀{C:List Str} {z:D},b∈zgv C z->b∈C\/(zaq z=true/\b=z.name):=fun {C z} h=>by
  unfold zgv at h
  split at h
  ·rename_i hc
   rcases mem_append.mp h with w|w
   ·exact .inl w
   ·exact .inr ⟨by simp at hc;exact hc.1,by simpa using w⟩
  ·exact .inl h
 rcases key hb with w|⟨w,e2⟩
 ·rcases key w with w|⟨w2,e2⟩
  ·cases w
  ·rw [e2];exact hx w2
 ·rw [e2];exact hy w
theorem zok {as:List (List D)}(h:∀a∈as,AtOk a){b:Str}(hb:b∈zaj [] as):D.str b∈xyz/\zaq (.str b)=true:=by
 rcases zhe hb with z|⟨a,ha,x,hx,hx1,rfl⟩
 ·cases z
 ·have A:=h a ha
  have e:=zfi hx1
  cases a with
  |nil=>cases hx
  |cons y r=>
   rcases mem_cons.mp hx with z|z
   ·subst z
    have:=A.hd
    rw [show zaq x=false from this] at hx1;cases hx1
   ·have:=A.bl x z
    rw [hx1] at this
    rw [<-e]
    exact ⟨of_decide_eq_true this.symm,hx1⟩
def preBody (ds:List D):Prop:=∃seed pool,ds=[.int seed,.lst pool]/\zwp pool
def zvo (ds:List D)(d:D):Prop:=∃body,d=zbg body/\BodyOk body
end FL
namespace K05
open PySem L2 FL
section
variable {P:Program}{w:World}{K:PySem.W.Frag}{mg:Str->Option Value}{base:Heap}{f:Addr}{fd:FuncData}
theorem sc_law_at:zbd ["_law_script","_law_k"] ["_law_script","_law_k"] (zam s_law_at):=⟨rfl,rfl,rfl,by decide+kernel,rfl,by decide+kernel,by decide+kernel⟩
theorem ok_law_at (F:Fun K "_law_at" "_law_at" s_law_at f fd)(B:Bl mg):FnOk P w K mg base CX0 1 f fd ["_law_script","_law_k"] (spR RAt):=by
 refine F.ok sc_law_at (zdq (n:=2) fun ds d ⟨l,k,e,_⟩=>by rw [e];rfl) (fun cdv A outer s H vs Q E hr h=>?_)
 obtain ⟨M,ds,d,lv,rs,⟨l,k,rfl,h0,rfl⟩,q⟩:=h
 have hu:=zoa hr
 refine ⟨_,(zad (zdl (zbb zrk (pv 1) (zdb B (pv 0)) (zbl _)) (zag (zaz (zay (pv 0) (pv 1)))) zbh)
   (zag (zaz zai))),?_⟩
 have E0:=zbs rs ["_law_script","_law_k"]
 refine zk9 lv E0 (zav (zsi (zaw E0 rfl) (zdv (zaa (zaw E0 rfl) zaf)))) (fun e H1 s1 l1 E1=>?_) (fun e H1 s1 l1 E1=>?_)
 ·have hlt:=of_decide_eq_true e
  have hg:l[k.toNat]?=some (zus l k):=by
   unfold zus
   rw [if_pos hlt,List.getD,getElem?_eq_getElem (by omega)]
   rfl
  exact zes l1 (zgi (ze9 h0 hg) (zaw E1 rfl) (zaw E1 rfl)) fun v H2 s2 r2=>q v H2 (s1.trans s2) r2
 ·have hlt:=of_decide_eq_false e
  have hg:zus l k=.int 0:=by unfold zus;rw [if_neg hlt]
  rw [hg] at q
  exact q (.int 0) H1 s1 (.int 0)
theorem zqw:zbd ["_law_found"] ["_law_found"] (zam s_law_whole):=⟨rfl,rfl,rfl,by decide+kernel,rfl,by decide+kernel,by decide+kernel⟩
theorem zrn (F:Fun K "_law_whole" "_law_whole" s_law_whole f fd)(B:Bl mg):FnOk P w K mg base CX0 1 f fd ["_law_found"] (spR zom):=by
 refine F.ok zqw (zdq (n:=1) fun ds d ⟨x,e,_⟩=>by rw [e];rfl) (fun cdv A outer s H vs Q E hr h=>?_)
 obtain ⟨M,ds,d,lv,rs,⟨x,rfl,rfl⟩,q⟩:=h
 refine ⟨_,(zag (zaz (znu (zeb B (pv 0) B.int PyProof.Rows.boot_int) (zrg (pe_not (zeb B (pv 0) B.bool PyProof.Rows.boot_bool)))))),?_⟩
 have E0:=zbs rs ["_law_found"]
 exact zes lv (zfh (zil (zaw E0 rfl)) fun _=>ev_not (ev_isBool (zaw E0 rfl))) q
theorem sc_law_is_fact:zbd ["_law_found","_law_part"] ["_law_found"] (zam s_law_is_fact):=⟨rfl,rfl,rfl,by decide+kernel,rfl,by decide+kernel,by decide+kernel⟩
theorem znc (F:Fun K "_law_is_fact" "_law_is_fact" s_law_is_fact f fd)(B:Bl mg)(G_law_whole:Has P w K mg base 1 "_law_whole" ["_law_found"] (spR zom)):FnOk P w K mg base CX0 2 f fd ["_law_found"] (spR zuy):=by
 refine F.ok sc_law_is_fact (zdq (n:=1) fun ds d ⟨x,e,_⟩=>by rw [e];rfl) (fun cdv A outer s H vs Q E hr h=>?_)
 obtain ⟨M,ds,d,lv,rs,⟨x,rfl,rfl⟩,q⟩:=h
 have hu:=zoa hr
 refine ⟨_,(zad (zdl (zjj (zdp (zcl (zeb B (pv 0) B.tuple PyProof.Rows.boot_tuple))) (zjj (zbb (zgl (by exact hu)) (zdb B (pv 0)) zai (zbl _)) (zit (zdp (zcl (zeb B (zay (pv 0) zai) B.str PyProof.Rows.boot_str)))))).pt (zag (zaz zfv)) zbh)
   (zad (zdr PassesOwn.never rfl (zcg (pv 0)) (zau (i:=1) sc_law_is_fact.nd rfl (by first|exact Or.inl rfl|exact Or.inr rfl)) (zag (zdl (zha (zdp (zcl (zeb B (pv 1) B.str PyProof.Rows.boot_str))) (zfm (zdp (zcl (zca G_law_whole hr (zab (pv 1) zah)))))).pt (zag (zaz zfv)) zbh)))
   (zag (zaz zfv)))),?_⟩
 have E0:=zbs rs ["_law_found","_law_part"]
 by_cases hx:∃h r,x=.tup (h::r)/\isS h=true
 ·obtain ⟨h,r,rfl,hh⟩:=hx
  refine zk9 lv E0 (zdu (b:=false) (zbo (b:=true) (zby (zdi (d:=.tup (h::r)) (zaw E0 rfl)))) fun _=>zdu (b:=false) (EvT.eq (zav (zie (zgc (zaa (zaw E0 rfl) zaf)) zak)) (decide_eq_false (by simp;omega))) fun _=>zbo (b:=true) (zby ((zeq (zbw (d:=h) zct (zaw E0 rfl) zak)).eq (by rw [hh])))) (fun e=>nomatch e) (fun e H1 s1 l1 E1=>?_)
  refine nx ?_
  refine zfr (M:=M) (ds:=h::r) (zfc (zaw E1 rfl)) l1 fun H2 s2=>?_
  refine ⟨fun j σ' H'=>Same H2 H'/\EnvR (but H' M) σ' [some (.tup (h::r)),none]/\((h::r).take j).all thing=true,⟨Same.refl _,E1.same s2,rfl⟩,fun j σ' H' ⟨a,b,c⟩=>⟨a.but M,(l1.same s2).same a⟩,fun j d x σ' H' H'' hd ⟨a,b,c⟩ s3 rx=>?_,fun σ' H' ⟨a,b,c⟩=>?_⟩
  ·have E3:EnvR (but H'' M) (σ'.set 1 (some x)) [some (.tup (h::r)),some d]:=(b.same s3).set 1 rx
   have l3:Live M H'':=(l1.same (s2.trans a)).same s3
   refine zk9 (δ:=[some (.tup (h::r)),some d]) l3 E3 (zgb (zbo (zby (zeq (zaw E3 rfl)))) fun _=>zbo (zby (zba ⟨d,rfl,rfl⟩ (zaa (zaw E3 rfl) zaf)))) (fun e H4 s4 l4 E4=>?_) (fun e H4 s4 l4 E4=>?_)
   ·have hf:znz (.tup (h::r))=false:=by
     have hm:d∈h::r:=mem_of_getElem? hd
     have ht:thing d=false:=by unfold thing;revert e;cases isS d<;>cases zht d<;>simp
     show (isS h&&(h::r).all thing)=false
     rw [hh,Bool.true_and,List.all_eq_false]
     exact ⟨d,hm,by rw [ht];exact Bool.false_ne_true⟩
    rw [hf] at q
    exact q (.bl false) H4 (s1.trans (s2.trans (a.trans (s3.trans s4)))) (.bl false)
   ·refine nx ⟨a.trans (s3.trans s4),E4.drop 1,?_⟩
    have ht:thing d=true:=by unfold thing;revert e;cases isS d<;>cases zht d<;>simp
    rw [take_add_one,hd,List.all_append,c]
    simpa using ht
  ·have hf:znz (.tup (h::r))=true:=by
    show (isS h&&(h::r).all thing)=true
    rw [take_of_length_le (Nat.le_refl _)] at c
    rw [hh,c]
    rfl
   rw [hf] at q
   exact q (.bl true) H' (s1.trans (s2.trans a)) (.bl true)
 ·have hf:znz x=false:=by
   cases x with
   |tup l=>
    cases l with
    |nil=>rfl
    |cons h r=>
     have:isS h=false:=by
      cases e:isS h with
      |false=>rfl
      |true=>exact absurd ⟨h,r,rfl,e⟩ hx
     show (isS h&&_)=false
     rw [this,Bool.false_and]
   |_=>rfl
  rw [hf] at q
  refine zk9 (b:=true) lv E0 ?_ (fun _ H1 s1 l1 E1=>q (.bl false) H1 s1 (.bl false)) (fun e=>nomatch e)
  cases x with
  |tup l=>
   cases l with
   |nil=>exact zdu (b:=false) (c:=true) (zbo (b:=true) (zby (zdi (d:=.tup []) (zaw E0 rfl)))) fun _=>zdu (b:=true) (c:=false) (EvT.eq (zav (zie (zgc (zaa (zaw E0 rfl) zaf)) zak)) rfl) fun z=>nomatch z
   |cons h r=>
    have:isS h=false:=by
     cases e:isS h with
     |false=>rfl
     |true=>exact absurd ⟨h,r,rfl,e⟩ hx
    exact zdu (b:=false) (c:=true) (zbo (b:=true) (zby (zdi (d:=.tup (h::r)) (zaw E0 rfl)))) fun _=>zdu (b:=false) (c:=true) (EvT.eq (zav (zie (zgc (zaa (zaw E0 rfl) zaf)) zak)) (decide_eq_false (by simp;omega))) fun _=>EvT.eq (zbo (zby (zeq (zbw (d:=h) zct (zaw E0 rfl) zak)))) (by rw [this];rfl)
  |non=>exact zdu (b:=true) (c:=true) (zbo (b:=false) (zby (zdi (d:=.non) (zaw E0 rfl)))) fun z=>nomatch z
  |bl b=>exact zdu (b:=true) (c:=true) (zbo (b:=false) (zby (zdi (d:=.bl b) (zaw E0 rfl)))) fun z=>nomatch z
  |int b=>exact zdu (b:=true) (c:=true) (zbo (b:=false) (zby (zdi (d:=.int b) (zaw E0 rfl)))) fun z=>nomatch z
  |str b=>exact zdu (b:=true) (c:=true) (zbo (b:=false) (zby (zdi (d:=.str b) (zaw E0 rfl)))) fun z=>nomatch z
  |lst b=>exact zdu (b:=true) (c:=true) (zbo (b:=false) (zby (zdi (d:=.lst b) (zaw E0 rfl)))) fun z=>nomatch z
theorem zqx:zbd ["_law_script"] ["_law_script"] (zam s_law_mixed):=⟨rfl,rfl,rfl,by decide+kernel,rfl,by decide+kernel,by decide+kernel⟩
theorem zro (F:Fun K "_law_mixed" "_law_mixed" s_law_mixed f fd)(B:Bl mg):FnOk P w K mg base CX0 1 f fd ["_law_script"] (spR RMixed):=by
 refine F.ok zqx (zdq (n:=1) fun ds d ⟨x,e,_⟩=>by rw [e];rfl) (fun cdv A outer s H vs Q E hr h=>?_)
 obtain ⟨M,ds,d,lv,rs,⟨ns,rfl,h63,rfl⟩,q⟩:=h
 refine ⟨_,(zag (zaz (zdn ["_law_script","_law_k"] [0] 1 (zhb rfl B.range (zab (zdb B (pv 0)) zah)) (fun _ _ _ _ _=>(zau (i:=1) (show (["_law_script","_law_k"]:List Str).Nodup from by decide+kernel) rfl (by first|exact Or.inl rfl|exact Or.inr rfl))) (fun _ _ _ _ _=>zhv) (fun _ _ _ _ _=>(zcd zei (zcd op_mul (zcd zi9 (zhy (pv 0) (pv 1)) (zcd op_mul zai (pv 1))) zai) zai))))),?_⟩
 have E0:=zbs rs ["_law_script"]
 obtain ⟨v0,hv0,r0⟩:=E0.get 0 _ rfl
 let g:D->D:=fun d=>match d with
  |.int j=>.int ((ns.getD j.toNat 0+7919*j)*48271%1000003)
  |_=>.non
 have key:=zer (caps:=zas [0] 1) (i:=1) (p:=fun _=>true) (f:=g) (tt:=tYes) (te:=tOp (rI (fun _ j=>0<j) fun i j=>.int (i%j)) (tOp (rI CMul fun i j=>.int (i*j)) (tOp (rI0 fun i j=>.int (i+j)) (tOp (rIx K) (zdk 0) (zdk 1)) (tOp (rI CMul fun i j=>.int (i*j)) (tC (.int 7919)) (zdk 1))) (tC (.int 48271))) (tC (.int 1000003)))
  (zhf (n:=ns.length) (by omega) (zaa ((zdv (K:=K) (l:=ns.map D.int) (zaa (zaw (i:=0) E0 rfl) zaf)).eq (by simp)) zaf))
  (fun G' v d _ _ _=>zic) (fun G' v d sG hd _ r=>?_) (by simp only [length_map,length_range];exact zar (by omega))
 ·refine zes lv (key.eq ?_) q
  have e1:(List.filter (fun _=>true) ((List.range ns.length).map fun (k:Nat)=>D.int (0+k)))=(List.range ns.length).map fun (k:Nat)=>D.int (0+k):=filter_eq_self.mpr fun _ _=>rfl
  rw [e1]
  show D.lst _=D.lst _
  congr 1
  unfold zpk
  rw [map_map,map_map]
  refine map_congr_left fun k _=>?_
  show D.int ((ns.getD (0+(k:Int)).toNat 0+7919*(0+(k:Int)))*48271%1000003)=D.int _
  have e2:(0+(k:Int)).toNat=k:=by omega
  rw [e2,Int.zero_add]
 ·obtain ⟨k,hk,rfl⟩:=mem_map.mp hd
  have hk':k<ns.length:=List.mem_range.mp hk
  have h0:((zas [0] 1 (L2.start ["_law_script"] vs)).set 1 (some v))[0]?=some (some v0):=by simp [zas,hv0]
  have h1:((zas [0] 1 (L2.start ["_law_script"] vs)).set 1 (some v))[1]?=some (some v):=by simp [zas]
  have ix:atI (ns.map D.int) (0+(k:Int))=some (.int (ns.getD (0+(k:Int)).toNat 0)):=by
   have e2:(0+(k:Int)).toNat=k:=by omega
   refine ze9 (by omega) ?_
   rw [e2,getElem?_map,List.getD,getElem?_eq_getElem hk']
   rfl
  exact zek (by decide) (ev_mul (.inr ⟨by decide,by decide⟩) (ziv (zgi ix (zch h0 (r0.mono sG)) (zch h1 r)) (ev_mul (.inl ⟨by decide,by decide⟩) zak (zch h1 r))) zak) zak
theorem sc_law_blanks_in:zbd ["_law_atoms","_law_blanks","_law_atom","_law_part"] ["_law_atoms"] (zam s_law_blanks_in):=⟨rfl,rfl,rfl,by decide+kernel,rfl,by decide+kernel,by decide+kernel⟩
theorem zkw (F:Fun K "_law_blanks_in" "_law_blanks_in" s_law_blanks_in f fd)(B:Bl mg):FnOk P w K mg base CX0 1 f fd ["_law_atoms"] spLBl:=by
 refine F.ok sc_law_blanks_in (fun vs H Q E ⟨_,_,_,e,_⟩=>by rw [e];rfl) (fun cdv A outer s H vs Q E hr h=>?_)
 obtain ⟨M,as,v0,rfl,lv,r0,hA,q⟩:=h
 have rs:Reps (but H M) [v0] [zbg as]:=.cons r0 .nil
 have hu:=zoa hr
 refine ⟨_,(zad (zbe (i:=1) sc_law_blanks_in.nd rfl (Or.inl rfl) (zdg zah))
   (zad (zdr PassesOwn.never rfl (zcg (pv 0)) (zau (i:=2) sc_law_blanks_in.nd rfl (by first|exact Or.inl rfl|exact Or.inr rfl)) (zag (zdr PassesOwn.never rfl (zcg (zlk sl_tup (pv 2) (zoz zai) zp9)) (zau (i:=3) sc_law_blanks_in.nd rfl (by first|exact Or.inl rfl|exact Or.inr rfl)) (zag (zdl (zha (zbb (op_inD hu) (pv 3) (zec (zab zds (zab zds (zab zds zah)))) rfl) (zfm (zbb (zrj hu) (pv 3) (pv 1) rfl))).pt (zag (zdf (pv 1) (pv 3))) zbh)))))
   (zag (zaz (pv 1))))),?_⟩
 have E0:=zbs rs ["_law_atoms","_law_blanks","_law_atom","_law_part"]
 refine zxa (i:=1) lv E0 (by simp) zaf (Nat.zero_le _) fun b vs1 σ1 H1 o1 i1 n1 h1 r1 l1 k1 E1=>?_
 have hv1:vs1=[]:=by cases r1;rfl
 subst hv1
 have Hb:H b=none:=none_of (Same.refl H) k1
 have S01:Same H H1:=fun x o e=>(k1 x o e).2
 have hfew:∀l:List (List D),l.length<=100->(∀a∈l,a.length<=10)->(zaj [] l).length<=1000:=fun l h1 h2=>by
  have key:∀(l:List (List D)) (B:List Str),(∀a∈l,a.length<=10)->(zaj B l).length<=B.length+10*l.length:=by
   intro l
   induction l with
   |nil=>exact fun B _=>Nat.le_refl _
   |cons a r ih=>
    intro B h
    have h1:=ih (za9 B a) fun c hc=>h c (mem_cons_of_mem _ hc)
    have h2:=zd9 a B
    have h3:=h a mem_cons_self
    show (zaj (za9 B a) r).length<=_
    rw [length_cons]
    omega
  have:=key l [] h2
  rw [length_nil] at this
  omega
 refine zfr (M:=b::M) (ds:=as.map D.tup) (zbn (zaw E1 rfl)) l1 fun H2 s2=>?_
 refine ⟨fun j σ' H'=>∃us,σ'[1]?=some (some (.ref b))/\H' b=some (.lst us)/\Reps (but H' (b::M)) us ((zaj [] (as.take j)).map D.str)/\Same H H'/\Live (b::M) H'/\Same (but H2 (b::M)) (but H' (b::M))/\EnvR (but H' (b::M)) σ' [some (zbg as),none,none,none],
  ⟨[],i1,s2 _ _ h1,.nil,S01.trans s2,l1.same s2,Same.refl _,E1.same s2⟩,fun j σ' H' ⟨_,_,_,_,_,x,y,_⟩=>⟨y,x⟩,?_,?_⟩
 ·rintro j d x σ' H' H'' hd ⟨us,j1,hb,rb,S0,l',S',E'⟩ s3 rx
  obtain ⟨a,haj,rfl⟩:∃a,as[j]?=some a/\d=.tup a:=by
   rw [getElem?_map] at hd
   cases e:as[j]? with
   |none=>rw [e] at hd;cases hd
   |some y=>rw [e] at hd;exact ⟨y,rfl,(Option.some.inj hd).symm⟩
  have ham:=mem_of_getElem? haj
  obtain ⟨hne,hh⟩:=hA.ne a ham
  have hpos:0<a.length:=List.length_pos_iff.mpr hne
  have E3:EnvR (but H'' (b::M)) (σ'.set 2 (some x)) [some (zbg as),none,some (.tup a),none]:=(E'.same s3).set 2 rx
  have c1:(σ'.set 2 (some x))[1]?=some (some (.ref b)):=(getElem?_set_ne (by decide)).trans j1
  refine zfr (M:=b::M) (ds:=a.drop 1) (zfc (zwc (k:=1) (by decide) hpos (zaw E3 rfl))) (l'.same s3) fun H4 s4=>?_
  refine ⟨fun i τ X=>∃us,τ[1]?=some (some (.ref b))/\X b=some (.lst us)/\Reps (but X (b::M)) us ((za9 (zaj [] (as.take j)) ((a.drop 1).take i)).map D.str)/\Same H X/\Live (b::M) X/\Same (but H4 (b::M)) (but X (b::M))/\EnvR (but X (b::M)) τ [some (zbg as),none,some (.tup a),none],
   ⟨us,c1,s4 _ _ (s3 _ _ hb),rb.mono ((s3.trans s4).but _),S0.trans (s3.trans s4),(l'.same s3).same s4,Same.refl _,E3.same s4⟩,fun i τ X ⟨_,_,_,_,_,x,y,_⟩=>⟨y,x⟩,?_,?_⟩
  ·rintro i y v τ X X' hd2 ⟨us2,t1,hb2,rb2,S2,l2,S2',E2'⟩ s5 ry
   have hyt:y∈a.tail:=by rw [<-List.drop_one];exact mem_of_getElem? hd2
   have hym:y∈a:=List.mem_of_mem_tail hyt
   have hysc:=hA.sc a ham y hym
   have E5:EnvR (but X' (b::M)) (τ.set 3 (some v)) [some (zbg as),none,some (.tup a),some y]:=(E2'.same s5).set 3 ry
   have d1:(τ.set 3 (some v))[1]?=some (some (.ref b)):=(getElem?_set_ne (by decide)).trans t1
   have l5:=l2.same s5
   have esn:=zqc (B:=zaj [] (as.take j)) hd2
   rw [addB_cond _ y hysc,hA.bl a ham y hyt] at esn
   generalize hW:za9 (zaj [] (as.take j)) ((a.drop 1).take i)=W at rb2 esn
   refine s_ifV (b:=decide (y∈xyz)&& !decide (y∈W.map D.str)) l5 E5 (tv_and (TV.of l5 (zav (ev_inT (es:=xyz) (fun e he=>zfe ((by decide:∀e∈xyz,e.sc=true) e he) hysc) (zaw E5 rfl) (zcq (zaa zbf (zaa zbf (zaa zbf zaf))) (hz:=by show 3<=sizeLine;decide))))) fun _=>tv_ninH (d:=y) n1 d1 (s5 _ _ hb2) (rb2.mono (s5.but _)) l5 (fun e he=>by
    obtain ⟨z,_,rfl⟩:=mem_map.mp he
    exact zfe rfl hysc) (zaw E5 rfl)) (fun e H6 s6 l6 E6=>?_) (fun e H6 s6 l6 E6=>nx ?_)
   ·rw [if_pos e] at esn
    have hyb:zaq y=true:=by rw [hA.bl a ham y hyt];exact (Bool.and_eq_true_iff.mp e).1
    have hwl:W.length<=1000:=by
     have h1:=hfew (as.take j) (by rw [length_take];have:=hA.few.1;omega) (fun c hc=>hA.few.2 c (mem_of_mem_take hc))
     rw [<-hW]
     have h3:=zd9 ((a.drop 1).take i) (zaj [] (as.take j))
     have h4:=hA.few.2 a ham
     have h5:=hA.few.1
     have hjl:=(List.getElem?_eq_some_iff.mp haj).1
     have h6:(zaj [] (as.take j)).length<=10*j:=by
      have key:∀(l:List (List D)) (B:List Str),(∀a∈l,a.length<=10)->(zaj B l).length<=B.length+10*l.length:=by
       intro l
       induction l with
       |nil=>exact fun B _=>Nat.le_refl _
       |cons a r ih=>
        intro B h
        have h1:=ih (za9 B a) fun c hc=>h c (mem_cons_of_mem _ hc)
        have h2:=zd9 a B
        have h3:=h a mem_cons_self
        show (zaj (za9 B a) r).length<=_
        rw [length_cons]
        omega
      have:=key (as.take j) [] fun c hc=>hA.few.2 c (mem_of_mem_take hc)
      rw [length_nil,length_take] at this
      omega
     rw [length_take,List.length_drop] at h3
     omega
    refine zxb l6 E6 (a:=b) (by simp) d1 (s6 _ _ (s5 _ _ hb2)) (rb2.mono ((s5.trans s6).but _)) (by rw [length_map];exact zar hwl) (zaw E6 rfl) fun v7 H7 k7 l7 h7 r7 E7=>?_
    have S7:Same (but H6 (b::M)) (but H7 (b::M)):=zfg (by simp) k7
    refine ⟨_,d1,h7,?_,zcs (S2.trans (s5.trans s6)) Hb k7,l7,S2'.trans (((s5.trans s6).but _).trans S7),E7.drop 3⟩
    rw [esn,map_append]
    have:y=.str y.name:=zfi hyb
    show Reps _ _ (W.map D.str++[.str y.name])
    rw [<-this]
    exact r7
   ·rw [if_neg (by rw [e];exact Bool.false_ne_true)] at esn
    refine ⟨us2,d1,s6 _ _ (s5 _ _ hb2),?_,S2.trans (s5.trans s6),l6,S2'.trans ((s5.trans s6).but _),E6.drop 3⟩
    rw [esn]
    exact rb2.mono ((s5.trans s6).but _)
  ·rintro τ X ⟨us2,t1,hb2,rb2,S2,l2,S2',E2'⟩
   rw [take_of_length_le (Nat.le_refl _)] at rb2
   refine ⟨us2,t1,hb2,?_,S2,l2,S'.trans (((s3.trans s4).but _).trans S2'),E2'.drop 2⟩
   rw [zsw as j haj,zqb hne hh,<-List.drop_one]
   exact rb2
 ·rintro σ' H' ⟨us,j1,hb,rb,S0,l',S',E'⟩
  rw [length_map,take_of_length_le (Nat.le_refl _)] at rb
  exact ⟨.ref b,j1,q b H' S0 Hb (by rw [hb,zvl rb])⟩
theorem sc_law_same_facts:zbd ["_law_found","_law_due","_law_k"] ["_law_found","_law_due"] (zam s_law_same_facts):=⟨rfl,rfl,rfl,by decide+kernel,rfl,by decide+kernel,by decide+kernel⟩
theorem zkf (F:Fun K "_law_same_facts" "_law_same_facts" s_law_same_facts f fd)(B:Bl mg)(G_law_is_fact:Has P w K mg base 2 "_law_is_fact" ["_law_found"] (spR zuy)):FnOk P w K mg base CX0 3 f fd ["_law_found","_law_due"] (spR RSame):=by
 refine F.ok sc_law_same_facts (zdq (n:=2) fun ds d ⟨x,e,_⟩=>by rw [e];rfl) (fun cdv A outer s H vs Q E hr h=>?_)
 obtain ⟨M,ds,d,lv,rs,⟨fs,rfl,hF,rfl⟩,q⟩:=h
 have hu:=zoa hr
 refine ⟨_,(zad (zdl (zjj (zdp (zcl (zeb B (pv 0) B.list PyProof.Rows.boot_list))) (zit (zbb (zff (by exact hu)) (zdb B (pv 0)) (zdb B (pv 1)) (zbl _)))).pt (zag (zaz zfv)) zbh)
   (zad (zdr PassesOwn.never rfl (zhb rfl B.range (zab (zdb B (pv 1)) zah)) (zau (i:=2) sc_law_same_facts.nd rfl (by first|exact Or.inl rfl|exact Or.inr rfl)) (zag (zdl (zjj (zdp (zcl (zca G_law_is_fact hr (zab (zay (pv 0) (pv 2)) zah)))) (zit (zbb (zff (by exact hu)) (zay (pv 0) (pv 2)) (zay (pv 1) (pv 2)) (zbl _)))).pt (zag (zaz zfv)) zbh)))
   (zag (zaz zfv)))),?_⟩
 have E0:=zbs rs ["_law_found","_law_due","_law_k"]
 refine zk9 (b:=false) lv E0 (EvT.eq (zdu (zbo (b:=true) (zby (zmj (d:=zbg fs) (zaw E0 rfl)))) fun _=>zav (zog (zdv (zaa (zaw E0 rfl) zaf)) (zdv (zaa (zaw E0 rfl) zaf)))) (by simp)) (fun e=>nomatch e) (fun e H1 s1 l1 E1=>nx ?_)
 refine zfr (M:=M) (zhf (n:=fs.length) (by have:=hF.2;omega) (zaa ((zdv (K:=K) (zaa (zaw (i:=1) E1 rfl) zaf)).eq (by rw [length_map])) zaf)) l1 fun H2 s2=>?_
 refine ⟨fun j σ' H'=>Same H2 H'/\EnvR (but H' M) σ' [some (zbg fs),some (zbg fs),none],⟨Same.refl _,E1.same s2⟩,fun j σ' H' ⟨a,b⟩=>⟨a.but M,(l1.same s2).same a⟩,fun j d x σ' H' H'' hd ⟨a,b⟩ s3 rx=>?_,fun σ' H' ⟨a,b⟩=>q (.bl true) H' (s1.trans (s2.trans a)) (.bl true)⟩
 obtain ⟨hj,rfl⟩:=zhh 0 fs.length j d hd
 have hfj:fs[j]?=some fs[j]:=getElem?_eq_getElem hj
 obtain ⟨h1,h2,h3⟩:=hF.1 _ (mem_of_getElem? hfj)
 have hix:atI (fs.map D.tup) (0+(j:Int))=some (.tup fs[j]):=by
  refine ze9 (by omega) ?_
  have e2:(0+(j:Int)).toNat=j:=by omega
  rw [e2,getElem?_map,hfj];rfl
 have E3:EnvR (but H'' M) (σ'.set 2 (some x)) [some (zbg fs),some (zbg fs),some (.int (0+(j:Int)))]:=(b.same s3).set 2 rx
 have l3:Live M H'':=(l1.same (s2.trans a)).same s3
 refine zk9 (b:=false) l3 E3 (EvT.eq (zdu (zbo (zby (zba (R:=zuy) (E:=L2.E0) (d:=.bl (znz (.tup fs[j]))) ⟨_,rfl,rfl⟩ (zaa (zgi hix (zaw E3 rfl) (zaw E3 rfl)) zaf)))) fun _=>zav (zjs (zjr h1.2 h1.2).1 (zjr h1.2 h1.2).2 (zgi hix (zaw E3 rfl) (zaw E3 rfl)) (zgi hix (zaw E3 rfl) (zaw E3 rfl)))) (by rw [isFact_ok h1 h2];simp)) (fun e=>nomatch e) (fun e H4 s4 l4 E4=>nx ⟨a.trans (s3.trans s4),E4.drop 2⟩)
theorem sc_law_stands_ahead:zbd ["_law_one","_law_two","_law_k"] ["_law_one","_law_two"] (zam s_law_stands_ahead):=⟨rfl,rfl,rfl,by decide+kernel,rfl,by decide+kernel,by decide+kernel⟩
theorem zse:∀(p q:List Nat) (j:Nat),p.take j=q.take j->zxo p q=zxo (p.drop j) (q.drop j)
 |_,_,0,_=>rfl
 |[],q,j+1,h=>by cases q<;>simp_all [zxo]
 |a::r,[],j+1,h=>by simp at h
 |a::r,b::t,j+1,h=>by
  have h':=List.cons.inj h
  show (if a=b then zxo r t else _)=zxo (r.drop j) (t.drop j)
  rw [if_pos h'.1,zse r t j h'.2]
theorem ziz (F:Fun K "_law_stands_ahead" "_law_stands_ahead" s_law_stands_ahead f fd)(B:Bl mg):FnOk P w K mg base CX0 1 f fd ["_law_one","_law_two"] (spR RAhead):=by
 refine F.ok sc_law_stands_ahead (zdq (n:=2) fun ds d ⟨x,y,e,_⟩=>by rw [e];rfl) (fun cdv A outer s H vs Q E hr h=>?_)
 obtain ⟨M,ds,d,lv,rs,⟨p,p2,rfl,hl,hz,rfl⟩,q⟩:=h
 have hu:=zoa hr
 refine ⟨_,(zad (zdr PassesOwn.never rfl (zhb rfl B.range (zab (zdb B (pv 0)) zah)) (zau (i:=2) sc_law_stands_ahead.nd rfl (by first|exact Or.inl rfl|exact Or.inr rfl)) (zag (zdl (zbb (zff (by exact hu)) (zay (pv 0) (pv 2)) (zay (pv 1) (pv 2)) (zbl _)) (zag (zaz (zfo zrk (zay (pv 0) (pv 2)) (zay (pv 1) (pv 2)) (zbl _)))) zbh)))
   (zag (zaz zfv))),?_⟩
 have E0:=zbs rs ["_law_one","_law_two","_law_k"]
 refine zfr (M:=M) (zhf (n:=p.length) (by omega) (zaa ((zgc (K:=K) (l:=p.map fun n=>D.int (n:Nat)) (zaa (zaw (i:=0) E0 rfl) zaf)).eq (by rw [length_map])) zaf)) lv fun H2 s2=>?_
 refine ⟨fun j σ' H'=>Same H2 H'/\EnvR (but H' M) σ' [some (zgk p),some (zgk p2),none]/\p.take j=p2.take j,⟨Same.refl _,E0.same s2,rfl⟩,fun j σ' H' ⟨a,b,_⟩=>⟨a.but M,(lv.same s2).same a⟩,fun j d x σ' H' H'' hd ⟨a,b,c⟩ s3 rx=>?_,fun σ' H' ⟨a,b,c⟩=>?_⟩
 ·obtain ⟨hj,rfl⟩:=zhh 0 p.length j d hd
  have hj2:j<p2.length:=by omega
  have h1:p[j]?=some p[j]:=getElem?_eq_getElem hj
  have h2:p2[j]?=some p2[j]:=getElem?_eq_getElem hj2
  have e2:(0+(j:Int)).toNat=j:=by omega
  have ix:∀{l:List Nat} {n:Nat},l[j]?=some n->atI (l.map fun n=>D.int (n:Nat)) (0+(j:Int))=some (.int (n:Nat)):=fun {l n} h=>by
   refine ze9 (by omega) ?_
   rw [e2,getElem?_map,h];rfl
  have E3:EnvR (but H'' M) (σ'.set 2 (some x)) [some (zgk p),some (zgk p2),some (.int (0+(j:Int)))]:=(b.same s3).set 2 rx
  have l3:Live M H'':=(lv.same (s2.trans a)).same s3
  have hdr:=zse p p2 j c
  rw [List.drop_eq_getElem_cons hj,List.drop_eq_getElem_cons hj2] at hdr
  refine zk9 l3 E3 (zav (zog (zbw (ix h1) (zaw E3 rfl) (zaw E3 rfl)) (zbw (ix h2) (zaw E3 rfl) (zaw E3 rfl)))) (fun e H4 s4 l4 E4=>?_) (fun e H4 s4 l4 E4=>nx ⟨a.trans (s3.trans s4),E4.drop 2,?_⟩)
  ·have hne:¬p[j]=p2[j]:=fun z=>by
    rw [z] at e
    simp at e
   have hdr:zxo p p2=decide (p[j]<p2[j]):=by
    rw [hdr]
    show (if p[j]=p2[j] then _ else _)=_
    rw [if_neg hne]
   rw [hdr] at q
   refine zes l4 ((zsi (zbw (ix h1) (zaw E4 rfl) (zaw E4 rfl)) (zbw (ix h2) (zaw E4 rfl) (zaw E4 rfl))).eq ?_) fun v H5 s5 r5=>q v H5 (s2.trans (a.trans (s3.trans (s4.trans s5)))) r5
   exact congrArg D.bl (decide_eq_decide.mpr (by omega))
  ·have he:p[j]=p2[j]:=by
    have:((p[j]:Nat):Int)=((p2[j]:Nat):Int):=by simpa using e
    omega
   rw [take_add_one,take_add_one,h1,h2,c,he]
 ·have hlen:((List.range p.length).map fun (k:Nat)=>D.int (0+k)).length=p.length:=by simp
  rw [hlen,take_of_length_le (Nat.le_refl _),take_of_length_le (by omega)] at c
  have:zxo p p2=false:=by
   rw [c]
   have:∀l:List Nat,zxo l l=false:=fun l=>by
    induction l with
    |nil=>rfl
    |cons a r ih=>show (if a=a then zxo r r else _)=false;rw [if_pos rfl];exact ih
   exact this p2
  rw [this] at q
  exact q (.bl false) H' (s2.trans a) (.bl false)
end
end K05
namespace K05
open PySem L2 FL
section
variable {P:Program}{w:World}{K:PySem.W.Frag}{mg:Str->Option Value}{base:Heap}{f:Addr}{fd:FuncData}
theorem znb:zbd ["_law_atom","_law_things"] ["_law_atom","_law_things"] (zam s_law_fill_in):=⟨rfl,rfl,rfl,by decide+kernel,rfl,by decide+kernel,by decide+kernel⟩
theorem znd (F:Fun K "_law_fill_in" "_law_fill_in" s_law_fill_in f fd)(B:Bl mg):FnOk P w K mg base CX0 1 f fd ["_law_atom","_law_things"] (spA zqg):=by
 refine F.ok znb (ztl (n:=2) fun ds d ⟨_,_,e,_⟩=>by rw [e];rfl) (fun cdv A outer s H vs Q E hr h=>?_)
 obtain ⟨M,ds,d,lv,rs,⟨a,S,rfl,hne,hsc,hS,hz,rfl⟩,q⟩:=h
 have hu1:=zmf hr
 obtain ⟨v0,v1,rfl,r0,⟨p,rfl,hp⟩⟩:=repsA2 rs
 have r0:Rep (but H M) v0 (.tup a):=r0
 refine ⟨_,(zag (zaz (zhx B (zcd zrl (zdg (zab (zay (pv 0) zai) zah)) (zdn ["_law_things","_law_part"] [1] 1 (zcg (zlk sl_tup (pv 0) (zoz zai) zp9)) (fun _ _ _ _ _=>(zau (i:=1) (show (["_law_things","_law_part"]:List Str).Nodup from by decide+kernel) rfl (by first|exact Or.inl rfl|exact Or.inr rfl))) (fun _ _ _ _ _=>zhv) (fun _ _ _ _ _=>(zlm hu1 (pv 0) (pv 1) (pv 1) ⟨rfl,rfl,rfl,rfl⟩))))))),?_⟩
 have E0:EnvR (but H M) (L2.start ["_law_atom","_law_things"] [v0,.ref p]) [some (.tup a),none]:=zci (.dat r0 (.raw .nil)) ["_law_atom","_law_things"]
 obtain ⟨x,r,rfl⟩:∃x r,a=x::r:=by
  cases a with
  |nil=>exact absurd rfl hne
  |cons x r=>exact ⟨x,r,rfl⟩
 rw [length_cons] at hz
 refine zes lv (EvM.eq (zid (zaa (zmk (xs:=[x]) (ys:=r.map (zdh S)) (by rw [length_map,length_singleton];omega) (zgp (zaa (zbw (d:=x) zct (zaw E0 rfl) zak) zaf)) (EvM.eq (zer (caps:=zas [1] 1) (i:=1) (p:=fun _=>true) (f:=zdh S) (tt:=tYes) (te:=zqp (zdk 0) (zdk 1) (zdk 1)) (zfc (ds:=r) (zwc (k:=1) (l:=x::r) (by decide) (Nat.succ_pos _) (zaw E0 rfl))) (fun G' v d _ _ _=>zic) (fun G' v d sG hd _ rv=>?_) (zar (by omega))) (by rw [filter_eq_self.mpr fun _ _=>rfl]))) zaf)) rfl) q
 exact ev_get2 (i:=0) (j:=1) (a:=p) (by simp [zas,L2.start]) (sG _ _ hp) (hsc d (mem_cons_of_mem _ hd)) hS (zch (by simp [zas]) rv)
theorem zto:zbd ["_law_atom","_law_there"] ["_law_atom","_law_there"] (zam s_law_true):=⟨rfl,rfl,rfl,by decide+kernel,rfl,by decide+kernel,by decide+kernel⟩
theorem ztx (F:Fun K "_law_true" "_law_true" s_law_true f fd)(B:Bl mg)(G_law_whole:Has P w K mg base 1 "_law_whole" ["_law_found"] (spR zom)):FnOk P w K mg base CX0 2 f fd ["_law_atom","_law_there"] (spR RTrue):=by
 refine F.ok zto (zdq (n:=2) fun ds d ⟨x,y,e,_⟩=>by rw [e];rfl) (fun cdv A outer s H vs Q E hr h=>?_)
 obtain ⟨M,ds,d,lv,rs,⟨a,fs,rfl,hT,hF,rfl⟩,q⟩:=h
 have hu:=zoa hr
 refine ⟨_,(zad (zdl (zbb (zgl (by exact hu)) (zay (pv 0) zai) zds (zbl _)) (zag (zaz (zfo (zff (by exact hu)) (zay (pv 0) zai) (zay (pv 0) zai) (zbl _)))) zbh)
   (zad (zdl (zbb (zgl (by exact hu)) (zay (pv 0) zai) zds (zbl _)) (zag (zaz (znu (zca G_law_whole hr (zab (zay (pv 0) zai) zah)) (znu (zca G_law_whole hr (zab (zay (pv 0) zai) zah)) (zrg (zfo zrk (zay (pv 0) zai) (zay (pv 0) zai) (zbl _))))))) zbh)
   (zag (zaz (zfo (op_inD hu) (pv 0) (pv 1) rfl))))),?_⟩
 have E0:=zbs rs ["_law_atom","_law_there"]
 obtain ⟨hne,hsc,hgd⟩:=hT
 obtain ⟨x,r,rfl⟩:∃x r,a=x::r:=by
  cases a with
  |nil=>exact absurd rfl hne
  |cons x r=>exact ⟨x,r,rfl⟩
 have hx:=hsc x mem_cons_self
 refine zk9 lv E0 (zav (zoh (d1:=x) (d2:=.str "unlike") (zfe hx rfl).1 (zfe hx (b:=.str "unlike") rfl).2 (zbw (d:=x) zct (zaw E0 rfl) zak) zbf)) (fun e H1 s1 l1 E1=>?_) (fun e H1 s1 l1 E1=>nx ?_)
 ·have e:=of_decide_eq_true e
  subst e
  obtain ⟨r0,y,z,e2⟩:=hgd (by unfold zap;simp)
  obtain ⟨_,rfl⟩:=List.cons.inj e2
  have hv:zgy fs [.str "unlike",y,z]= !decide (y=z):=rfl
  rw [hv] at q
  have hy:=hsc y (by simp)
  have hz:=hsc z (by simp)
  exact zes l1 (zjs (zfe hy hz).1 (zfe hy hz).2 (zbw (d:=y) rfl (zaw E1 rfl) zak) (zbw (d:=z) rfl (zaw E1 rfl) zak)) fun v H2 s2 r2=>q v H2 (s1.trans s2) r2
 have n1:=of_decide_eq_false e
 refine zk9 l1 E1 (zav (zoh (d1:=x) (d2:=.str "less") (zfe hx rfl).1 (zfe hx (b:=.str "less") rfl).2 (zbw (d:=x) zct (zaw E1 rfl) zak) zbf)) (fun e H2 s2 l2 E2=>?_) (fun e H2 s2 l2 E2=>nx ?_)
 ·have e:=of_decide_eq_true e
  subst e
  obtain ⟨r0,y,z,e2⟩:=hgd (by unfold zap;simp)
  obtain ⟨_,rfl⟩:=List.cons.inj e2
  have hy:=hsc y (by simp)
  have hz:=hsc z (by simp)
  have W:∀{d:D} {i:Int},atI [D.str "less",y,z] i=some d->EvM (zks (spR zom) [] L2.E0 (zbp (tOp (rIx K) (zdk 0) (tC (.int i))) zev)) (but H2 M) (L2.start ["_law_atom","_law_there"] vs) (.bl (zht d)):=fun {d i} h=>zba ⟨d,rfl,rfl⟩ (zaa (zbw (d:=d) h (zaw E2 rfl) zak) zaf)
  cases y with
  |int i=>
   cases z with
   |int j=>
    have hv:zgy fs [.str "less",.int i,.int j]=decide (i<j):=rfl
    rw [hv] at q
    exact zes l2 ((zfh (b:=true) (c:=decide (i<j)) (W (d:=.int i) rfl) fun _=>(zfh (b:=true) (W (d:=.int j) rfl) fun _=>zsi (zbw (d:=.int i) rfl (zaw E2 rfl) zak) (zbw (d:=.int j) rfl (zaw E2 rfl) zak)).eq (by rw [Bool.true_and])).eq (by rw [Bool.true_and])) fun v H3 s3 r3=>q v H3 (s1.trans (s2.trans s3)) r3
   |str j=>
    have hv:zgy fs [.str "less",.int i,.str j]=false:=rfl
    rw [hv] at q
    exact zes l2 (zfh (b:=true) (c:=false) (W (d:=.int i) rfl) fun _=>zfh (b:=false) (c:=false) (W (d:=.str j) rfl) fun z=>nomatch z) fun v H3 s3 r3=>q v H3 (s1.trans (s2.trans s3)) r3
   |_=>simp [D.sc] at hz
  |str i=>
   have hv:zgy fs [.str "less",.str i,z]=false:=by cases z<;>rfl
   rw [hv] at q
   exact zes l2 (zfh (b:=false) (c:=false) (W (d:=.str i) rfl) fun z=>nomatch z) fun v H3 s3 r3=>q v H3 (s1.trans (s2.trans s3)) r3
  |_=>simp [D.sc] at hy
 ·have n2:=of_decide_eq_false e
  have hv:zgy fs (x::r)=decide (x::r∈fs):=by
   unfold zgy
   rw [if_neg (show¬(x::r).headD .non=.str "unlike" from n1),if_neg (show¬(x::r).headD .non=.str "less" from n2)]
  rw [hv] at q
  refine zes l2 ((ev_inL (d:=.tup (x::r)) (es:=fs.map D.tup) (fun e he=>?_) (zaw E2 rfl) (zaw E2 rfl)).eq ?_) fun v H3 s3 r3=>q v H3 (s1.trans (s2.trans s3)) r3
  ·obtain ⟨g,hg,rfl⟩:=mem_map.mp he
   exact zjr (hF.1 g hg).1.2 hsc
  ·exact congrArg D.bl (decide_eq_decide.mpr mem_tups)
theorem sc_law_are_pairs:zbd ["_law_found","_law_pair"] ["_law_found"] (zam s_law_are_pairs):=⟨rfl,rfl,rfl,by decide+kernel,rfl,by decide+kernel,by decide+kernel⟩
theorem zkx (F:Fun K "_law_are_pairs" "_law_are_pairs" s_law_are_pairs f fd)(B:Bl mg)(G_law_whole:Has P w K mg base 1 "_law_whole" ["_law_found"] (spR zom)):FnOk P w K mg base CX0 2 f fd ["_law_found"] (spR RPairs):=by
 refine F.ok sc_law_are_pairs (zdq (n:=1) fun ds d ⟨x,e,_⟩=>by rw [e];rfl) (fun cdv A outer s H vs Q E hr h=>?_)
 obtain ⟨M,ds,d,lv,rs,⟨ps,rfl,hp,rfl⟩,q⟩:=h
 have hu:=zoa hr
 refine ⟨_,(zad (zdl (zdp (zcl (zeb B (pv 0) B.list PyProof.Rows.boot_list))) (zag (zaz zfv)) zbh)
   (zad (zdr PassesOwn.never rfl (zcg (pv 0)) (zau (i:=1) sc_law_are_pairs.nd rfl (by first|exact Or.inl rfl|exact Or.inr rfl)) (zad (zdl (zjj (zdp (zcl (zeb B (pv 1) B.tuple PyProof.Rows.boot_tuple))) (zjj (zbb (zff (by exact hu)) (zdb B (pv 1)) zai (zbl _)) (zit (zdp (zcl (zeb B (zay (pv 1) zai) B.str PyProof.Rows.boot_str)))))).pt (zag (zaz zfv)) zbh)
   (zag (zdl (zha (zdp (zcl (zeb B (zay (pv 1) zai) B.str PyProof.Rows.boot_str))) (zfm (zdp (zcl (zca G_law_whole hr (zab (zay (pv 1) zai) zah)))))).pt (zag (zaz zfv)) zbh))))
   (zag (zaz zfv)))),?_⟩
 have E0:=zbs rs ["_law_found","_law_pair"]
 refine zk9 lv E0 (zbo (b:=true) (zby (zmj (d:=.lst (zbj ps)) (zaw E0 rfl)))) (fun e=>nomatch e) (fun e H1 s1 l1 E1=>nx ?_)
 refine zfr (M:=M) (ds:=zbj ps) (zbn (zaw E1 rfl)) l1 fun H2 s2=>?_
 refine ⟨fun j σ' H'=>Same H2 H'/\EnvR (but H' M) σ' [some (.lst (zbj ps)),none],⟨Same.refl _,E1.same s2⟩,fun j σ' H' ⟨a,b⟩=>⟨a.but M,(l1.same s2).same a⟩,fun j d x σ' H' H'' hd ⟨a,b⟩ s3 rx=>?_,fun σ' H' ⟨a,b⟩=>q (.bl true) H' (s1.trans (s2.trans a)) (.bl true)⟩
 obtain ⟨p,hpj,rfl⟩:=pairD_at hd
 have hsc:=hp p (mem_of_getElem? hpj)
 have E3:EnvR (but H'' M) (σ'.set 1 (some x)) [some (.lst (zbj ps)),some (.tup [.str p.1,p.2])]:=(b.same s3).set 1 rx
 have l3:Live M H'':=(l1.same (s2.trans a)).same s3
 have i1:atI [D.str p.1,p.2] 1=some p.2:=rfl
 refine zk9 (b:=false) (δ:=[some (.lst (zbj ps)),some (.tup [.str p.1,p.2])]) l3 E3 (zdu (b:=false) (c:=false) (zbo (b:=true) (zby (zdi (d:=.tup [.str p.1,p.2]) (zaw E3 rfl)))) fun _=>zdu (b:=false) (c:=false) (EvT.eq (zav (zog (zgc (zaa (zaw E3 rfl) zaf)) zak)) rfl) fun _=>zbo (b:=true) (zby (zeq (zbw (d:=.str p.1) zct (zaw E3 rfl) zak)))) (fun e=>nomatch e) (fun e H4 s4 l4 E4=>nx ?_)
 refine zk9 (b:=false) l4 E4 (EvT.eq (zgb (zbo (zby (zeq (zbw i1 (zaw E4 rfl) zak)))) fun _=>zbo (zby (zba ⟨p.2,rfl,rfl⟩ (zaa (zbw i1 (zaw E4 rfl) zak) zaf)))) ?_) (fun e=>nomatch e) (fun e H5 s5 l5 E5=>nx ⟨a.trans (s3.trans (s4.trans s5)),E5.drop 1⟩)
 have:=zvd hsc
 unfold thing at this
 revert this
 cases isS p.2<;>cases zht p.2<;>simp
theorem sc_law_way_kinds:zbd ["_law_found","_law_count","_law_most","_law_place"] ["_law_found","_law_count","_law_most"] (zam s_law_way_kinds):=⟨rfl,rfl,rfl,by decide+kernel,rfl,by decide+kernel,by decide+kernel⟩
theorem zkv (F:Fun K "_law_way_kinds" "_law_way_kinds" s_law_way_kinds f fd)(B:Bl mg)(G_law_whole:Has P w K mg base 1 "_law_whole" ["_law_found"] (spR zom))(G_law_are_pairs:Has P w K mg base 2 "_law_are_pairs" ["_law_found"] (spR RPairs)):FnOk P w K mg base CX0 3 f fd ["_law_found","_law_count","_law_most"] (spR RKinds):=by
 refine F.ok sc_law_way_kinds (zdq (n:=3) fun ds d ⟨x,y,z,e,_⟩=>by rw [e];rfl) (fun cdv A outer s H vs Q E hr h=>?_)
 obtain ⟨M,ds,d,lv,rs,⟨w0,n,m,rfl,hS,hn,hm,rfl⟩,q⟩:=h
 have hu:=zoa hr
 refine ⟨_,(zad (zdl (zjj (zdp (zcl (zeb B (pv 0) B.tuple PyProof.Rows.boot_tuple))) (zjj (zbb (zff (by exact hu)) (zdb B (pv 0)) zai (zbl _)) (zit (zdp (zcl (zca G_law_are_pairs hr (zab (zay (pv 0) zai) zah))))))).pt (zag (zaz zfv)) zbh)
   (zad (zdl (zjj (zdp (zcl (zeb B (zay (pv 0) zai) B.tuple PyProof.Rows.boot_tuple))) (zit (zbb (zff (by exact hu)) (zdb B (zay (pv 0) zai)) (pv 1) (zbl _)))).pt (zag (zaz zfv)) zbh)
   (zad (zdr PassesOwn.never rfl (zcg (zay (pv 0) zai)) (zau (i:=3) sc_law_way_kinds.nd rfl (by first|exact Or.inl rfl|exact Or.inr rfl)) (zag (zdl (zjj (zdp (zcl (zca G_law_whole hr (zab (pv 3) zah)))) (zjj (zbb zrk (pv 3) zai (zbl _)) (zit (zbb op_ge (pv 3) (pv 2) (zbl _))))).pt (zag (zaz zfv)) zbh)))
   (zag (zaz zfv))))),?_⟩
 have E0:=zbs rs ["_law_found","_law_count","_law_most","_law_place"]
 have W1:∀{G:Hp} {σ:St} {δ:Dn},EnvR G σ δ->δ[0]?=some (some (zfk w0))->EvM (tOp (rIx K) (zdk 0) (tC (.int 0))) G σ (.lst (zbj w0.1)):=fun hE h=>zbw (ds:=[.lst (zbj w0.1),.tup (w0.2.map fun n=>D.int (n:Nat))]) (d:=.lst (zbj w0.1)) zct (zaw hE h) zak
 have W2:∀{G:Hp} {σ:St} {δ:Dn},EnvR G σ δ->δ[0]?=some (some (zfk w0))->EvM (tOp (rIx K) (zdk 0) (tC (.int 1))) G σ (.tup (w0.2.map fun n=>D.int (n:Nat))):=fun hE h=>zbw (ds:=[.lst (zbj w0.1),.tup (w0.2.map fun n=>D.int (n:Nat))]) (d:=.tup (w0.2.map fun n=>D.int (n:Nat))) rfl (zaw hE h) zak
 refine zk9 (b:=false) lv E0 (zdu (b:=false) (c:=false) (zbo (b:=true) (zby (zdi (d:=zfk w0) (zaw E0 rfl)))) fun _=>zdu (b:=false) (c:=false) (EvT.eq (zav (zog (zgc (l:=[.lst (zbj w0.1),.tup (w0.2.map fun n=>D.int (n:Nat))]) (zaa (zaw E0 rfl) zaf)) zak)) rfl) fun _=>zbo (b:=true) (zby (zba (d:=.bl true) ⟨w0.1,rfl,hS,rfl⟩ (zaa (W1 E0 rfl) zaf)))) (fun e=>nomatch e) (fun e H1 s1 l1 E1=>nx ?_)
 refine zk9 (b:=false) l1 E1 (EvT.eq (zdu (b:=false) (zbo (b:=true) (zby (zdi (d:=.tup (w0.2.map fun n=>D.int (n:Nat))) (W2 E1 rfl)))) fun _=>zav (zog (zgc (zaa (W2 E1 rfl) zaf)) (zaw E1 rfl))) (by rw [length_map,hn];simp)) (fun e=>nomatch e) (fun e H2 s2 l2 E2=>nx ?_)
 refine zfr (M:=M) (ds:=w0.2.map fun n=>D.int (n:Nat)) (zfc (W2 E2 rfl)) l2 fun H3 s3=>?_
 refine ⟨fun j σ' H'=>Same H3 H'/\EnvR (but H' M) σ' [some (zfk w0),some (.int ((n:Nat):Int)),some (.int ((m:Nat):Int)),none],⟨Same.refl _,E2.same s3⟩,fun j σ' H' ⟨a,b⟩=>⟨a.but M,(l2.same s3).same a⟩,fun j d x σ' H' H'' hd ⟨a,b⟩ s4 rx=>?_,fun σ' H' ⟨a,b⟩=>q (.bl true) H' (s1.trans (s2.trans (s3.trans a))) (.bl true)⟩
 obtain ⟨i,hi,rfl⟩:∃i,w0.2[j]?=some i/\d=.int (i:Nat):=by
  rw [getElem?_map] at hd
  cases e:w0.2[j]? with
  |none=>rw [e] at hd;cases hd
  |some y=>rw [e] at hd;exact ⟨y,rfl,(Option.some.inj hd).symm⟩
 have him:=hm i (mem_of_getElem? hi)
 have E3:EnvR (but H'' M) (σ'.set 3 (some x)) [some (zfk w0),some (.int ((n:Nat):Int)),some (.int ((m:Nat):Int)),some (.int (i:Nat))]:=(b.same s4).set 3 rx
 have l3:Live M H'':=(l2.same (s3.trans a)).same s4
 refine zk9 (b:=false) l3 E3 (zdu (b:=false) (c:=false) (zbo (b:=true) (zby (zba (d:=.bl true) ⟨.int (i:Nat),rfl,rfl⟩ (zaa (zaw E3 rfl) zaf)))) fun _=>zdu (b:=false) (c:=false) (EvT.eq (zav (zsi (zaw E3 rfl) zak)) (decide_eq_false (by omega))) fun _=>EvT.eq (zav (ev_ge (zaw E3 rfl) (zaw E3 rfl))) (decide_eq_false (by omega))) (fun e=>nomatch e) (fun e H5 s5 l5 E5=>nx ⟨a.trans (s4.trans s5),E5.drop 3⟩)
end
end K05
namespace K05
open PySem L2 FL
section
variable {P:Program}{w:World}{K:PySem.W.Frag}{mg:Str->Option Value}{base:Heap}{f:Addr}{fd:FuncData}
theorem sc_law_choices:zbd ["_law_blanks","_law_pool","_law_made","_law_blank","_law_more","_law_things","_law_thing","_law_longer_one"] ["_law_blanks","_law_pool"] (zam s_law_choices):=⟨rfl,rfl,rfl,by decide+kernel,rfl,by decide+kernel,by decide+kernel⟩
theorem zne (F:Fun K "_law_choices" "_law_choices" s_law_choices f fd)(B:Bl mg):FnOk P w K mg base CX0 1 f fd ["_law_blanks","_law_pool"] zje:=by
 refine F.ok sc_law_choices (fun vs H Q E ⟨_,_,_,_,_,e,_⟩=>by rw [e];rfl) (fun cdv A outer s H vs Q E hr h=>?_)
 obtain ⟨M,Bs,pool,v0,v1,rfl,lv,r0,r1,hp,hbl,hpl,q⟩:=h
 have hu1:=zmf hr
 refine ⟨_,(zad (zbe (i:=2) sc_law_choices.nd rfl (Or.inl rfl) (zdg (zab zll zah)))
   (zad (zdr PassesOwn.never rfl (zcg (pv 0)) (zau (i:=3) sc_law_choices.nd rfl (by first|exact Or.inl rfl|exact Or.inr rfl)) (zad (zbe (i:=4) sc_law_choices.nd rfl (Or.inl rfl) (zdg zah))
   (zad (zdr PassesOwn.never rfl (zcg (pv 2)) (zau (i:=5) sc_law_choices.nd rfl (by first|exact Or.inl rfl|exact Or.inr rfl)) (zag (zdr PassesOwn.never rfl (zcg (pv 1)) (zau (i:=6) sc_law_choices.nd rfl (by first|exact Or.inl rfl|exact Or.inr rfl)) (zad (zbe (i:=7) sc_law_choices.nd rfl (Or.inl rfl) (pe_dictD B (pv 5)))
   (zad (zoy hu1 (pv 7) (pv 3) (pv 6) rfl)
   (zag (zdf (pv 4) (pv 7))))))))
   (zag (zbe (i:=2) sc_law_choices.nd rfl (Or.inl rfl) (pv 4))))))
   (zag (zaz (pv 2))))),?_⟩
 have E0:EnvR (but H M) (L2.start ["_law_blanks","_law_pool","_law_made","_law_blank","_law_more","_law_things","_law_thing","_law_longer_one"] [v0,v1]) [some (zcp Bs),some (.lst pool),none,none,none,none,none,none]:=zci (.dat r0 (.dat r1 .nil)) _
 have hch:∀k,(zbq pool (Bs.take k) [[]]).length<=27:=fun k=>by
  rw [zmn,length_singleton,Nat.one_mul]
  have h1:(Bs.take k).length<=3:=Nat.le_trans (by rw [length_take];exact Nat.min_le_right _ _) hbl
  calc pool.length^(Bs.take k).length<=3^(Bs.take k).length:=Nat.pow_le_pow_left hpl _
   _<=3^3:=Nat.pow_le_pow_right (by decide) h1
   _=27:=by decide
 intro d0 hd0
 refine ⟨by show 1<=sizeLine;decide,fun m0 hm0=>?_⟩
 have sA:=zbm hd0 (.dK [])
 have sB:=zbm hm0 (.lst [.ref d0])
 have SAB:Same H (upd (upd H d0 (.dK [])) m0 (.lst [.ref d0])):=sA.trans sB
 have hdM:d0∉M:=lv.fresh hd0
 have hmM:m0∉M:=(lv.same sA).fresh hm0
 have hG0:DReps (but (upd (upd H d0 (.dK [])) m0 (.lst [.ref d0])) M) [.ref d0] (zbq pool (Bs.take 0) [[]]):=by
  refine ⟨rfl,fun j c e=>?_⟩
  cases j with
  |zero=>
   have e:([]:zan)=c:=Option.some.inj e
   subst e
   exact ⟨d0,rfl,by rw [zat hdM];exact sB _ _ zae⟩
  |succ j=>simp [zbq] at e
 have hGm:but (upd (upd H d0 (.dK [])) m0 (.lst [.ref d0])) M m0=some (.lst [.ref d0]):=by rw [zat hmM];exact zae
 generalize upd (upd H d0 (.dK [])) m0 (.lst [.ref d0])=H1 at SAB hG0 hGm
 have E1:EnvR (but H1 M) ((L2.start ["_law_blanks","_law_pool","_law_made","_law_blank","_law_more","_law_things","_law_thing","_law_longer_one"] [v0,v1]).set 2 (some (.ref m0))) [some (zcp Bs),some (.lst pool),none,none,none,none,none,none]:=(E0.same SAB).off 2 _
 have l1:Live M H1:=lv.same SAB
 refine zfr (M:=M) (ds:=Bs.map D.str) (zbn (zaw E1 rfl)) l1 fun H2 s2=>?_
 refine ⟨fun k σ' H'=>∃m us,σ'[2]?=some (some (.ref m))/\but H' M m=some (.lst us)/\DReps (but H' M) us (zbq pool (Bs.take k) [[]])/\Same H2 H'/\EnvR (but H' M) σ' [some (zcp Bs),some (.lst pool),none,none,none,none,none,none],
  ⟨m0,_,rfl,(s2.but M) _ _ hGm,hG0.mono (s2.but M),Same.refl _,E1.same s2⟩,fun k σ' H' ⟨_,_,_,_,_,x,_⟩=>⟨x.but M,(l1.same s2).same x⟩,?_,?_⟩
 ·rintro k d x σ' H' H'' hd ⟨m,us,j2,hm,hD,S',E'⟩ s3 rx
  obtain ⟨b,hbk,rfl⟩:∃b,Bs[k]?=some b/\d=.str b:=by
   rw [getElem?_map] at hd
   cases e:Bs[k]? with
   |none=>rw [e] at hd;cases hd
   |some y=>rw [e] at hd;exact ⟨y,rfl,(Option.some.inj hd).symm⟩
  have htk:Bs.take (k+1)=Bs.take k++[b]:=by rw [take_add_one,hbk];rfl
  have l3:Live M H'':=((l1.same s2).same S').same s3
  have E3:EnvR (but H'' M) (σ'.set 3 (some x)) [some (zcp Bs),some (.lst pool),none,some (.str b),none,none,none,none]:=(E'.same s3).set 3 rx
  have c2:(σ'.set 3 (some x))[2]?=some (some (.ref m)):=(getElem?_set_ne (by decide)).trans j2
  refine zxa (i:=4) l3 E3 (by simp) zaf (Nat.zero_le _) fun a vs4 σ4 H4 o4 i4 n4 h4 r4 l4 k4 E4=>?_
  have hv4:vs4=[]:=by cases r4;rfl
  subst hv4
  have s34:Same H'' H4:=fun x o e=>(k4 x o e).2
  have Ha0:H'' a=none:=none_of (Same.refl H'') k4
  have SV:Same (but H'' M) (but H4 (a::M)):=zfu Ha0 s34
  have d2:σ4[2]?=some (some (.ref m)):=(o4 2 (by decide)).trans c2
  have hm4:=SV _ _ ((s3.but M) _ _ hm)
  have hD4:=(hD.mono (s3.but M)).mono SV
  have hcl:=hch k
  generalize hcs:zbq pool (Bs.take k) [[]]=cs at hD4 hcl
  have hcsc:∀c∈cs,∀p∈c,p.2.sc=true:=fun c hc=>by
   rw [<-hcs] at hc
   exact zfx pool _ [[]] c hp (fun m hm p hpm=>by rw [mem_singleton.mp hm] at hpm;cases hpm) hc
  have hcsl:∀c∈cs,c.length<=3:=fun c hc=>by
   rw [<-hcs] at hc
   have:=zkp pool (Bs.take k) [[]] 0 (fun m hm=>by rw [mem_singleton.mp hm];rfl) c hc
   rw [length_take] at this
   omega
  refine zti (M:=a::M) (zkb (er_var d2) hm4) l4 fun H5 s5=>?_
  have hD5:=hD4.mono (s5.but _)
  refine ⟨fun j M' τ X=>M'=a::M/\∃ws,τ[4]?=some (some (.ref a))/\X a=some (.lst ws)/\DReps (but X (a::M)) ws ((cs.take j).flatMap fun c=>pool.map fun t=>c++[(b,t)])/\Same H'' X/\Live (a::M) X/\Same (but H5 (a::M)) (but X (a::M))/\EnvR (but X (a::M)) τ [some (zcp Bs),some (.lst pool),none,some (.str b),none,none,none,none],
   ⟨rfl,[],i4,s5 _ _ h4,.nil,s34.trans s5,l4.same s5,Same.refl _,E4.same s5⟩,fun j M' τ X ⟨e,_,_,_,_,_,x,y,_⟩=>by rw [e];exact ⟨y,x⟩,?_,?_⟩
  ·rintro j M' y τ X X' hj ⟨rfl,ws,t4,hXa,hDw,SX,lX,SX',EX⟩ s6 hy
   have hy:us[j]?=some y:=hy
   have hlen:=hD5.len
   have hjc:j<cs.length:=by omega
   have hcj:cs[j]?=some cs[j]:=getElem?_eq_getElem hjc
   obtain ⟨ac,h1,h2⟩:=hD5.get j _ hcj
   have ey:y=.ref ac:=by rw [hy] at h1;exact Option.some.inj h1
   subst ey
   have hcm:=mem_of_getElem? hcj
   generalize hcc:cs[j]=c at h2 hcj hcm
   have E6:EnvR (but X' (a::M)) (τ.set 5 (some (.ref ac))) [some (zcp Bs),some (.lst pool),none,some (.str b),none,none,none,none]:=(EX.same s6).off 5 _
   have hl8:τ.length=8:=EX.len
   have e4:(τ.set 5 (some (.ref ac)))[4]?=some (some (.ref a)):=(getElem?_set_ne (by decide)).trans t4
   have e5:(τ.set 5 (some (.ref ac)))[5]?=some (some (.ref ac)):=getElem?_set_self (by omega)
   have h26:=(s6.but (a::M)) _ _ (SX' _ _ h2)
   have htj:(cs.take (j+1)).flatMap (fun c=>pool.map fun t=>c++[(b,t)])=(cs.take j).flatMap (fun c=>pool.map fun t=>c++[(b,t)])++pool.map fun t=>c++[(b,t)]:=by
    rw [take_add_one,hcj,flatMap_append]
    congr 1
    exact List.flatMap_singleton _ _
   have hwl:((cs.take j).flatMap fun c=>pool.map fun t=>c++[(b,t)]).length<=81:=by
    rw [List.length_flatMap]
    have key:∀l:List zan,(l.map fun c=>(pool.map fun t=>c++[(b,t)]).length).sum=l.length*pool.length:=by
     intro l
     induction l with
     |nil=>simp
     |cons m t ih=>rw [map_cons,List.sum_cons,ih,length_cons,Nat.succ_mul,Nat.add_comm,length_map]
    rw [key,length_take]
    calc min j cs.length*pool.length<=27*3:=Nat.mul_le_mul (by omega) hpl
     _=81:=by decide
   generalize hWW:((cs.take j).flatMap fun c=>pool.map fun t=>c++[(b,t)])=W at hDw htj hwl
   refine zfr (M:=a::M) (ds:=pool) (zbn (zaw E6 rfl)) (lX.same s6) fun H7 s7=>?_
   refine ⟨fun i ρ Y=>∃ws,ρ[4]?=some (some (.ref a))/\ρ[5]?=some (some (.ref ac))/\Y a=some (.lst ws)/\DReps (but Y (a::M)) ws (W++(pool.take i).map fun t=>c++[(b,t)])/\Same H'' Y/\Live (a::M) Y/\Same (but H7 (a::M)) (but Y (a::M))/\EnvR (but Y (a::M)) ρ [some (zcp Bs),some (.lst pool),none,some (.str b),none,none,none,none],
    ⟨ws,e4,e5,s7 _ _ (s6 _ _ hXa),by rw [List.take_zero,List.map_nil,append_nil];exact hDw.mono ((s6.trans s7).but _),SX.trans (s6.trans s7),(lX.same s6).same s7,Same.refl _,E6.same s7⟩,fun i ρ Y ⟨_,_,_,_,_,_,x,y,_⟩=>⟨y,x⟩,?_,?_⟩
   ·rintro i t v ρ Y Y' ht ⟨ws2,u4,u5,hYa,hDy,SY,lY,SY',EY⟩ s8 rt
    have htm:=mem_of_getElem? ht
    have htsc:=hp t htm
    have hil:=(List.getElem?_eq_some_iff.mp ht).1
    have E8:EnvR (but Y' (a::M)) (ρ.set 6 (some v)) [some (zcp Bs),some (.lst pool),none,some (.str b),none,none,some t,none]:=(EY.same s8).set 6 rt
    have w4:(ρ.set 6 (some v))[4]?=some (some (.ref a)):=(getElem?_set_ne (by decide)).trans u4
    have w5:(ρ.set 6 (some v))[5]?=some (some (.ref ac)):=(getElem?_set_ne (by decide)).trans u5
    have h28:=(s8.but (a::M)) _ _ (SY' _ _ ((s7.but _) _ _ h26))
    have l8:=lY.same s8
    refine ⟨.ref ac,w5,ac,_,rfl,.inl (zac h28).2,fun p hpn=>?_⟩
    have spn:=zbm hpn (.dK (zbk [] (zbx c)))
    have hpM:p∉a::M:=l8.fresh hpn
    have hl8':ρ.length=8:=EY.len
    have E9:EnvR (but (upd Y' p (.dK (zbk [] (zbx c)))) (p::a::M)) ((ρ.set 6 (some v)).set 7 (some (.ref p))) [some (zcp Bs),some (.lst pool),none,some (.str b),none,none,some t,none]:=zpw E8 hpn
    have x7:((ρ.set 6 (some v)).set 7 (some (.ref p)))[7]?=some (some (.ref p)):=getElem?_set_self (by rw [length_set];omega)
    have x4:((ρ.set 6 (some v)).set 7 (some (.ref p)))[4]?=some (some (.ref a)):=(getElem?_set_ne (by decide)).trans w4
    have x5:((ρ.set 6 (some v)).set 7 (some (.ref p)))[5]?=some (some (.ref ac)):=(getElem?_set_ne (by decide)).trans w5
    have hcl3:=hcsl c hcm
    refine s_dputE (n:=b) (y:=t) (F:=c) (l8.upd.cons zae) E9 (by simp) x7 zae htsc (by omega) (zaw E9 rfl) (zaw E9 rfl) fun Z kZ lZ hZp EZ=>?_
    have npa:a≠p:=fun z=>hpM (by rw [<-z];exact mem_cons_self)
    have hZa:Z a=some (.lst ws2):=kZ a _ npa (spn _ _ (s8 _ _ hYa))
    have SYZ:Same Y' Z:=fun z o e=>kZ z o (zax e hpn) (spn _ _ e)
    refine ⟨.ref a,x4,(show tyV K "list" (.ref a) _ from .inl ⟨rfl,ws2,SqL.of hZa⟩),.ref p,x7,a,ws2,.ref p,rfl,rfl,hZa,?_,?_⟩
    ·rw [hDy.len,length_append,length_map,length_take]
     exact zar (by omega)
    ·have eb:but (upd Z a (.lst (ws2++[.ref p]))) (a::M)=but Z (a::M):=zcy mem_cons_self
     have SZ:Same (but Y' (a::M)) (but (upd Z a (.lst (ws2++[.ref p]))) (a::M)):=by rw [eb];exact SYZ.but _
     refine ⟨_,x4,x5,zae,?_,zcs (SY.trans (s8.trans SYZ)) Ha0 (fun z o hz e=>by rw [zal hz];exact e),?_,SY'.trans ((s8.but _).trans SZ),?_⟩
     ·rw [take_add_one,ht,map_append,<-append_assoc]
      refine (hDy.mono ((s8.but _).trans SZ)).snoc ?_
      rw [eb,zat hpM]
      exact hZp
     ·exact (fun z hz=>(lZ.upd (a:=a)) z (mem_cons_of_mem _ hz))
     ·rw [eb]
      exact (EZ.mono (zcj fun z hz=>mem_cons_of_mem _ hz)).drop 6
   ·rintro ρ Y ⟨ws2,u4,u5,hYa,hDy,SY,lY,SY',EY⟩
    rw [take_of_length_le (Nat.le_refl _),<-htj] at hDy
    exact ⟨a::M,rfl,ws2,u4,hYa,hDy,SY,lY,SX'.trans (((s6.trans s7).but _).trans SY'),EY⟩
  ·rintro M' τ X ⟨rfl,ws,t4,hXa,hDw,SX,lX,SX',EX⟩
   have hlen:=hD5.len
   rw [hlen,take_of_length_le (Nat.le_refl _)] at hDw
   have naM:a∉M:=n4
   have ES:EnvR (but X M) τ [some (zcp Bs),some (.lst pool),none,some (.str b),none,none,none,none]:=EX.mono (zcj fun z hz=>mem_cons_of_mem _ hz)
   have hl8:τ.length=8:=EX.len
   refine ⟨.ref a,t4,a,ws,getElem?_set_self (by omega),by rw [zat naM];exact hXa,?_,S'.trans (s3.trans SX),(ES.drop 3).off 2 _⟩
   rw [htk,zko,hcs]
   exact hDw.mono (zcj fun z hz=>mem_cons_of_mem _ hz)
 ·rintro σ' H' ⟨m,us,j2,hm,hD,S',E'⟩
  rw [length_map,take_of_length_le (Nat.le_refl _)] at hD
  exact ⟨.ref m,j2,q m us H' (SAB.trans (s2.trans S')) hm hD⟩
end
end K05
namespace L2
open PySem PySem.Spec PyProof.Rows
structure WE (X:Cx)(e:Expr)(t:TE):Prop where
 h:PE X e t
structure WA (X:Cx)(es:List Expr)(t:TA):Prop where
 h:PA X es t
structure WS (X:Cx)(st:Stmt)(t:TS):Prop where
 h:PS X st t
structure WSs (X:Cx)(l:List Stmt)(t:TS):Prop where
 h:PSs X l t
section
variable {X:Cx}{e a b c:Expr}{es:List Expr}{te ta tb:TE}{t:TA}{st:Stmt}{rest:List Stmt}{ts us:TS}{pos:Pos}
theorem zda {x:Str}{j}:WE X (.Constant (.str x) j pos) (tC (.str x)):=⟨zds⟩
theorem wv (i:Nat){x:Str}(hN:X.N[i]?=some x:=by rfl)(hv:Vis X.env.scope x:=by first|exact Or.inl rfl|exact Or.inr (Or.inl rfl)|exact Or.inr (Or.inr rfl))(hd:(x==("__debug__":Str))=false:=by decide)(hcd:(x==("__classdict__":Str))=false:=by decide):WE X (.Name x pos) (zdk i):=⟨pe_var hN hv hd hcd⟩
theorem zgx:WA X [] zev:=⟨zah⟩
theorem zbc (ha:WE X e te)(hr:WA X es t)(hs:starEach (e::es) X.env=(false,eval e X.env)::starEach es X.env:=by rfl):WA X (e::es) (zbp te t):=⟨zab ha.h hr.h hs⟩
theorem zis {x1}(h:WA X es t):WE X (.Tuple es x1 pos) (tTup t):=⟨zec h.h⟩
theorem we_lst (h:WA X es t):WE X (.List es pos) (tLst t):=⟨zdg h.h⟩
theorem we_op {op:Operator}{r:R2}(ho:OpR X (binaryOp op) r)(ha:WE X a ta)(hb:WE X b tb):WE X (.BinOp a op b pos) (tOp r ta tb):=⟨zcd ho ha.h hb.h⟩
theorem wss_one (h:WS X st ts):WSs X [st] ts:=⟨zag h.h⟩
theorem zen (h:WS X st ts)(h2:WSs X rest us):WSs X (st::rest) (tSeq ts us):=⟨zad h.h h2.h⟩
theorem ws_set {i:Nat}{x:Str}{pos':Pos}(hN:X.N.Nodup)(hi:X.N[i]?=some x)(hx:Loc X.env.scope x)(he:WE X e te)(hs:swapsWith e (some (.Name x pos')) pos.line X.env=pure false:=by rfl)(hf:X.fn x=true\/X.env.scope.names.lookup x=some .local:=by first|exact .inl rfl|exact .inr rfl|assumption):
  WS X (.Assign [.Name x pos'] e pos) (zqi te (zdz i)):=⟨zbe hN hi hx he.h hs hf⟩
end
section
variable {P:Program}{w:World}{K:PySem.W.Frag}{mg:Str->Option Value}{base:Heap}
theorem Fun.okW {x qual:Str}{st:Stmt}{f:Addr}{fd:FuncData}{N ps:List Str}{k:Nat}{sp:Sp}(F:Fun K x qual st f fd)(S:zbd N ps (zam st))(len:∀vs H Q E,sp vs H Q E->vs.length=ps.length)
  (hbody:∀(cdv:Value) (A:Around) (outer:List Env) (s:Shared) (H:Hp) (vs:List V) (Q:VK) (E:XK),Room k (A.deeper (envOfC qual (zam st) s.heap.objs.size f cdv))->sp vs H Q E->
   ∃t,WSs (cxOf CX0 P w K mg base N qual (zam st) f cdv A outer s H E).nox (zcr st) t/\t {nx:=fun _ H'=>Q .non H',rt:=Q} (start N vs) H):FnOk P w K mg base CX0 (k+1) f fd ps sp:=
 F.ok S len fun cdv A outer s H vs Q E hr hsp=>let ⟨t,h,q⟩:=hbody cdv A outer s H vs Q E hr hsp;⟨t,h.h,q⟩
end
end L2
namespace K05
open PySem L2 FL
section
variable {P:Program}{w:World}{K:PySem.W.Frag}{mg:Str->Option Value}{base:Heap}{f:Addr}{fd:FuncData}
theorem at_last {l:List D}(h:l≠[]):∃d,atI l (-1)=some d/\d∈l:=by
 have hl:=List.length_pos_iff.mpr h
 have e:ixN l.length (-1)=some (l.length-1):=by
  unfold ixN
  rw [if_neg (by omega),if_pos (by omega)]
  congr 1
  omega
 refine ⟨l[l.length-1],?_,getElem_mem _⟩
 unfold atI
 rw [e]
 exact getElem?_eq_getElem (by omega)
theorem sc_law_body_by:zbd ["_law_seed","_law_pool","_law_one","_law_rows","_law_body","_law_k","_law_blanks"] ["_law_seed","_law_pool"] (zam s_law_body_by):=⟨rfl,rfl,rfl,by decide+kernel,rfl,by decide+kernel,by decide+kernel⟩
theorem znf (F:Fun K "_law_body_by" "_law_body_by" s_law_body_by f fd)(B:Bl mg)(G_law_blanks_in:Has P w K mg base 1 "_law_blanks_in" ["_law_atoms"] spLBl):FnOk P w K mg base CX0 2 f fd ["_law_seed","_law_pool"] (spE preBody zvo):=by
 refine F.okW sc_law_body_by (spE_len (n:=2) fun ds ⟨_,_,e,_⟩=>by rw [e];rfl) (fun cdv A outer s H vs Q E hr h=>?_)
 obtain ⟨M,ds,lv,rs,⟨seed,pool,rfl,hP⟩,q⟩:=h
 have hu:=zoa hr
 refine ⟨_,(zen ⟨zbe (i:=2) sc_law_body_by.nd rfl (Or.inl rfl) (zay (pv 1) (zcd zei (pv 0) (zdb B (pv 1))))⟩
   (zen (ws_set (i:=3) sc_law_body_by.nd rfl (Or.inl rfl) (we_lst (zbc (zis (zbc zda (zbc zda (zbc zda zgx)))) (zbc (zis (zbc zda (zbc zda (zbc zda zgx)))) (zbc (zis (zbc zda (zbc zda (zbc zda zgx)))) (zbc (zis (zbc zda (zbc zda zgx))) zgx))))))
   (zen (ws_set (i:=3) sc_law_body_by.nd rfl (Or.inl rfl) (we_op zrl (wv 3) (we_lst (zbc (zis (zbc zda (zbc zda (zbc zda zgx)))) (zbc (zis (zbc zda (zbc zda (zbc (wv 2) zgx)))) (zbc (zis (zbc zda (zbc (wv 2) zgx))) (zbc (zis (zbc zda zgx)) zgx)))))))
   (zen (ws_set (i:=3) sc_law_body_by.nd rfl (Or.inl rfl) (we_op zrl (wv 3) (we_lst (zbc (zis (zbc zda (zbc zda (zbc zda (zbc zda zgx))))) (zbc (zis (zbc zda (zbc zda (zbc zda (zbc zda (zbc zda (zbc zda zgx))))))) zgx)))))
   (zen ⟨zbe (i:=4) sc_law_body_by.nd rfl (Or.inl rfl) (zdg zah)⟩
   (zen ⟨zdr PassesOwn.never rfl (zhb rfl B.range (zab (zcd zi9 zai (zcd zei (zcd zf9 (pv 0) zai) zai)) zah)) (zau (i:=5) sc_law_body_by.nd rfl (by first|exact Or.inl rfl|exact Or.inr rfl)) (zag (zdf (pv 4) (zay (pv 3) (zcd zei (zcd zi9 (zcd zf9 (pv 0) zai) (zcd op_mul (pv 5) (zcd zi9 zai (zcd zei (zcd zf9 (pv 0) zai) zai)))) zai))))⟩
   (zen ⟨zbe (i:=6) sc_law_body_by.nd rfl (Or.inl rfl) (zca G_law_blanks_in hr (zab (pv 4) zah))⟩
   (zen ⟨zdl (zha (zbb op_gt (zdb B (pv 6)) zai (zbl _)) (zfm (zbb (zgl (by exact hu)) (zcd zei (pv 0) zai) zai (zbl _)))).pt (zag (ziy (pe_bm PySem.F.plainAttrs_list PySem.F.slot_list_insert PySem.F.type_list_insert zry (pv 4) (zab (zcd zei (zcd zf9 (pv 0) zai) zai) (zab (zec (zab zds (zab (zay (pv 6) zai) (zab (zay (pv 6) (zpa zja zai)) zah)))) zah))))) zbh⟩
   (zen ⟨zdl (zha (zbb op_gt (zdb B (pv 6)) zai (zbl _)) (zfm (zbb (zgl (by exact hu)) (zcd zei (pv 0) zai) zai (zbl _)))).pt (zag (ziy (pe_bm PySem.F.plainAttrs_list PySem.F.slot_list_insert PySem.F.type_list_insert zry (pv 4) (zab (zcd zei (zcd zf9 (pv 0) zai) zai) (zab (zec (zab zds (zab (zay (pv 6) (zpa zja zai)) (zab (pv 2) zah)))) zah))))) zbh⟩
   (zen ⟨zdl (zha (zbb op_gt (zdb B (pv 6)) zai (zbl _)) (zha (zbb (op_inD hu) (zcd zei (pv 0) zai) (zdg (zab zai (zab zai zah))) rfl) (zfm (zbb (zgl (by exact hu)) (zcd zei (zcd zf9 (pv 0) zai) zai) zai (zbl _))))).pt (zag (zdf (pv 4) (zec (zab zds (zab (zay (pv 6) zai) (zab (zay (pv 1) (zcd zei (zcd zf9 (pv 0) zai) (zdb B (pv 1)))) zah)))))) zbh⟩
   (zen ⟨zdl (zbb (zgl (by exact hu)) (zcd zei (pv 0) zai) zai (zbl _)) (zag (zaz (zdg (zab (zec (zab zds (zab (zcd zei (zcd zf9 (pv 0) zai) zai) (zab zai zah)))) zah)))) zbh⟩
   (wss_one ⟨zaz (pv 4)⟩)))))))))))),?_⟩
 have E0:=zbs rs ["_law_seed","_law_pool","_law_one","_law_rows","_law_body","_law_k","_law_blanks"]
 have hpl:(0:Int)<((pool.length:Nat):Int):=by rw [hP.len];decide
 obtain ⟨one,ho1,ho2,_⟩:=zol (l:=pool) (n:=pool.length) seed (by rw [hP.len];decide) rfl
 have gone:=hP.gp one ho2
 refine zx9 (i:=2) lv E0 (zgi ho1 (zaw E0 rfl) (zek hpl (zaw E0 rfl) (zdv (zaa (zaw E0 rfl) zaf)))) fun σ1 H1 s1 l1 E1=>?_
 refine zx9 (i:=3) l1 E1 (zgp (ds:=[.tup [.str "road",.str "X",.str "Xy"],.tup [.str "road",.str "Xy",.str "Z"],.tup [.str "kin",.str "X",.str "Z"],.tup [.str "mark",.str "Xy"]]) (zaa (zcq (zaa zbf (zaa zbf (zaa zbf zaf)))) (zaa (zcq (zaa zbf (zaa zbf (zaa zbf zaf)))) (zaa (zcq (zaa zbf (zaa zbf (zaa zbf zaf)))) (zaa (zcq (zaa zbf (zaa zbf zaf))) zaf))))) fun σ2 H2 s2 l2 E2=>?_
 refine zx9 (i:=3) l2 E2 (zmk (ys:=[.tup [.str "kin",.str "Z",.str "Z"],.tup [.str "road",.str "X",one],.tup [.str "mark",one],.tup [.str "rain"]]) (by show 4+4<=1000;decide) (zaw E2 rfl) (zgp (zaa (zcq (zaa zbf (zaa zbf (zaa zbf zaf)))) (zaa (zcq (zaa zbf (zaa zbf (zaa (zaw E2 rfl) zaf)))) (zaa (zcq (zaa zbf (zaa (zaw E2 rfl) zaf))) (zaa (zcq (zaa zbf zaf)) zaf)))))) fun σ3 H3 s3 l3 E3=>?_
 refine zx9 (i:=3) l3 E3 (zmk (ys:=[.tup [.str "deal",.str "X",.str "Xy",.str "X"],.tup [.str "rig",.str "X",.str "Xy",.str "Z",.str "X",.str "Xy"]]) (by show 8+2<=1000;decide) (zaw E3 rfl) (zgp (zaa (zcq (zaa zbf (zaa zbf (zaa zbf (zaa zbf zaf))))) (zaa (zcq (zaa zbf (zaa zbf (zaa zbf (zaa zbf (zaa zbf (zaa zbf zaf))))))) zaf)))) fun σ4 H4 s4 l4 E4=>?_
 have E4:EnvR (but H4 M) σ4 [some (.int seed),some (.lst pool),some one,some (.lst ((zjg one).map D.tup)),none,none,none]:=E4
 refine zxa (i:=4) l4 E4 (by simp) zaf (Nat.zero_le _) fun a vs5 σ5 H5 o5 i5 n5 h5 r5 l5 k5 E5=>?_
 have hv5:vs5=[]:=by cases r5;rfl
 subst hv5
 have S04:Same H H4:=s1.trans (s2.trans (s3.trans s4))
 have Ha0:H a=none:=none_of S04 k5
 have S05:Same H H5:=S04.trans fun x o e=>(k5 x o e).2
 have hn1:=Int.emod_nonneg (seed/3) (show (3:Int)≠0 by decide)
 have hn2:=Int.emod_lt_of_pos (seed/3) (show (0:Int)<3 by decide)
 have hm1:=Int.emod_nonneg (seed/72) (show (7:Int)≠0 by decide)
 have hm2:=Int.emod_lt_of_pos (seed/72) (show (0:Int)<7 by decide)
 obtain ⟨n,hn⟩:∃n:Nat,1+seed/3%3=(n:Int):=⟨(1+seed/3%3).toNat,by omega⟩
 have hn3:n<=3:=by omega
 refine zfr (M:=a::M) (zhf (n:=n) (by omega) (zaa ((ziv zak (zek (by decide) (zfb ⟨by decide,by decide⟩ (zaw (i:=0) E5 rfl) zak) zak)).eq (by rw [hn])) zaf)) l5 fun H6 s6=>?_
 refine ⟨fun j σ' H'=>∃base us,σ'[4]?=some (some (.ref a))/\H' a=some (.lst us)/\Reps (but H' (a::M)) us (base.map D.tup)/\base.length=j/\(∀c∈base,c∈zjg one)/\Same H H'/\Live (a::M) H'/\Same (but H6 (a::M)) (but H' (a::M))/\EnvR (but H' (a::M)) σ' [some (.int seed),some (.lst pool),some one,some (.lst ((zjg one).map D.tup)),none,none,none],
  ⟨[],[],i5,s6 _ _ h5,.nil,rfl,(fun c hc=>nomatch hc),S05.trans s6,l5.same s6,Same.refl _,E5.same s6⟩,fun j σ' H' ⟨_,_,_,_,_,_,_,_,x,y,_⟩=>⟨y,x⟩,?_,?_⟩
 ·rintro j d x σ' H' H'' hd ⟨base,us,j4,ha,rb,hbl,hbm,S0,l',S',E'⟩ s7 rx
  obtain ⟨hj,rfl⟩:=zhh 0 n j d hd
  obtain ⟨dr,hr1,hr2,_⟩:=zol (l:=(zjg one).map D.tup) (n:=10) (seed/9+(0+(j:Int))*(1+seed/72%7)) (by decide) rfl
  obtain ⟨row,hrow,rfl⟩:=mem_map.mp hr2
  have E7:EnvR (but H'' (a::M)) (σ'.set 5 (some x)) [some (.int seed),some (.lst pool),some one,some (.lst ((zjg one).map D.tup)),none,some (.int (0+(j:Int))),none]:=(E'.same s7).set 5 rx
  have c4:(σ'.set 5 (some x))[4]?=some (some (.ref a)):=(getElem?_set_ne (by decide)).trans j4
  refine zxb (l'.same s7) E7 (a:=a) (by simp) c4 (s7 _ _ ha) (rb.mono (s7.but _)) (by rw [length_map];exact zar (by omega)) (zgi hr1 (zaw E7 rfl) (zek (by decide) (ziv (zfb ⟨by decide,by decide⟩ (zaw E7 rfl) zak) (ev_mul (.inr ⟨by omega,by omega⟩) (zaw E7 rfl) (ziv zak (zek (by decide) (zfb ⟨by decide,by decide⟩ (zaw E7 rfl) zak) zak)))) zak)) fun v8 H8 k8 l8 h8 r8 E8=>?_
  have S8:Same (but H'' (a::M)) (but H8 (a::M)):=zfg (by simp) k8
  refine ⟨base++[row],_,c4,h8,by rw [map_append];exact r8,by rw [length_append,hbl];rfl,fun c hc=>?_,zcs (S0.trans s7) Ha0 k8,l8,S'.trans ((s7.but _).trans S8),E8.drop 5⟩
  rcases mem_append.mp hc with z|z
  ·exact hbm c z
  ·rw [mem_singleton.mp z];exact hrow
 ·rintro σ' H' ⟨base,us,j4,ha,rb,hbl,hbm,S0,l',S',E'⟩
  have hlenr:((List.range n).map fun (k:Nat)=>D.int (0+k)).length=n:=by simp
  rw [hlenr] at hbl
  have hrows:=rows_ok gone
  have hbA:∀c∈base,AtOk c/\zap c=false:=fun c hc=>hrows c (hbm c hc)
  have BI0:BI base base:=BI.start hbA (by omega)
  have hBl:BlOk base:=zuw (fun c hc=>(hbA c hc).1) (by omega)
  have lM:Live M H':=fun z hz=>l' z (mem_cons_of_mem _ hz)
  have hax:∀b∈zaj [] base,D.str b∈xyz/\zaq (.str b)=true:=fun b hb=>zok (fun c hc=>(hbA c hc).1) hb
  refine ⟨.ref a,j4,M,base,.ref a,rfl,lM,zep n5 ha rb,hBl,fun p H8 s8 hp h8=>?_⟩
  have hpM:p∉a::M:=l'.fresh hp
  have l8:=l'.same s8
  have E8:EnvR (but H8 (a::M)) (σ'.set 6 (some (.ref p))) [some (.int seed),some (.lst pool),some one,some (.lst ((zjg one).map D.tup)),none,none,some (zcp (zaj [] base))]:=(E'.same s8).set 6 (.lst (by rw [zat hpM];exact h8) (zjh _))
  have c4:(σ'.set 6 (some (.ref p)))[4]?=some (some (.ref a)):=(getElem?_set_ne (by decide)).trans j4
  have rb8:=rb.mono (s8.but (a::M))
  have ha8:=s8 _ _ ha
  have S08:=S0.trans s8
  clear rb ha E' l' S' j4 S0
  generalize hBs:zaj [] base=Bs at E8 hax
  have gpB:∀b∈Bs,GP (.str b):=fun b hb=>gp_xyz _ (hax b hb).1
  have hD:∀{d:D},d∈Bs.map D.str->∃b,b∈Bs/\d=.str b:=fun {d} h=>by
   obtain ⟨b,hb,e⟩:=mem_map.mp h
   exact ⟨b,hb,e.symm⟩
  let P:Nat->St->Hp->Prop:=fun N σ' X=>∃bs us,BI base bs/\bs.length<=N/\σ'[4]?=some (some (.ref a))/\X a=some (.lst us)/\Reps (but X (a::M)) us (bs.map D.tup)/\Same H X/\Live (a::M) X/\EnvR (but X (a::M)) σ' [some (.int seed),some (.lst pool),some one,some (.lst ((zjg one).map D.tup)),none,none,some (zcp Bs)]
  have hi1:=Int.emod_nonneg (seed/5) (show (2:Int)≠0 by decide)
  have hi2:=Int.emod_lt_of_pos (seed/5) (show (0:Int)<2 by decide)
  have g3:∀{x y:D},GP x->GP y->∀z∈[x,y],GP z:=fun {x y} hx hy z hz=>by
   simp only [mem_cons,not_mem_nil,or_false] at hz
   rcases hz with rfl|rfl
   ·exact hx
   ·exact hy
  have gfin:∀{r:Str} {x y:D},r∈(["unlike","less"]:List Str)->GP x->GP y->(zaq x=true->x.name∈Bs)->(zaq y=true->y.name∈Bs)->AtOk [.str r,x,y]/\zap [.str r,x,y]=true/\(∃r' x' y',([.str r,x,y]:List D)=[.str r',x',y'])/\∀b∈za9 [] [.str r,x,y],b∈zaj [] base:=fun {r x y} hr hx hy bx by_=>by
   refine ⟨zfp ?_ (g3 hx hy) (show 2<=9 by decide),?_,⟨r,x,y,rfl⟩,?_⟩
   ·simp only [mem_cons,not_mem_nil,or_false] at hr
    rcases hr with rfl|rfl<;>decide
   ·simp only [mem_cons,not_mem_nil,or_false] at hr
    rcases hr with rfl|rfl<;>(unfold zap;simp)
   ·rw [hBs]
    refine zkm (zlf r ?_).2 bx by_
    simp only [mem_cons,not_mem_nil,or_false] at hr
    rcases hr with rfl|rfl<;>decide
  have hnil:∀{b c:Bool},(b&&c)=true->b=true:=fun h=>(Bool.and_eq_true_iff.mp h).1
  have hbne:decide ((0:Int)<(((Bs.map D.str).length:Nat):Int))=true->Bs.map D.str≠[]:=fun h z=>by rw [z] at h;exact absurd h (by decide)
  refine s_ifK (P 4) l8 E8 (zgb (zav (ev_gt (zdv (K:=K) (zaa (zaw E8 (i:=6) rfl) zaf)) (zak (i:=0)))) fun _=>zav (zie (zek (i:=seed) (j:=5) (by decide) (zaw E8 (i:=0) rfl) zak) (zak (i:=1)))) (fun hk e X sX lX EX=>?_) (fun hk e X sX lX EX=>nx<|hk _ _ ⟨base,us,BI0,by omega,c4,sX _ _ ha8,rb8.mono (sX.but _),S08.trans sX,lX,EX⟩) ?_
  ·have hne:=hbne (hnil e)
   obtain ⟨d1,q1,m1⟩:=at_last hne
   obtain ⟨b1,hb1,rfl⟩:=hD m1
   obtain ⟨b0,r0,e0⟩:∃b0 r0,Bs=b0::r0:=by
    cases Bs with
    |nil=>exact absurd rfl hne
    |cons x y=>exact ⟨x,y,rfl⟩
   have hb0:b0∈Bs:=by rw [e0];exact mem_cons_self
   have q0:atI (Bs.map D.str) 0=some (.str b0):=by rw [e0];exact zct
   obtain ⟨w1,w2,w3,w4⟩:=gfin (r:="unlike") (x:=.str b0) (y:=.str b1) (by decide) (gpB _ hb0) (gpB _ hb1) (fun _=>hb0) (fun _=>hb1)
   refine s_ins (n:=seed/5%2) (d:=.tup [.str "unlike",.str b0,.str b1]) lX EX (by simp) c4 (sX _ _ ha8) (rb8.mono (sX.but _)) (by rw [length_map];omega) ⟨hi1,by omega⟩ (zek (by decide) (zfb ⟨by decide,by decide⟩ (zaw EX rfl) zak) zak) (zcq (zaa zbf (zaa (zgi q0 (zaw EX rfl) zak) (zaa (zgi q1 (zaw EX rfl) (zmi zak)) zaf)))) fun vs' Y kY lY hY rY EY=>?_
   refine hk _ _ ⟨_,vs',BI0.ins (seed/5%2).toNat w1 w2 w3 w4,?_,c4,hY,?_,zcs (S08.trans sX) Ha0 kY,lY,EY⟩
   ·rw [length_append,length_cons,length_take,List.length_drop];omega
   ·rw [map_append,map_cons,List.map_take,List.map_drop];exact rY
  rintro σ9 H9 ⟨bs9,us9,BI9,ln9,i9,h9,r9,S9,l9,E9⟩
  refine s_ifK (P 5) l9 E9 (zgb (zav (ev_gt (zdv (K:=K) (zaa (zaw E9 (i:=6) rfl) zaf)) (zak (i:=0)))) fun _=>zav (zie (zek (i:=seed) (j:=5) (by decide) (zaw E9 (i:=0) rfl) zak) (zak (i:=2)))) (fun hk e X sX lX EX=>?_) (fun hk e X sX lX EX=>nx<|hk _ _ ⟨bs9,us9,BI9,by omega,i9,sX _ _ h9,r9.mono (sX.but _),S9.trans sX,lX,EX⟩) ?_
  ·have hne:=hbne (hnil e)
   obtain ⟨d1,q1,m1⟩:=at_last hne
   obtain ⟨b1,hb1,rfl⟩:=hD m1
   obtain ⟨w1,w2,w3,w4⟩:=gfin (r:="less") (x:=.str b1) (y:=one) (by decide) (gpB _ hb1) gone (fun _=>hb1) (fun z=>by rw [hP.nb one ho2] at z;cases z)
   refine s_ins (n:=seed/5%2) (d:=.tup [.str "less",.str b1,one]) lX EX (by simp) i9 (sX _ _ h9) (r9.mono (sX.but _)) (by rw [length_map];omega) ⟨hi1,by omega⟩ (zek (by decide) (zfb ⟨by decide,by decide⟩ (zaw EX rfl) zak) zak) (zcq (zaa zbf (zaa (zgi q1 (zaw EX rfl) (zmi zak)) (zaa (zaw EX rfl) zaf)))) fun vs' Y kY lY hY rY EY=>?_
   refine hk _ _ ⟨_,vs',BI9.ins (seed/5%2).toNat w1 w2 w3 w4,?_,i9,hY,?_,zcs (S9.trans sX) Ha0 kY,lY,EY⟩
   ·rw [length_append,length_cons,length_take,List.length_drop];omega
   ·rw [map_append,map_cons,List.map_take,List.map_drop];exact rY
  rintro σb Hb ⟨bsb,usb,BIb,lnb,ib,hb,rb',Sb,lb,Eb⟩
  obtain ⟨th,ht1,ht2,_⟩:=zol (l:=pool) (n:=pool.length) (seed/20) (by rw [hP.len];decide) rfl
  refine s_ifK (P 6) lb Eb (zgb (zav (ev_gt (zdv (K:=K) (zaa (zaw Eb (i:=6) rfl) zaf)) (zak (i:=0)))) fun _=>zgb (zav (ev_inL (d:=.int (seed%5)) (es:=[.int 1,.int 2]) (fun e he=>zfe ((by decide:∀e∈([.int 1,.int 2]:List D),e.sc=true) e he) rfl) (zek (i:=seed) (j:=5) (by decide) (zaw Eb (i:=0) rfl) zak) (zgp (zaa (zak (i:=1)) (zaa (zak (i:=2)) zaf))))) fun _=>zav (zie (zek (i:=seed/10) (j:=2) (by decide) (zfb (i:=seed) (j:=10) ⟨by decide,by decide⟩ (zaw Eb (i:=0) rfl) zak) zak) (zak (i:=1)))) (fun hk e X sX lX EX=>?_) (fun hk e X sX lX EX=>nx<|hk _ _ ⟨bsb,usb,BIb,by omega,ib,sX _ _ hb,rb'.mono (sX.but _),Sb.trans sX,lX,EX⟩) ?_
  ·have hne:=hbne (hnil e)
   obtain ⟨b0,r0,e0⟩:∃b0 r0,Bs=b0::r0:=by
    cases Bs with
    |nil=>exact absurd rfl hne
    |cons x y=>exact ⟨x,y,rfl⟩
   have hb0:b0∈Bs:=by rw [e0];exact mem_cons_self
   have q0:atI (Bs.map D.str) 0=some (.str b0):=by rw [e0];exact zct
   obtain ⟨w1,w2,w3,w4⟩:=gfin (r:="unlike") (x:=.str b0) (y:=th) (by decide) (gpB _ hb0) (hP.gp th ht2) (fun _=>hb0) (fun z=>by rw [hP.nb th ht2] at z;cases z)
   refine zxb lX EX (a:=a) (by simp) ib (sX _ _ hb) (rb'.mono (sX.but _)) (by rw [length_map];exact zar (by omega)) (zcq (zaa zbf (zaa (zgi q0 (zaw EX rfl) zak) (zaa (zgi ht1 (zaw EX rfl) (zek hpl (zfb ⟨by decide,by decide⟩ (zaw EX rfl) zak) (zdv (zaa (zaw EX rfl) zaf)))) zaf)))) fun vY Y kY lY hY rY EY=>?_
   refine hk _ _ ⟨bsb++[[.str "unlike",.str b0,th]],_,BIb.snoc w1 w2 w3 w4,?_,ib,hY,?_,zcs (Sb.trans sX) Ha0 kY,lY,EY⟩
   ·rw [length_append,length_singleton];omega
   ·rw [map_append];exact rY
  rintro σc Hc ⟨bsc,usc,BIc,lnc,ic,hc,rc,Sc,lc,Ec⟩
  refine zk9 lc Ec (zav (zie (zek (by decide) (zaw Ec rfl) zak) zak)) (fun e X sX lX EX=>?_) (fun e X sX lX EX=>nx ?_)
  ·refine zes lX (zgp (ds:=[.tup [.str "less",.int (seed/11%3),.int 1]]) (zaa (zcq (zaa zbf (zaa (zek (by decide) (zfb ⟨by decide,by decide⟩ (zaw EX rfl) zak) zak) (zaa zak zaf)))) zaf)) fun v Y sY rY=>q _ v Y ⟨[[.str "less",.int (seed/11%3),.int 1]],rfl,⟨[],?_⟩,(show 1<=10 by decide)⟩ (Sc.trans (sX.trans sY)) (rY.mono (zcj fun z hz=>mem_cons_of_mem _ hz))
   refine ⟨?_,fun c hc=>?_,fun g hg _=>?_,by decide⟩
   ·show List.filter _ [_]=[]
    rw [List.filter_cons_of_neg (by unfold zap;simp)]
    rfl
   ·rw [mem_singleton.mp hc]
    exact zfp (by decide) (g3 (gp_int _) (gp_int _)) (show 2<=9 by decide)
   ·rw [mem_singleton.mp hg]
    exact ⟨⟨_,_,_,rfl⟩,zkm (zlf "less" (by decide)).2 (fun z=>nomatch z) (fun z=>nomatch z)⟩
  ·exact ⟨.ref a,ic,q _ (.ref a) X ⟨bsc,rfl,⟨base,BIc⟩,by omega⟩ (Sc.trans sX) (zep n5 (sX _ _ hc) (rc.mono (sX.but _)))⟩
end
end K05
namespace FL
open PySem L2
theorem zvu:∀{l:List D},(∀x∈l,x.noL=true)->D.noLs l=true
 |[],_=>by simp [D.noLs]
 |x::r,h=>by
  rw [D.noLs,h x mem_cons_self,zvu fun y hy=>h y (mem_cons_of_mem _ hy)]
  rfl
theorem noL_sc {d:D}(h:d.sc=true):d.noL=true:=by
 cases d<;>first|rfl|(simp [D.sc] at h)
theorem noL_tup {l:List D}(h:∀x∈l,x.noL=true):(D.tup l).noL=true:=by rw [D.noL];exact zvu h
theorem zpj {l:List D}(h:∀x∈l,x.sc=true):(D.tup l).noL=true:=noL_tup fun x hx=>noL_sc (h x hx)
def ownK:HO->Bool
 |.lst _=>true|.dK _=>true|.dT _=>true|_=>false
mutual
theorem Rep.narrow {H:Hp}{M own:List Addr}(hk:∀a∈own,∃o,H a=some o/\ownK o=true):∀{v:V} {d:D},d.noL=true->Rep (but H M) v d->Rep (but H (own++M)) v d
 |_,_,_,.non=>.non
 |_,_,_,.bl b=>.bl b
 |_,_,_,.int b=>.int b
 |_,_,_,.str b=>.str b
 |_,_,hd,.tup (a:=c) h r=>by
  refine .tup ?_ (Reps.narrow hk (by rw [D.noL] at hd;exact hd) r)
  obtain ⟨h1,h2⟩:=zac h
  rw [zat]
  ·exact h2
  ·intro z
   rcases mem_append.mp z with z|z
   ·obtain ⟨o,e,ko⟩:=hk c z
    rw [e] at h2;cases h2;cases ko
   ·exact h1 z
 |_,_,hd,.lst _ _=>by cases hd
theorem Reps.narrow {H:Hp}{M own:List Addr}(hk:∀a∈own,∃o,H a=some o/\ownK o=true):∀{vs:List V} {ds:List D},D.noLs ds=true->Reps (but H M) vs ds->Reps (but H (own++M)) vs ds
 |_,_,_,.nil=>.nil
 |_,_,hd,.cons h r=>by
  rw [D.noLs,Bool.and_eq_true] at hd
  exact .cons (Rep.narrow hk hd.1 h) (Reps.narrow hk hd.2 r)
end
inductive RepT (G:Hp):List (List Key×V)->List (List D×D)->Prop
 |nil:RepT G [] []
 |cons {v:V} {ks:List (List Key×V)} {ps:List (List D×D)} {key:List D} {d:D}:zir key->Rep G v d->RepT G ks ps->RepT G ((zn9 key,v)::ks) ((key,d)::ps)
theorem RepT.mono {G G':Hp}(e:Same G G'):∀{ks:List (List Key×V)} {ps:List (List D×D)},RepT G ks ps->RepT G' ks ps
 |_,_,.nil=>.nil
 |_,_,.cons h r t=>.cons h (r.mono e) (t.mono e)
inductive Sl where
 |no
 |d (x:D)
 |l (xs:List D)
 |k (S:zan)
 |t (ps:List (List D×D))
 |kd (S:zan)
 |td (ps:List (List D×D))
def Sl.own:Sl->Bool
 |.l _=>true|.k _=>true|.t _=>true|_=>false
def Sl.see:Sl->Option D
 |.d x=>some x|.l xs=>some (.lst xs)|_=>none
def Sl.dat:Sl->Option D
 |.d x=>some x|_=>none
def SlN (G H:Hp)(own:List Addr)(o:Option (Option V)):Sl->Prop
 |.no=>True
 |.d x=>∃v,o=some (some v)/\Rep G v x
 |.l xs=>∃a us,o=some (some (.ref a))/\a∈own/\H a=some (.lst us)/\Reps G us xs
 |.k S=>∃a,o=some (some (.ref a))/\a∈own/\H a=some (.dK (zbk [] (zbx S)))/\∀p∈S,p.2.sc=true
 |.t ps=>∃a kvs,o=some (some (.ref a))/\a∈own/\H a=some (.dT kvs)/\RepT G kvs ps
 |.kd S=>∃a,o=some (some (.ref a))/\G a=some (.dK (zbk [] (zbx S)))/\∀p∈S,p.2.sc=true
 |.td ps=>∃a kvs,o=some (some (.ref a))/\G a=some (.dT kvs)/\RepT G kvs ps
def SlW (G:Hp)(o:Option (Option V)):Sl->Prop
 |.no=>True
 |.d x=>∃v,o=some (some v)/\Rep G v x
 |.l xs=>∃v,o=some (some v)/\Rep G v (.lst xs)
 |.k S=>∃a,o=some (some (.ref a))/\G a=some (.dK (zbk [] (zbx S)))/\∀p∈S,p.2.sc=true
 |.t ps=>∃a kvs,o=some (some (.ref a))/\G a=some (.dT kvs)/\RepT G kvs ps
 |.kd S=>∃a,o=some (some (.ref a))/\G a=some (.dK (zbk [] (zbx S)))/\∀p∈S,p.2.sc=true
 |.td ps=>∃a kvs,o=some (some (.ref a))/\G a=some (.dT kvs)/\RepT G kvs ps
theorem SlW.mono {G G':Hp}(e:Same G G'){o:Option (Option V)}:∀{s:Sl},SlW G o s->SlW G' o s
 |.no,_=>trivial
 |.d _,⟨v,h,r⟩=>⟨v,h,r.mono e⟩
 |.l _,⟨v,h,r⟩=>⟨v,h,r.mono e⟩
 |.k _,⟨a,h,r,z⟩=>⟨a,h,e _ _ r,z⟩
 |.t _,⟨a,kvs,h,r,z⟩=>⟨a,kvs,h,e _ _ r,z.mono e⟩
 |.kd _,⟨a,h,r,z⟩=>⟨a,h,e _ _ r,z⟩
 |.td _,⟨a,kvs,h,r,z⟩=>⟨a,kvs,h,e _ _ r,z.mono e⟩
structure EnvW (G:Hp)(σ:St)(δ:List Sl):Prop where
 len:σ.length=δ.length
 get:∀(i:Nat) (s:Sl),δ[i]?=some s->SlW G σ[i]? s
theorem EnvW.mono {G G':Hp}{σ:St}{δ:List Sl}(h:EnvW G σ δ)(e:Same G G'):EnvW G' σ δ:=⟨h.len,fun i s q=>(h.get i s q).mono e⟩
theorem EnvW.env {G:Hp}{σ:St}{δ:List Sl}(h:EnvW G σ δ):EnvR G σ (δ.map Sl.see):=by
 refine ⟨by rw [length_map];exact h.len,fun i d q=>?_⟩
 rw [getElem?_map] at q
 cases e:δ[i]? with
 |none=>rw [e] at q;cases q
 |some s=>
  rw [e] at q
  have q:s.see=some d:=Option.some.inj q
  have w:=h.get i s e
  cases s with
  |no=>cases q
  |d x=>cases q;exact w
  |l x=>cases q;exact w
  |k x=>cases q
  |t x=>cases q
  |kd x=>cases q
  |td x=>cases q
theorem EnvW.v {G:Hp}{σ:St}{δ:List Sl}{i:Nat}{d:D}(h:EnvW G σ δ)(e:(δ[i]?).bind Sl.see=some d):EvM (zdk i) G σ d:=by
 refine zaw h.env (d:=d) ?_
 rw [getElem?_map]
 cases q:δ[i]? with
 |none=>rw [q] at e;cases e
 |some s=>rw [q] at e;exact congrArg some e
theorem EnvR.vd {G:Hp}{σ:St}{δ:List Sl}{i:Nat}{d:D}(h:EnvR G σ (δ.map Sl.dat))(e:(δ[i]?).bind Sl.dat=some d):EvM (zdk i) G σ d:=by
 refine zaw h (d:=d) ?_
 rw [getElem?_map]
 cases q:δ[i]? with
 |none=>rw [q] at e;cases e
 |some s=>rw [q] at e;exact congrArg some e
structure Bx (B:Hp)(M0 own:List Addr)(σ:St)(H:Hp)(δ:List Sl):Prop where
 len:σ.length=δ.length
 same:Same B H
 liveB:Live M0 B
 kind:∀a∈own,B a=none/\∃o,H a=some o/\ownK o=true
 slot:∀(i:Nat) (s:Sl),δ[i]?=some s->SlN (but H (own++M0)) H own σ[i]? s
 apart:∀(i j:Nat) (s t:Sl) (a:Addr),i≠j->δ[i]?=some s->δ[j]?=some t->s.own=true->t.own=true->σ[i]?=some (some (.ref a))->σ[j]?=some (some (.ref a))->False
section
variable {B:Hp}{M0 own:List Addr}{σ:St}{H H':Hp}{δ:List Sl}
theorem SlN.mono {G G':Hp}{o:Option (Option V)}(e:Same G G')(k:∀a∈own,∀u,H a=some u->H' a=some u):∀{s:Sl},SlN G H own o s->SlN G' H' own o s
 |.no,_=>trivial
 |.d _,⟨v,h,r⟩=>⟨v,h,r.mono e⟩
 |.l _,⟨a,us,h,m,q,r⟩=>⟨a,us,h,m,k a m _ q,r.mono e⟩
 |.k _,⟨a,h,m,q,z⟩=>⟨a,h,m,k a m _ q,z⟩
 |.t _,⟨a,kvs,h,m,q,z⟩=>⟨a,kvs,h,m,k a m _ q,z.mono e⟩
 |.kd _,⟨a,h,r,z⟩=>⟨a,h,e _ _ r,z⟩
 |.td _,⟨a,kvs,h,r,z⟩=>⟨a,kvs,h,e _ _ r,z.mono e⟩
theorem Bx.live (b:Bx B M0 own σ H δ):Live M0 H:=b.liveB.same b.same
theorem Bx.out (b:Bx B M0 own σ H δ){a:Addr}(h:a∈own):a∉M0:=fun z=>b.liveB a z (b.kind a h).1
theorem Bx.kd (b:Bx B M0 own σ H δ):∀a∈own,∃o,H a=some o/\ownK o=true:=fun a h=>(b.kind a h).2
theorem Bx.liveO (b:Bx B M0 own σ H δ):Live (own++M0) H:=fun a ha=>by
 rcases mem_append.mp ha with z|z
 ·obtain ⟨o,e,_⟩:=b.kd a z
  rw [e];exact fun z=>nomatch z
 ·exact b.live a z
theorem Bx.seen (b:Bx B M0 own σ H δ):Same (but H (own++M0)) (but H M0):=zcj fun a h=>mem_append_right _ h
theorem Bx.wide (b:Bx B M0 own σ H δ):EnvW (but H M0) σ δ:=⟨b.len,fun i s q=>by
 have w:=b.slot i s q
 cases s with
 |no=>trivial
 |d x=>obtain ⟨v,h,r⟩:=w;exact ⟨v,h,r.mono b.seen⟩
 |l x=>obtain ⟨a,us,h,m,e,r⟩:=w;exact ⟨.ref a,h,.lst (by rw [zat (b.out m)];exact e) (r.mono b.seen)⟩
 |k x=>obtain ⟨a,h,m,e,r⟩:=w;exact ⟨a,h,by rw [zat (b.out m)];exact e,r⟩
 |t x=>obtain ⟨a,kvs,h,m,e,r⟩:=w;exact ⟨a,kvs,h,by rw [zat (b.out m)];exact e,r.mono b.seen⟩
 |kd x=>exact SlW.mono (s:=.kd x) b.seen w
 |td x=>exact SlW.mono (s:=.td x) b.seen w⟩
theorem Bx.nar (b:Bx B M0 own σ H δ):EnvR (but H (own++M0)) σ (δ.map Sl.dat):=by
 refine ⟨by rw [length_map];exact b.len,fun i d q=>?_⟩
 rw [getElem?_map] at q
 cases e:δ[i]? with
 |none=>rw [e] at q;cases q
 |some s=>
  rw [e] at q
  have q:s.dat=some d:=Option.some.inj q
  have w:=b.slot i s e
  cases s with
  |no=>cases q
  |d x=>cases q;exact w
  |l x=>cases q
  |k x=>cases q
  |t x=>cases q
  |kd x=>cases q
  |td x=>cases q
theorem Bx.grow (b:Bx B M0 own σ H δ)(s:Same H H'):Bx B M0 own σ H' δ:=
 ⟨b.len,b.same.trans s,b.liveB,fun a h=>⟨(b.kind a h).1,let ⟨o,e,k⟩:=b.kd a h;⟨o,s _ _ e,k⟩⟩,fun i t q=>(b.slot i t q).mono (s.but _) fun a _ u e=>s _ _ e,b.apart⟩
theorem zdd {α:Type}{l:List α}{i j:Nat}{x s:α}(h:(l.set i x)[j]?=some s):(i=j/\s=x/\i<l.length)\/(i≠j/\l[j]?=some s):=by
 by_cases e:i=j
 ·subst e
  by_cases hi:i<l.length
  ·rw [getElem?_set_self hi] at h
   exact .inl ⟨rfl,(Option.some.inj h).symm,hi⟩
  ·rw [getElem?_eq_none (by simpa using Nat.le_of_not_lt hi)] at h;cases h
 ·rw [getElem?_set_ne e] at h
  exact .inr ⟨e,h⟩
theorem Bx.set (b:Bx B M0 own σ H δ)(i:Nat){v:V}{x:D}(r:Rep (but H (own++M0)) v x):Bx B M0 own (σ.set i (some v)) H (δ.set i (.d x)):=by
 refine ⟨by simp [b.len],b.same,b.liveB,b.kind,fun j s q=>?_,fun j k s t a jk hs ht ks kt es et=>?_⟩
 ·rcases zdd q with ⟨rfl,rfl,hi⟩|⟨ne,q⟩
  ·exact ⟨v,getElem?_set_self (by rw [b.len];exact hi),r⟩
  ·rw [getElem?_set_ne ne];exact b.slot j s q
 ·rcases zdd hs with ⟨rfl,rfl,_⟩|⟨n1,hs⟩
  ·cases ks
  ·rcases zdd ht with ⟨rfl,rfl,_⟩|⟨n2,ht⟩
   ·cases kt
   ·rw [getElem?_set_ne n1] at es
    rw [getElem?_set_ne n2] at et
    exact b.apart j k s t a jk hs ht ks kt es et
theorem but_fresh {H:Hp}{M:List Addr}{p:Addr}{o:HO}(h:H p=none):but (upd H p o) (p::M)=but H M:=by
 funext c
 unfold FL.but
 by_cases e:c=p
 ·subst e
  rw [if_pos mem_cons_self]
  split
  ·rfl
  ·exact h.symm
 ·by_cases z:c∈M
  ·rw [if_pos (mem_cons_of_mem _ z),if_pos z]
  ·rw [if_neg (fun w=>by rcases mem_cons.mp w with w|w;exact e w;exact z w),if_neg z,zal e]
theorem Bx.new (b:Bx B M0 own σ H δ)(i:Nat){p:Addr}{o:HO}{s:Sl}(hp:H p=none)(ho:ownK o=true)(hs:SlN (but H (own++M0)) (upd H p o) (p::own) (some (some (.ref p))) s):Bx B M0 (p::own) (σ.set i (some (.ref p))) (upd H p o) (δ.set i s):=by
 have eb:but (upd H p o) (p::own++M0)=but H (own++M0):=but_fresh hp
 have nin:∀{a:Addr},a∈own->a≠p:=fun {a} ha=>by
  obtain ⟨u,e,_⟩:=b.kd a ha
  exact zax e hp
 have hB:B p=none:=by
  cases q:B p with
  |none=>rfl
  |some u=>rw [b.same _ _ q] at hp;cases hp
 refine ⟨by simp [b.len],b.same.trans (zbm hp o),b.liveB,fun a ha=>?_,fun j t q=>?_,fun j k s' t' a jk h1 h2 k1 k2 e1 e2=>?_⟩
 ·rcases mem_cons.mp ha with z|z
  ·exact ⟨by rw [z];exact hB,o,by rw [z];exact zae,ho⟩
  ·obtain ⟨u,e,ku⟩:=b.kd a z
   exact ⟨(b.kind a z).1,u,by rw [zal (nin z)];exact e,ku⟩
 ·rw [eb]
  rcases zdd q with ⟨rfl,rfl,hi⟩|⟨ne,q⟩
  ·rw [getElem?_set_self (by rw [b.len];exact hi)];exact hs
  ·rw [getElem?_set_ne ne]
   have w:=b.slot j t q
   have keep:∀{a:Addr} {u:HO},a∈own->H a=some u->upd H p o a=some u:=fun {a u} m e=>by rw [zal (nin m)];exact e
   cases t with
   |no=>trivial
   |d x=>exact w
   |l x=>obtain ⟨a,us,h,m,e,r⟩:=w;exact ⟨a,us,h,mem_cons_of_mem _ m,keep m e,r⟩
   |k x=>obtain ⟨a,h,m,e,r⟩:=w;exact ⟨a,h,mem_cons_of_mem _ m,keep m e,r⟩
   |t x=>obtain ⟨a,kvs,h,m,e,r⟩:=w;exact ⟨a,kvs,h,mem_cons_of_mem _ m,keep m e,r⟩
   |kd x=>exact w
   |td x=>exact w
 ·have ownA:∀{m:Nat} {s:Sl},δ[m]?=some s->s.own=true->∀{a:Addr},σ[m]?=some (some (.ref a))->a∈own:=fun {m s} h ks {a} ea=>by
   have w:=b.slot m s h
   cases s with
   |no=>cases ks
   |d x=>cases ks
   |l x=>obtain ⟨a',us,h,mm,_⟩:=w;rw [ea] at h;cases h;exact mm
   |k x=>obtain ⟨a',h,mm,_⟩:=w;rw [ea] at h;cases h;exact mm
   |t x=>obtain ⟨a',kvs,h,mm,_⟩:=w;rw [ea] at h;cases h;exact mm
   |kd x=>cases ks
   |td x=>cases ks
  rcases zdd h1 with ⟨rfl,_,hi⟩|⟨n1,g1⟩
  ·rw [getElem?_set_self (by rw [b.len];exact hi)] at e1
   cases e1
   rcases zdd h2 with ⟨rfl,_,_⟩|⟨n2,g2⟩
   ·exact jk rfl
   ·rw [getElem?_set_ne n2] at e2
    exact nin (ownA g2 k2 e2) rfl
  ·rw [getElem?_set_ne n1] at e1
   rcases zdd h2 with ⟨rfl,_,hi⟩|⟨n2,g2⟩
   ·rw [getElem?_set_self (by rw [b.len];exact hi)] at e2
    cases e2
    exact nin (ownA g1 k1 e1) rfl
   ·rw [getElem?_set_ne n2] at e2
    exact b.apart j k s' t' a jk g1 g2 k1 k2 e1 e2
theorem Bx.put (b:Bx B M0 own σ H δ){i:Nat}{a:Addr}{o:HO}{s s':Sl}(hi:δ[i]?=some s)(hs:s.own=true)(ha:a∈own)(e:σ[i]?=some (some (.ref a)))(ho:ownK o=true)(h:SlN (but H (own++M0)) (upd H a o) own (some (some (.ref a))) s')(hs':s'.own=true):Bx B M0 own σ (upd H a o) (δ.set i s'):=by
 have eb:but (upd H a o) (own++M0)=but H (own++M0):=zcy (mem_append_left _ ha)
 refine ⟨by simp [b.len],fun c u q=>?_,b.liveB,fun c hc=>?_,fun j t q=>?_,fun j k s1 t1 c jk h1 h2 k1 k2 e1 e2=>?_⟩
 ·rw [zal (fun z:c=a=>by rw [z,(b.kind a ha).1] at q;cases q)];exact b.same _ _ q
 ·refine ⟨(b.kind c hc).1,?_⟩
  by_cases z:c=a
  ·exact ⟨o,by rw [z];exact zae,ho⟩
  ·rw [zal z];exact b.kd c hc
 ·rw [eb]
  rcases zdd q with ⟨rfl,rfl,_⟩|⟨ne,q⟩
  ·rw [e];exact h
  ·have w:=b.slot j t q
   have keep:∀{c:Addr} {u:HO},t.own=true->σ[j]?=some (some (.ref c))->H c=some u->upd H a o c=some u:=fun {c u} kt ec hu=>by
    rw [zal (fun z:c=a=>by subst z;exact b.apart i j s t c ne hi q hs kt e ec)];exact hu
   cases t with
   |no=>trivial
   |d x=>exact w
   |l x=>obtain ⟨c,us,h,m,e,r⟩:=w;exact ⟨c,us,h,m,keep rfl h e,r⟩
   |k x=>obtain ⟨c,h,m,e,r⟩:=w;exact ⟨c,h,m,keep rfl h e,r⟩
   |t x=>obtain ⟨c,kvs,h,m,e,r⟩:=w;exact ⟨c,kvs,h,m,keep rfl h e,r⟩
   |kd x=>exact w
   |td x=>exact w
 ·have old:∀{m:Nat} {u:Sl},(δ.set i s')[m]?=some u->u.own=true->∃u',δ[m]?=some u'/\u'.own=true:=fun {m u} hm ku=>by
   rcases zdd hm with ⟨rfl,rfl,_⟩|⟨_,hm⟩
   ·exact ⟨s,hi,hs⟩
   ·exact ⟨u,hm,ku⟩
  obtain ⟨u1,g1,m1⟩:=old h1 k1
  obtain ⟨u2,g2,m2⟩:=old h2 k2
  exact b.apart j k u1 u2 c jk g1 g2 m1 m2 e1 e2
theorem Bx.show (b:Bx B M0 own σ H δ){i:Nat}{xs:List D}(hi:δ[i]?=some (.l xs)):∃own',Bx B M0 own' σ H (δ.set i (.d (.lst xs))):=by
 obtain ⟨a,us,e,m,ha,r⟩:=b.slot i _ hi
 refine ⟨own.filter fun c=>decide (c≠a),by simp [b.len],b.same,b.liveB,fun c hc=>b.kind c (mem_filter.mp hc).1,fun j t q=>?_,fun j k s1 t1 c jk h1 h2 k1 k2 e1 e2=>?_⟩
 ·have S:Same (but H (own++M0)) (but H (own.filter (fun c=>decide (c≠a))++M0)):=zcj fun c hc=>by
   rcases mem_append.mp hc with z|z
   ·exact mem_append_left _ (mem_filter.mp z).1
   ·exact mem_append_right _ z
  rcases zdd q with ⟨rfl,rfl,_⟩|⟨ne,q⟩
  ·refine ⟨.ref a,e,.lst ?_ (r.mono S)⟩
   rw [zat]
   ·exact ha
   ·intro z
    rcases mem_append.mp z with z|z
    ·exact absurd rfl (of_decide_eq_true (mem_filter.mp z).2)
    ·exact b.out m z
  ·have w:=b.slot j t q
   have keep:∀{c:Addr},t.own=true->σ[j]?=some (some (.ref c))->c∈own->c∈own.filter (fun c=>decide (c≠a)):=fun {c} kt ec mc=>
    mem_filter.mpr ⟨mc,decide_eq_true fun z=>by subst z;exact b.apart i j _ t c ne hi q rfl kt e ec⟩
   cases t with
   |no=>trivial
   |d x=>obtain ⟨v,h,r⟩:=w;exact ⟨v,h,r.mono S⟩
   |l x=>obtain ⟨c,us,h,m,e,r⟩:=w;exact ⟨c,us,h,keep rfl h m,e,r.mono S⟩
   |k x=>obtain ⟨c,h,m,e,r⟩:=w;exact ⟨c,h,keep rfl h m,e,r⟩
   |t x=>obtain ⟨c,kvs,h,m,e,r⟩:=w;exact ⟨c,kvs,h,keep rfl h m,e,r.mono S⟩
   |kd x=>exact SlW.mono (s:=.kd x) S w
   |td x=>exact SlW.mono (s:=.td x) S w
 ·rcases zdd h1 with ⟨rfl,rfl,_⟩|⟨n1,h1⟩
  ·cases k1
  ·rcases zdd h2 with ⟨rfl,rfl,_⟩|⟨n2,h2⟩
   ·cases k2
   ·exact b.apart j k s1 t1 c jk h1 h2 k1 k2 e1 e2
theorem Bx.base (b:Bx B M0 own σ H δ):Bx (but H own) M0 own σ H δ:=by
 refine ⟨b.len,zqa H own,fun a ha=>?_,fun a ha=>⟨by unfold FL.but;rw [if_pos ha],b.kd a ha⟩,b.slot,b.apart⟩
 rw [zat (fun z=>b.out z ha)]
 exact b.live a ha
theorem Bx.back {B':Hp}(b:Bx B' M0 own σ H δ)(s:Same B B')(l:Live M0 B):Bx B M0 own σ H δ:=
 ⟨b.len,s.trans b.same,l,fun a ha=>⟨(by
  cases q:B a with
  |none=>rfl
  |some u=>exact absurd (b.kind a ha).1 (by rw [s _ _ q];exact fun z=>nomatch z)),b.kd a ha⟩,b.slot,b.apart⟩
theorem Bx.sub (b:Bx B M0 own σ H δ):Same B (but H own):=fun c u q=>by
 rw [zat (fun z=>by rw [(b.kind c z).1] at q;cases q)]
 exact b.same _ _ q
end
def OkQ (B:Hp)(M0:List Addr)(δ:List Sl)(P:St->Hp->Prop):Prop:=∀own σ H,Bx B M0 own σ H δ->P σ H
theorem OkQ.run {B:Hp}{M0 own:List Addr}{σ:St}{H:Hp}{δ:List Sl}{P:St->Hp->Prop}(b:Bx B M0 own σ H δ)(h:OkQ B M0 δ P):P σ H:=h own σ H b
theorem OkQ.back {B B':Hp}{M0:List Addr}{δ:List Sl}{P:St->Hp->Prop}(h:OkQ B M0 δ P)(s:Same B B')(l:Live M0 B):OkQ B' M0 δ P:=fun own σ H b=>h own σ H (b.back s l)
theorem b_start {M:List Addr}{H:Hp}{vs:List V}{ds:List D}(l:Live M H)(r:Reps (but H M) vs ds)(N:List Str):Bx H M [] (L2.start N vs) H (ds.map Sl.d++List.replicate (N.length-ds.length) .no):=by
 have E:=zbs r N
 refine ⟨?_,Same.refl _,l,(fun a ha=>nomatch ha),fun i s q=>?_,fun i j s t a _ hs _ ks _ _ _=>?_⟩
 ·rw [E.len];simp
 ·by_cases hi:i<ds.length
  ·rw [getElem?_append_left (by simpa using hi),getElem?_map,getElem?_eq_getElem hi] at q
   have q:=Option.some.inj q
   subst q
   refine E.get i ds[i] ?_
   rw [getElem?_append_left (by simpa using hi),getElem?_map,getElem?_eq_getElem hi]
   rfl
  ·rw [getElem?_append_right (by simpa using Nat.le_of_not_lt hi)] at q
   obtain ⟨h1,h2⟩:=List.getElem?_eq_some_iff.mp q
   simp at h2
   subst h2
   trivial
 ·by_cases hi:i<ds.length
  ·rw [getElem?_append_left (by simpa using hi),getElem?_map,getElem?_eq_getElem hi] at hs
   have q:=Option.some.inj hs
   subst q
   cases ks
  ·rw [getElem?_append_right (by simpa using Nat.le_of_not_lt hi)] at hs
   obtain ⟨h1,h2⟩:=List.getElem?_eq_some_iff.mp hs
   simp at h2
   subst h2
   cases ks
section
variable {B:Hp}{M0:List Addr}{δ:List Sl}{E:zka}{te ty tv:TE}{t:TA}{tt:TT}{d:D}{ds xs:List D}{K:PySem.W.Frag}
theorem znk {i:Nat}(h:∀G σ,EnvW G σ δ->EvM te G σ d)(hd:d.noL=true)(k:OkQ B M0 (δ.set i (.d d)) E.nx):OkQ B M0 δ (zqi te (zdz i) E):=fun own σ H b=>
 (h _ σ b.wide).at b.live fun v H' s r=>k own _ H' ((b.grow s).set i (Rep.narrow (b.grow s).kd hd r))
theorem zms {i:Nat}(h:∀G σ,EnvR G σ (δ.map Sl.dat)->EvM te G σ d)(k:OkQ B M0 (δ.set i (.d d)) E.nx):OkQ B M0 δ (zqi te (zdz i) E):=fun own σ H b=>
 (h _ σ b.nar).at b.liveO fun v H' s r=>k own _ H' ((b.grow s).set i r)
theorem b_ret (h:∀G σ,EnvW G σ δ->EvM te G σ d)(k:∀v H',Same B H'->Rep (but H' M0) v d->E.rt v H'):OkQ B M0 δ (tRet te E):=fun own σ H b=>
 (h _ σ b.wide).at b.live fun v H' s r=>k v H' (b.same.trans s) r
theorem b_if {b:Bool}{ts us:TS}(h:∀G σ,EnvW G σ δ->EvT tt G σ b)(k1:b=true->OkQ B M0 δ (ts E))(k2:b=false->OkQ B M0 δ (us E)):OkQ B M0 δ (tIfS tt ts us E):=fun own σ H bx=>
 st_if bx.live (h _ σ bx.wide) (fun e H' s=>k1 e own σ H' (bx.grow s)) (fun e H' s=>k2 e own σ H' (bx.grow s))
theorem b_nx (h:OkQ B M0 δ E.nx):OkQ B M0 δ (tNext E):=h
theorem b_newN {i:Nat}(h:∀G σ,EnvR G σ (δ.map Sl.dat)->EvA t G σ ds)(hz:ds.length<=sizeLine)(k:OkQ B M0 (δ.set i (.l ds)) E.nx):OkQ B M0 δ (zqi (tLst t) (zdz i) E):=fun own σ H b=>
 h _ σ b.nar _ H (Same.refl _) b.liveO _ fun vs H1 s1 rs=>⟨by rw [rs.length];exact hz,fun p hp=>k (p::own) _ _ ((b.grow s1).new i hp rfl ⟨p,vs,rfl,mem_cons_self,zae,rs⟩)⟩
theorem b_nil {i:Nat}(k:OkQ B M0 (δ.set i (.l [])) E.nx):OkQ B M0 δ (zqi (tLst zev) (zdz i) E):=b_newN (fun _ _ _=>zaf) (Nat.zero_le _) k
theorem b_app {j:Nat}(hj:δ[j]?=some (.l xs))(h:∀G σ,EnvW G σ δ->EvM te G σ d)(hd:d.noL=true)(hz:xs.length<sizeLine)(k:OkQ B M0 (δ.set j (.l (xs++[d]))) E.nx):OkQ B M0 δ (zop (tBM K "list" zix (zdk j) (zbp te zev)) E):=fun own σ H b=>by
 obtain ⟨a,us,e,m,ha,r⟩:=b.slot j _ hj
 refine ⟨.ref a,e,(show tyV K "list" (.ref a) H from .inl ⟨rfl,us,SqL.of ha⟩),(h _ σ b.wide).at b.live fun v H' s rv=>?_⟩
 have b':=b.grow s
 refine ⟨a,us,v,rfl,rfl,s _ _ ha,by rw [r.length];exact hz,k own σ _ (b'.put hj rfl m e rfl ⟨a,_,rfl,m,zae,?_⟩ rfl)⟩
 exact (r.mono (s.but _)).snoc (Rep.narrow b'.kd hd rv)
theorem b_appN {j:Nat}(hj:δ[j]?=some (.l xs))(h:∀G σ,EnvR G σ (δ.map Sl.dat)->EvM te G σ d)(hz:xs.length<sizeLine)(k:OkQ B M0 (δ.set j (.l (xs++[d]))) E.nx):OkQ B M0 δ (zop (tBM K "list" zix (zdk j) (zbp te zev)) E):=fun own σ H b=>by
 obtain ⟨a,us,e,m,ha,r⟩:=b.slot j _ hj
 refine ⟨.ref a,e,(show tyV K "list" (.ref a) H from .inl ⟨rfl,us,SqL.of ha⟩),(h _ σ b.nar).at b.liveO fun v H' s rv=>?_⟩
 have b':=b.grow s
 refine ⟨a,us,v,rfl,rfl,s _ _ ha,by rw [r.length];exact hz,k own σ _ (b'.put hj rfl m e rfl ⟨a,_,rfl,m,zae,?_⟩ rfl)⟩
 exact (r.mono (s.but _)).snoc rv
theorem b_dK {i:Nat}(k:OkQ B M0 (δ.set i (.k [])) E.nx):OkQ B M0 δ (zqi tDNewK (zdz i) E):=fun own σ H b=>fun p hp=>
 k (p::own) _ _ (b.new i hp rfl ⟨p,rfl,mem_cons_self,zae,fun _ h=>nomatch h⟩)
theorem znx:∀(kvs acc:List (Key×V)),(zbk acc kvs).length<=acc.length+kvs.length
 |[],acc=>Nat.le_refl _
 |p::r,acc=>by
  have h1:=znx r (zgs acc p.1 p.2)
  have h2:=zeg acc p.1 p.2
  show (zbk (zgs acc p.1 p.2) r).length<=_
  rw [length_cons]
  omega
theorem zud (S:zan)(n:Str)(x:D):zbk [] (zbx (S++[(n,x)]))=zgs (zbk [] (zbx S)) (Sum.inr n) x.toV:=by
 unfold zbk zbx
 rw [map_append,foldl_append]
 rfl
theorem b_putK {j:Nat}{S:zan}{n:Str}(hj:δ[j]?=some (.k S))(hv:∀G σ,EnvW G σ δ->EvM tv G σ d)(hn:∀G σ,EnvW G σ δ->EvM ty G σ (.str n))(hd:d.sc=true)(hz:S.length<1000)(k:OkQ B M0 (δ.set j (.k (S++[(n,d)]))) E.nx):OkQ B M0 δ (sDPut (zdk j) ty tv E):=fun own σ H b=>by
 refine (hv _ σ b.wide).at b.live fun v H1 s1 r1=>?_
 have b1:=b.grow s1
 obtain ⟨a,e,m,ha,hS⟩:=b1.slot j _ hj
 refine ⟨.ref a,e,(hn _ σ b1.wide).at b1.live fun y H2 s2 r2=>?_⟩
 have b2:=b1.grow s2
 have ey:=r2.of_str
 subst ey
 have hl:=znx (zbx S) []
 have hl2:(zbx S).length=S.length:=by unfold zbx;rw [length_map]
 refine ⟨a,_,rfl,DPut.k (k:=Sum.inr n) (s2 _ _ ha) (zar (by rw [length_nil] at hl;omega)),k own σ _ (b2.put hj rfl m e rfl ⟨a,rfl,m,?_,fun p hp=>?_⟩ rfl)⟩
 ·rw [zud,(zfs hd r1).1];exact zae
 ·rcases mem_append.mp hp with z|z
  ·exact hS p z
  ·rw [mem_singleton.mp z];exact hd
end
section
variable {G:Hp}{σ:St}{δ:List Sl}{ty:TE}{d:D}{j:Nat}
end
def WalkB (B:Hp)(M0:List Addr)(δ:List Sl)(wi:TI)(ds:List D):Prop:=∀own σ H,Bx B M0 own σ H δ->∀R:It->Hp->Prop,
 (∀J H1,Same H H1->(∀(j:Nat) d M' H',ds[j]?=some d->Same (but H1 (own++M0)) (but H' M')->Live M' H'->J.go j H'/\∀x H'',J.yld j H' x H''->Same H' H''/\Rep (but H'' M') x d)->(∀M' H',Same (but H1 (own++M0)) (but H' M')->J.stop ds.length H')->R J H1)->wi σ H R
section
variable {B:Hp}{M0:List Addr}{δ:List Sl}{E:zka}{wi:TI}{g:TG}{tb:TS}{t:TA}{ds:List D}
theorem WalkB.of (h:∀G σ,EnvR G σ (δ.map Sl.dat)->zte wi G σ ds):WalkB B M0 δ wi ds:=fun own σ H b R k=>h _ σ b.nar _ H (Same.refl _) b.liveO R k
theorem WalkB.range1 {n:Nat}(hn:n<2^62)(h:∀G σ,EnvW G σ δ->EvA t G σ [.int n]):WalkB B M0 δ (iRng1 t) ((List.range n).map fun (k:Nat)=>D.int (0+k)):=fun own σ H b R k=>h _ σ b.wide _ H (Same.refl _) b.live _ fun vs H1 s1 rs=>by
 obtain ⟨x,rfl,rx⟩:=zov rs
 refine ⟨(n:Int),by rw [rx.of_int],by omega,by omega,?_⟩
 refine k _ H1 s1 (fun j d M' H' hj hs hl=>?_) (fun M' H' hs=>?_)
 ·obtain ⟨h1,rfl⟩:=zhh 0 n j d hj
  refine ⟨by show j<((n:Int)).toNat;omega,fun x H'' ⟨e,hy⟩=>?_⟩
  subst e;subst hy
  exact ⟨Same.refl _,.int _⟩
 ·show ((n:Int)).toNat<=_
  simp
abbrev loopE (E:zka)(B:Hp)(M0:List Addr)(P:List Sl->Prop):zka:={E with nx:=fun σ H=>∃own δ,Bx B M0 own σ H δ/\P δ,ct:=fun σ H=>∃own δ,Bx B M0 own σ H δ/\P δ,bk:=E.nx}
theorem zux {P:List Sl->Prop}(h:P δ):OkQ B M0 δ (loopE E B M0 P).nx:=fun own σ H b=>⟨own,δ,b,h⟩
theorem b_forG (hw:WalkB B M0 δ wi ds)(Pv:Nat->List Sl->Prop)(h0:Pv 0 δ)
  (hstep:∀B',Same B B'->(∀δ',OkQ B M0 δ' E.nx->OkQ B' M0 δ' E.nx)->∀(j:Nat) x δ',ds[j]?=some x->Pv j δ'->∀own σ H v,Bx B' M0 own σ H δ'->Rep (but H (own++M0)) v x->g v σ H (tb (loopE E B' M0 (Pv (j+1)))))
  (hend:∀δ',Pv ds.length δ'->OkQ B M0 δ' E.nx):OkQ B M0 δ (tFor wi g tb E):=fun own σ H b=>hw own σ H b _ fun J H1 s1 hgo hstop=>by
 have b1:=b.grow s1
 have sB:Same B (but H1 own):=b1.sub
 refine ⟨fun j m σ' H'=>m=ds.length-j/\j<=ds.length/\∃own' δ',Bx (but H1 own) M0 own' σ' H' δ'/\Pv j δ',⟨ds.length,by simp,Nat.zero_le _,own,δ,b1.base,h0⟩,?_⟩
 rintro j m σ' H' ⟨rfl,hj,own',δ',b',p⟩
 have hs:Same (but H1 (own++M0)) (but H' (own'++M0)):=fun c u q=>by
  obtain ⟨q1,q2⟩:=zac q
  have hB:but H1 own c=some u:=by rw [zat (fun z=>q1 (mem_append_left _ z))];exact q2
  rw [zat]
  ·exact b'.same _ _ hB
  ·intro z
   rcases mem_append.mp z with z|z
   ·rw [(b'.kind c z).1] at hB;cases hB
   ·exact q1 (mem_append_right _ z)
 by_cases hlt:j<ds.length
 ·have hd:ds[j]?=some ds[j]:=getElem?_eq_getElem hlt
  obtain ⟨go,gy⟩:=hgo j _ (own'++M0) H' hd hs b'.liveO
  refine .inr ⟨go,_,fun σ2 H2 p2=>⟨ds.length-(j+1),by omega,rfl,hlt,p2⟩,fun x H'' hy=>?_⟩
  obtain ⟨s3,rx⟩:=gy x H'' hy
  exact hstep (but H1 own) sB (fun δ' h=>h.back sB b.liveB) j _ δ' hd p own' σ' H'' x (b'.grow s3) rx
 ·have e:j=ds.length:=by omega
  subst e
  exact .inl ⟨hstop (own'++M0) H' hs,hend δ' p own' σ' H' (b'.back sB b.liveB)⟩
theorem b_for {i:Nat}(hw:WalkB B M0 δ wi ds)(Pv:Nat->List Sl->Prop)(h0:Pv 0 δ)
  (hstep:∀B',Same B B'->(∀δ',OkQ B M0 δ' E.nx->OkQ B' M0 δ' E.nx)->∀(j:Nat) x δ',ds[j]?=some x->Pv j δ'->OkQ B' M0 (δ'.set i (.d x)) (tb (loopE E B' M0 (Pv (j+1)))))
  (hend:∀δ',Pv ds.length δ'->OkQ B M0 δ' E.nx):OkQ B M0 δ (tFor wi (zdz i) tb E):=
 b_forG hw Pv h0 (fun B' s k j x δ' hd p own σ H v b r=>hstep B' s k j x δ' hd p own _ H (b.set i r)) hend
theorem b_for2 {i i':Nat}{K:PySem.W.Frag}(hw:WalkB B M0 δ wi ds)(Pv:Nat->List Sl->Prop)(h0:Pv 0 δ)
  (hstep:∀B',Same B B'->(∀δ',OkQ B M0 δ' E.nx->OkQ B' M0 δ' E.nx)->∀(j:Nat) x δ',ds[j]?=some x->Pv j δ'->∃d1 d2,x=.tup [d1,d2]/\OkQ B' M0 ((δ'.set i (.d d1)).set i' (.d d2)) (tb (loopE E B' M0 (Pv (j+1)))))
  (hend:∀δ',Pv ds.length δ'->OkQ B M0 δ' E.nx):OkQ B M0 δ (tFor wi (gTup K 2 (zpq (zdz i) (zpq (zdz i') gNil))) tb E):=
 b_forG hw Pv h0 (fun B' s k j x δ' hd p own σ H v b r=>by
  obtain ⟨d1,d2,rfl,h⟩:=hstep B' s k j x δ' hd p
  exact zod r fun v1 v2 r1 r2=>h own _ H ((b.set i r1).set i' r2)) hend
theorem b_show {i:Nat}{xs:List D}{P:St->Hp->Prop}(hi:δ[i]?=some (.l xs))(k:OkQ B M0 (δ.set i (.d (.lst xs))) P):OkQ B M0 δ P:=fun own σ H b=>by
 obtain ⟨own',b'⟩:=b.show hi
 exact k own' σ H b'
end
theorem EnvW.caps {G G':Hp}{σ:St}{δ:List Sl}(e:EnvW G σ δ)(s:Same G G')(idx:List Nat)(k i:Nat){v:V}{x:D}(r:Rep G' v x):EnvW G' ((zas idx k σ).set i (some v)) ((idx.map (fun j=>δ.getD j Sl.no)++List.replicate k Sl.no).set i (.d x)):=by
 have e':=e.mono s
 have hl:(zas idx k σ).length=(idx.map (fun j=>δ.getD j Sl.no)++List.replicate k Sl.no).length:=by simp [zas]
 refine ⟨by rw [length_set,length_set];exact hl,fun q t h=>?_⟩
 rcases zdd h with ⟨rfl,rfl,hi⟩|⟨ne,h⟩
 ·exact ⟨v,getElem?_set_self (by rw [hl];exact hi),r⟩
 ·rw [getElem?_set_ne ne]
  by_cases hq:q<idx.length
  ·rw [getElem?_append_left (by simpa using hq),getElem?_map,getElem?_eq_getElem hq] at h
   have h:δ.getD idx[q] Sl.no=t:=Option.some.inj h
   have hc:(zas idx k σ)[q]?=some ((σ[idx[q]]?).join):=by
    unfold zas
    rw [getElem?_append_left (by simpa using hq),getElem?_map,getElem?_eq_getElem hq]
    rfl
   rw [hc]
   cases z:δ[idx[q]]? with
   |none=>
    have:t=.no:=by rw [<-h];simp [List.getD,z]
    rw [this];trivial
   |some u=>
    have:t=u:=by rw [<-h];simp [List.getD,z]
    subst this
    have w:=e'.get _ _ z
    cases t with
    |no=>trivial
    |d x=>obtain ⟨v,h,r⟩:=w;exact ⟨v,by rw [h];rfl,r⟩
    |l x=>obtain ⟨v,h,r⟩:=w;exact ⟨v,by rw [h];rfl,r⟩
    |k x=>obtain ⟨a,h,r⟩:=w;exact ⟨a,by rw [h];rfl,r⟩
    |t x=>obtain ⟨a,kvs,h,r⟩:=w;exact ⟨a,kvs,by rw [h];rfl,r⟩
    |kd x=>obtain ⟨a,h,r⟩:=w;exact ⟨a,by rw [h];rfl,r⟩
    |td x=>obtain ⟨a,kvs,h,r⟩:=w;exact ⟨a,kvs,by rw [h];rfl,r⟩
  ·rw [getElem?_append_right (by simpa using Nat.le_of_not_lt hq)] at h
   obtain ⟨h1,h2⟩:=List.getElem?_eq_some_iff.mp h
   simp at h2
   subst h2
   trivial
theorem EnvW.comp {G:Hp}{σ:St}{δ:List Sl}{wi:TI}{idx:List Nat}{k i:Nat}{tt:TT}{te:TE}{ds:List D}(e:EnvW G σ δ)(p:D->Bool)(f:D->D)(hw:zte wi G σ ds)
  (ht:∀G' σ' d,d∈ds->EnvW G' σ' ((idx.map (fun j=>δ.getD j Sl.no)++List.replicate k Sl.no).set i (.d d))->EvT tt G' σ' (p d))
  (he:∀G' σ' d,d∈ds->p d=true->EnvW G' σ' ((idx.map (fun j=>δ.getD j Sl.no)++List.replicate k Sl.no).set i (.d d))->EvM te G' σ' (f d)) (hz:ds.length<sizeLine):
  EvM (zna wi (zas idx k) (zdz i) tt te) G σ (.lst ((ds.filter p).map f)):=
 zer hw (fun G' v d s hd r=>ht G' _ d hd (e.caps s idx k i r)) (fun G' v d s hd hp r=>he G' _ d hd hp (e.caps s idx k i r)) hz
theorem EnvR.toW {G:Hp}{σ:St}{δ:List Sl}(h:EnvR G σ (δ.map Sl.dat)):EnvW G σ (δ.map fun s=>match s.dat with|some x=>.d x|none=>.no):=by
 refine ⟨by rw [h.len];simp,fun i s q=>?_⟩
 rw [getElem?_map] at q
 cases e:δ[i]? with
 |none=>rw [e] at q;cases q
 |some t=>
  rw [e] at q
  have q:(match t.dat with|some x=>Sl.d x|none=>Sl.no)=s:=Option.some.inj q
  cases ht:t.dat with
  |none=>rw [ht] at q;subst q;trivial
  |some x=>
   rw [ht] at q
   subst q
   refine h.get i x ?_
   rw [getElem?_map,e]
   exact congrArg some ht
end FL
namespace FL
open PySem L2
theorem zof {V:Str->D}{B:List Str}{a:List D}(hB:AllBl B)(hne:a≠[])(hh:zaq (a.headD .non)=false)(h:∀x∈a,zaq x=true->x.name∈B):zhk (zao V B) a=a.map (zbr V):=by
 cases a with
 |nil=>exact absurd rfl hne
 |cons x r=>
  have hx:zaq x=false:=hh
  show x::r.map (zdh (zao V B))=zbr V x::r.map (zbr V)
  have e1:zbr V x=x:=by unfold zbr;rw [if_neg (by rw [hx];exact Bool.false_ne_true)]
  rw [e1]
  congr 1
  exact map_congr_left fun y hy=>zhd hB (h y (mem_cons_of_mem _ hy))
theorem true_ask {fs:List (List D)}{a:List D}(V:Str->D)(hne:a≠[])(hh:zaq (a.headD .non)=false)(hg:zap a=false):zgy fs (a.map (zbr V))=decide (a.map (zbr V)∈fs):=by
 have e:=zsh (V:=V) hne hh
 unfold zap at hg
 rw [Bool.or_eq_false_iff] at hg
 unfold zgy
 rw [<-e,if_neg (of_decide_eq_false hg.2),if_neg (of_decide_eq_false hg.1)]
theorem zwv {fs:List (List D)}{r:Str}{x y:D}(hg:zap [.str r,x,y]=true)(hr:zaq (.str r)=false)(V:Str->D):zgy fs ([.str r,x,y].map (zbr V))=holdsA ([.str r,x,y].map (zbr V)):=by
 have e:zbr V (.str r)=.str r:=by unfold zbr;rw [if_neg (by rw [hr];exact Bool.false_ne_true)]
 show zgy fs [zbr V (.str r),zbr V x,zbr V y]=holdsA [zbr V (.str r),zbr V x,zbr V y]
 rw [e]
 generalize zbr V x=x'
 generalize zbr V y=y'
 show zgy fs [.str r,x',y']=holdsD r x' y'
 have hg2:r="less"\/r="unlike":=by
  unfold zap at hg
  rw [Bool.or_eq_true] at hg
  rcases hg with z|z
  ·have:D.str r=D.str "less":=of_decide_eq_true z
   injection this with q
   exact .inl q
  ·have:D.str r=D.str "unlike":=of_decide_eq_true z
   injection this with q
   exact .inr q
 rcases hg2 with rfl|rfl
 ·unfold zgy holdsD
  have h1:¬(([D.str "less",x',y']:List D).headD .non=.str "unlike"):=fun z=>by
   have z:D.str "less"=D.str "unlike":=z
   injection z with z
   exact absurd z (by decide)
  have h2:(([D.str "less",x',y']:List D).headD .non=.str "less"):=rfl
  rw [if_neg h1,if_pos h2,if_neg (by decide)]
  cases x'<;>cases y'<;>rfl
 ·unfold zgy holdsD
  have h2:(([D.str "unlike",x',y']:List D).headD .non=.str "unlike"):=rfl
  rw [if_pos h2,if_pos rfl]
def satB (fs body:List (List D))(S:zan):Bool:=body.all fun a=>zgy fs (zhk S a)
theorem sat_iff {base body fs:List (List D)}(h:BI base body){V:Str->D}{B:List Str}(hB:AllBl B)(hc:∀a∈body,∀x∈a,zaq x=true->x.name∈B):satB fs body (zao V B)=true↔(∀a∈base,a.map (zbr V)∈fs)/\O5.allG (body.filter zap) (zao V (zaj [] base))=true:=by
 have hBb:AllBl (zaj [] base):=zhn zcu
 have key:∀a∈body,zgy fs (zhk (zao V B) a)=if zap a=true then holdsA (a.map (zdh (zao V (zaj [] base)))) else decide (a.map (zbr V)∈fs):=fun a ha=>by
  have A:=h.at_ a ha
  rw [zof hB A.ne A.hd (hc a ha)]
  by_cases g:zap a=true
  ·rw [if_pos g]
   obtain ⟨⟨r,x,y,rfl⟩,hb⟩:=h.gd a ha g
   rw [zwv g A.hd V,O5.fill_look hBb hb]
  ·rw [if_neg g]
   exact true_ask V A.ne A.hd (by simpa using g)
 have hbase:∀a,a∈base↔a∈body/\zap a=false:=fun a=>by
  rw [<-h.ask,mem_filter]
  simp
 unfold satB O5.allG
 rw [all_eq_true,all_eq_true]
 constructor
 ·intro z
  refine ⟨fun a ha=>?_,fun g hg=>?_⟩
  ·obtain ⟨h1,h2⟩:=(hbase a).mp ha
   have:=z a h1
   rw [key a h1,if_neg (by rw [h2];exact Bool.false_ne_true)] at this
   exact of_decide_eq_true this
  ·obtain ⟨h1,h2⟩:=mem_filter.mp hg
   have:=z g h1
   rw [key g h1,if_pos h2] at this
   exact this
 ·rintro ⟨z1,z2⟩ a ha
  rw [key a ha]
  by_cases g:zap a=true
  ·rw [if_pos g];exact z2 a (mem_filter.mpr ⟨ha,g⟩)
  ·rw [if_neg g];exact decide_eq_true (z1 a ((hbase a).mpr ⟨ha,by simpa using g⟩))
theorem BI.blanks {base body:List (List D)}(h:BI base body)(b:Str):b∈zaj [] body↔b∈zaj [] base:=by
 have hbase:∀a,a∈base->a∈body:=fun a ha=>by rw [<-h.ask] at ha;exact (mem_filter.mp ha).1
 constructor
 ·intro z
  rcases zhe z with z|⟨a,ha,x,hx,hb,rfl⟩
  ·cases z
  ·by_cases g:zap a=true
   ·exact (h.gd a ha g).2 _ (zdw hx hb)
   ·exact zgf (by rw [<-h.ask];exact mem_filter.mpr ⟨ha,by simpa using g⟩) hx hb
 ·intro z
  rcases zhe z with z|⟨a,ha,x,hx,hb,rfl⟩
  ·cases z
  ·exact zgf (hbase a ha) hx hb
theorem BI.good {base body:List (List D)}(h:BI base body):∀a∈base,zmx a:=fun a ha=>by
 rw [<-h.ask] at ha
 have A:=h.at_ a (mem_filter.mp ha).1
 exact ⟨A.ne,A.hd⟩
theorem BI.ways {base body:List (List D)}(h:BI base body)(facts:List (List D)):zkr body facts=(zgz facts base [([],[])]).filter fun w=>O5.allG (body.filter zap) w.1:=by
 have:=O5.waysP_spec (facts:=facts) (as:=body) (fun a ha _=>⟨(h.at_ a ha).ne,(h.at_ a ha).hd⟩) (fun g hg e=>by rw [h.ask];exact (h.gd g hg e).2)
 rw [waysL_eq,this,h.ask]
theorem zpv {facts:List (List D)}{V:Str->D}{as:List (List D)}{pl:List Nat}(h:zon facts V as pl):pl.length=as.length:=by
 have:=congrArg List.length h
 simpa using this
theorem fits_at {facts:List (List D)}{V:Str->D}{as:List (List D)}{pl:List Nat}(h:zon facts V as pl){k:Nat}{a:List D}(ha:as[k]?=some a):∃i,pl[k]?=some i/\facts[i]?=some (a.map (zbr V)):=by
 have e:=congrArg (fun l=>l[k]?) h
 simp only [getElem?_map,ha] at e
 cases q:pl[k]? with
 |none=>rw [q] at e;cases e
 |some i=>rw [q] at e;exact ⟨i,rfl,Option.some.inj e⟩
theorem fits_lt {facts:List (List D)}{V:Str->D}{as:List (List D)}{pl:List Nat}(h:zon facts V as pl):∀i∈pl,i<facts.length:=fun i hi=>by
 obtain ⟨k,hk⟩:=mem_iff_getElem?.mp hi
 have hkl:k<as.length:=by rw [<-zpv h];exact (List.getElem?_eq_some_iff.mp hk).1
 obtain ⟨i',h1,h2⟩:=fits_at h (getElem?_eq_getElem hkl)
 rw [hk] at h1
 cases h1
 exact (List.getElem?_eq_some_iff.mp h2).1
theorem lexb_of:∀{p q:List Nat},zla p q->zxo p q=true
 |a::r,b::t,h=>by
  have h:a<b\/(a=b/\zla r t):=h
  unfold zxo
  rcases h with z|⟨z,w⟩
  ·rw [if_neg (Nat.ne_of_lt z)];exact decide_eq_true z
  ·rw [if_pos z];exact lexb_of w
 |[],_,h=>by cases h
 |_::_,[],h=>by cases h
theorem zve:∀(B C:List Str),zgw (zcp B) (zcp C)=true/\(zcp B).dep<=40:=fun B C=>by
 have h1:∀(B C:List Str),zld (B.map D.str) (C.map D.str)=true:=fun B=>by
  induction B with
  |nil=>intro C;cases C<;>simp [zld]
  |cons b r ih=>
   intro C
   cases C with
   |nil=>simp [zld]
   |cons c t=>simp [zld,zgw,ih t]
 have h2:∀(B:List Str),D.deps (B.map D.str)=0:=fun B=>by
  induction B with
  |nil=>rfl
  |cons b r ih=>simp [D.deps,D.dep,ih]
 refine ⟨?_,?_⟩
 ·unfold zcp;rw [zgw];exact h1 B C
 ·unfold zcp;rw [D.dep,h2];decide
theorem EnvW.wanted {G:Hp}{σ:St}{δ:List Sl}{wi:TI}{K:PySem.W.Frag}{body:List (List D)}(e:EnvW G σ δ)(hb:∀a∈body,a≠[]/\∀x∈a,x.sc=true)(hz:body.length<=1000)(hw:zte wi G σ (body.map D.tup)):
  EvM (zna wi (zas [] 1) (zdz 0) (tAnd (zww (tOp (fun x y H Q=>rNeD x y H Q\/rNe x y H Q) (tOp (rIx K) (zdk 0) (tC (.int 0))) (tC (.str "less")))) (zww (tOp (fun x y H Q=>rNeD x y H Q\/rNe x y H Q) (tOp (rIx K) (zdk 0) (tC (.int 0))) (tC (.str "unlike"))))) (zdk 0)) G σ (zbg (body.filter fun a=> !zap a)):=by
 refine (e.comp (fun d=>match d with|.tup a=> !zap a|_=>false) (fun d=>d) hw (fun G' σ' d hd e'=>?_) (fun G' σ' d hd _ e'=>e'.v rfl) (by rw [length_map];exact zar hz)).eq ?_
 ·obtain ⟨a,ha,rfl⟩:=mem_map.mp hd
  obtain ⟨hne,hsc⟩:=hb a ha
  cases a with
  |nil=>exact absurd rfl hne
  |cons x r=>
   have hx:=hsc x mem_cons_self
   have c1:=zfe (b:=.str "less") hx rfl
   have c2:=zfe (b:=.str "unlike") hx rfl
   refine EvT.eq (zgb (zav (zjs c1.1 c1.2 (zbw (ds:=x::r) (d:=x) zct (e'.v rfl) zak) zbf)) fun _=>zav (zjs c2.1 c2.2 (zbw (ds:=x::r) (d:=x) zct (e'.v rfl) zak) zbf)) ?_
   show _= !zap (x::r)
   unfold zap
   rw [Bool.not_or]
   rfl
 ·unfold zbg
  rw [List.map_id',List.filter_map]
  rfl
theorem EnvW.kAt {G:Hp}{σ:St}{δ:List Sl}{j:Nat}{S:zan}(e:EnvW G σ δ)(hj:δ[j]?=some (.k S)\/δ[j]?=some (.kd S)):∃a,σ[j]?=some (some (.ref a))/\G a=some (.dK (zbk [] (zbx S)))/\∀p∈S,p.2.sc=true:=by
 rcases hj with h|h
 ·exact e.get j _ h
 ·exact e.get j _ h
theorem EnvW.fillIn {G:Hp}{σ:St}{δ:List Sl}{j:Nat}{S:zan}{ta:TE}{a:List D}{E:XK}(e:EnvW G σ δ)(hj:δ[j]?=some (.k S)\/δ[j]?=some (.kd S))(h1:a≠[])(h2:∀x∈a,x.sc=true)(h3:a.length<=10)(h:EvM ta G σ (.tup a)):EvM (zks (spA zqg) [] E (zbp ta (zbp (zdk j) zev))) G σ (.tup (zhk S a)):=by
 obtain ⟨p,ep,hp,hS⟩:=e.kAt hj
 exact zjt ⟨a,S,rfl,h1,h2,hS,h3,rfl⟩ (eb_d h (eb_k ep hp zsl))
theorem zw9 {S:zan}{a:List D}(hne:a≠[])(ha:∀x∈a,x.sc=true)(hS:∀p∈S,p.2.sc=true):∀x∈zhk S a,x.sc=true:=fun x hx=>by
 cases a with
 |nil=>exact absurd rfl hne
 |cons y r=>
  rcases mem_cons.mp hx with z|z
  ·rw [z];exact ha y mem_cons_self
  ·obtain ⟨u,hu,rfl⟩:=mem_map.mp z
   exact (zj9 (ha u (mem_cons_of_mem _ hu)) hS).2
theorem zun {S:zan}{a:List D}(h:a≠[]):zap (zhk S a)=zap a:=by
 cases a with
 |nil=>exact absurd rfl h
 |cons x r=>rfl
theorem zwa {S:zan}{a:List D}(hne:a≠[])(ha:∀x∈a,x.sc=true)(hS:∀p∈S,p.2.sc=true)(hg:zap a=true->∃r x y,a=[.str r,x,y]):OkT (zhk S a):=by
 refine ⟨(fun z=>by cases z),zw9 hne ha hS,fun g=>?_⟩
 rw [zun hne] at g
 obtain ⟨r,x,y,rfl⟩:=hg g
 exact ⟨r,_,_,rfl⟩
section
variable {B:Hp}{M0 own:List Addr}{σ:St}{H:Hp}{δ:List Sl}{E:zka}{t:TA}{ds:List D}
theorem Bx.setS (b:Bx B M0 own σ H δ)(i:Nat){v:V}{s:Sl}(hs:s.own=false)(r:SlN (but H (own++M0)) H own (some (some v)) s):Bx B M0 own (σ.set i (some v)) H (δ.set i s):=by
 refine ⟨by simp [b.len],b.same,b.liveB,b.kind,fun j t q=>?_,fun j k s' t a jk hs' ht ks kt es et=>?_⟩
 ·rcases zdd q with ⟨rfl,rfl,hi⟩|⟨ne,q⟩
  ·rw [getElem?_set_self (by rw [b.len];exact hi)];exact r
  ·rw [getElem?_set_ne ne];exact b.slot j t q
 ·rcases zdd hs' with ⟨rfl,rfl,_⟩|⟨n1,hs'⟩
  ·rw [hs] at ks;cases ks
  ·rcases zdd ht with ⟨rfl,rfl,_⟩|⟨n2,ht⟩
   ·rw [hs] at kt;cases kt
   ·rw [getElem?_set_ne n1] at es
    rw [getElem?_set_ne n2] at et
    exact b.apart j k s' t a jk hs' ht ks kt es et
theorem Bx.ofEnv {δ:List Sl}{M:List Addr}(l:Live M H)(hd:∀s∈δ,s=.no\/∃x,s=.d x)(e:EnvR (but H M) σ (δ.map Sl.dat)):Bx H M [] σ H δ:=by
 have own0:∀{j:Nat} {s:Sl},δ[j]?=some s->s.own=true->False:=fun {j s} h k=>by
  rcases hd s (mem_of_getElem? h) with rfl|⟨x,rfl⟩<;>cases k
 refine ⟨by rw [e.len,length_map],Same.refl _,l,(fun a ha=>nomatch ha),fun i s q=>?_,fun i j s t a _ hs _ ks _ _ _=>own0 hs ks⟩
 rcases hd s (mem_of_getElem? q) with rfl|⟨x,rfl⟩
 ·trivial
 ·exact e.get i x (by rw [getElem?_map,q];rfl)
theorem OkQ.run0 {P:St->Hp->Prop}{i:Nat}{v:V}(b:Bx B M0 own (σ.set i (some v)) H δ)(h:OkQ B M0 δ P):zdz i v σ H P:=h own _ H b
theorem zem {ts us:TS}(h:OkQ B M0 δ (ts {E with nx:=us E})):OkQ B M0 δ (tSeq ts us E):=h
theorem zwi {tt:TT}{ts rest:TS}(h:∀G σ,EnvW G σ δ->EvT tt G σ false)(k:OkQ B M0 δ (rest E)):OkQ B M0 δ (tSeq (tIfS tt ts tNext) rest E):=zem (b_if (b:=false) h (fun z=>nomatch z) (fun _=>b_nx k))
theorem b_callE {i:Nat}{pre:List D->Prop}{post:List D->D->Prop}{XE:XK}(h:∀G σ,EnvR G σ (δ.map Sl.dat)->EvA t G σ ds)(hp:pre ds)(k:∀d,post ds d->OkQ B M0 (δ.set i (.d d)) E.nx):OkQ B M0 δ (zqi (zks (spE pre post) [] XE t) (zdz i) E):=fun own σ H b=>
 h _ σ b.nar _ H (Same.refl _) b.liveO _ fun vs H1 s1 rs=>⟨own++M0,ds,b.liveO.same s1,by rw [append_nil];exact rs,hp,fun d v H2 hd s2 r2=>k d hd own _ H2 ((b.grow (s1.trans s2)).set i r2)⟩
theorem b_forC {i:Nat}{XE:XK}{Bs:List Str}{pool:List D}{K:PySem.W.Frag}{tb:TS}(h:∀G σ,EnvR G σ (δ.map Sl.dat)->EvA t G σ [zcp Bs,.lst pool])(hp:∀x∈pool,x.sc=true)(hz:Bs.length<=3)(hz2:pool.length<=3)(Pv:Nat->List Sl->Prop)(h0:Pv 0 δ)
  (hstep:∀B',Same B B'->(∀δ',OkQ B M0 δ' E.nx->OkQ B' M0 δ' E.nx)->∀(j:Nat) c δ',(zbq pool Bs [[]])[j]?=some c->Pv j δ'->OkQ B' M0 (δ'.set i (.kd c)) (tb (loopE E B' M0 (Pv (j+1)))))
  (hend:∀δ',Pv (zbq pool Bs [[]]).length δ'->OkQ B M0 δ' E.nx):OkQ B M0 δ (tFor (fun σ H R=>zum K (zks zje [] XE t) σ H R\/iTup K (zks zje [] XE t) σ H R) (zdz i) tb E):=fun own σ H b=>
 .inl (h _ σ b.nar _ H (Same.refl _) b.liveO _ fun vs H1 s1 rs=>by
  obtain ⟨v0,v1,rfl,r0,r1⟩:=reps2 rs
  refine ⟨own++M0,Bs,pool,v0,v1,rfl,b.liveO.same s1,r0,r1,hp,hz,hz2,fun p us H2 s2 hpu hD=>⟨p,rfl,⟨us,SqL.of (zac hpu).2⟩,?_⟩⟩
  have b1:=b.grow (s1.trans s2)
  have sB:Same B (but H2 own):=b1.sub
  have hpB:but H2 own p=some (.lst us):=by
   obtain ⟨q1,q2⟩:=zac hpu
   rw [zat (fun z=>q1 (mem_append_left _ z))];exact q2
  have hn:=hD.len
  refine ⟨fun j m σ' H'=>m=(zbq pool Bs [[]]).length-j/\j<=(zbq pool Bs [[]]).length/\∃own' δ',Bx (but H2 own) M0 own' σ' H' δ'/\Pv j δ',⟨_,rfl,Nat.zero_le _,own,δ,b1.base,h0⟩,?_⟩
  rintro j m σ' H' ⟨rfl,hj,own',δ',b',pj⟩
  have ha:=b'.same _ _ hpB
  by_cases hlt:j<(zbq pool Bs [[]]).length
  ·have hc:=getElem?_eq_getElem hlt
   obtain ⟨a,hu,hGa⟩:=hD.get j _ hc
   refine .inr ⟨⟨us,.ref a,SqL.of ha,hu⟩,_,fun σ2 H3 p2=>⟨(zbq pool Bs [[]]).length-(j+1),by omega,rfl,hlt,p2⟩,fun x H'' ⟨e,hy⟩=>?_⟩
   subst e
   have hx:=hy us (SqL.of ha)
   rw [hu] at hx
   cases hx
   refine hstep (but H2 own) sB (fun δ' h=>h.back sB b.liveB) j _ δ' hc pj own' _ _ (b'.setS i rfl ⟨a,rfl,?_,zfx pool Bs [[]] _ hp (fun m hm p hp=>by rw [mem_singleton.mp hm] at hp;cases hp) (mem_of_getElem? hc)⟩)
   obtain ⟨q1,q2⟩:=zac hGa
   have hB':but H2 own a=some (.dK (zbk [] (zbx (zbq pool Bs [[]])[j]))):=by rw [zat (fun z=>q1 (mem_append_left _ z))];exact q2
   rw [zat]
   ·exact b'.same _ _ hB'
   ·intro z
    rcases mem_append.mp z with z|z
    ·rw [(b'.kind a z).1] at hB';cases hB'
    ·exact q1 (mem_append_right _ z)
  ·have e:j=(zbq pool Bs [[]]).length:=by omega
   subst e
   exact .inl ⟨⟨us,SqL.of ha,by rw [hn];exact Nat.le_refl _⟩,hend δ' pj own' σ' H' (b'.back sB b.liveB)⟩)
end
theorem ev_ways {G:Hp}{σ:St}{t:TA}{XE:XK}{facts as:List (List D)}{sz:Nat->Nat}(hF:∀g∈facts,OkF g)(hz:facts.length<=200)(hB:ztc as)(hG:OkGs as)(hR:zqh sz (zfl (zet as) facts).steps)(hN:zea (zfl (zet as) facts) (zfl (zet as) facts).steps.length ([],[])<sizeLine)(h:EvA t G σ [zbg facts,zgu as]):EvM (zks spWays [] XE t) G σ (.lst ((zkr as facts).map zfk)):=fun M H s l Q k=>h M H s l _ fun vs H1 s1 rs=>by
 obtain ⟨v0,v1,rfl,r0,r1⟩:=reps2 rs
 exact ⟨M,facts,as,v0,v1,sz,rfl,l.same s1,r0,r1,hF,hz,hB,hG,hR,hN,fun v H2 s2 r2=>k v H2 (s1.trans s2) r2⟩
theorem zmr {as:List (List D)}:∀{B:List Str},(∀a∈as,a.length<=10)->(zaj B as).length<=B.length+10*as.length:=by
 induction as with
 |nil=>intro B _;exact Nat.le_add_right _ _
 |cons a r ih=>
  intro B h
  have h1:=ih (B:=za9 B a) fun c hc=>h c (mem_cons_of_mem _ hc)
  have h2:=zd9 a B
  have h3:=h a mem_cons_self
  show (zaj (za9 B a) r).length<=_
  rw [length_cons]
  omega
theorem zmt {l:List D}{k:Nat}{d:D}(h:l[k]?=some d):atI l ((k:Nat):Int)=some d:=zqd h
theorem zwj {l:List D}{k:Nat}{d:D}(h:l[k]?=some d):atI l (0+((k:Nat):Int))=some d:=by rw [Int.zero_add];exact zqd h
end FL
namespace FL
open PySem L2
def zvp (seed:Int):List D:=[.lst [.str "ashenashenashen",.int 0,.str "ashenashxnashen"],.lst [.str "ashenashenashen",.int 2,.int (-1)],.lst [.int (10^(30:Int).toNat),.int 0,.int (-1)],.lst [.str "qu",.int (seed+4),.int (-4-seed)]]
theorem gp_a1:GP (.str "ashenashenashen")/\zaq (.str "ashenashenashen")=false:=⟨⟨rfl,⟨by decide,_,_,rfl⟩,by decide+kernel⟩,by decide+kernel⟩
theorem gp_a2:GP (.str "ashenashxnashen")/\zaq (.str "ashenashxnashen")=false:=⟨⟨rfl,⟨by decide,_,_,rfl⟩,by decide+kernel⟩,by decide+kernel⟩
theorem gp_qu:GP (.str "qu")/\zaq (.str "qu")=false:=⟨⟨rfl,⟨by decide,_,_,rfl⟩,by decide+kernel⟩,by decide+kernel⟩
theorem gp_i (i:Int):GP (.int i)/\zaq (.int i)=false:=⟨gp_int i,rfl⟩
theorem pool3 {x y z:D}(hx:GP x/\zaq x=false)(hy:GP y/\zaq y=false)(hz:GP z/\zaq z=false)(hn:[x,y,z].Nodup):zwp [x,y,z]:=by
 have h:∀u∈[x,y,z],GP u/\zaq u=false:=fun u hu=>by
  simp only [mem_cons,not_mem_nil,or_false] at hu
  rcases hu with rfl|rfl|rfl
  ·exact hx
  ·exact hy
  ·exact hz
 exact ⟨rfl,hn,fun u hu=>(h u hu).1,fun u hu=>(h u hu).2⟩
theorem pools_ok {seed:Int}(h:0<=seed):∀d∈zvp seed,∃pool,d=.lst pool/\zwp pool:=fun d hd=>by
 simp only [zvp,mem_cons,not_mem_nil,or_false] at hd
 rcases hd with rfl|rfl|rfl|rfl
 ·exact ⟨_,rfl,pool3 gp_a1 (gp_i _) gp_a2 (by decide+kernel)⟩
 ·exact ⟨_,rfl,pool3 gp_a1 (gp_i _) (gp_i _) (by decide+kernel)⟩
 ·exact ⟨_,rfl,pool3 (gp_i _) (gp_i _) (gp_i _) (by decide+kernel)⟩
 ·refine ⟨_,rfl,pool3 gp_qu (gp_i _) (gp_i _) ?_⟩
  simp only [nodup_cons,mem_cons,not_mem_nil,or_false,not_or,D.int.injEq,reduceCtorEq,not_false_eq_true,and_true,true_and,nodup_nil,and_self]
  omega
def menu6 (one two three:D):List (List D):=[[.str "road",one,two],[.str "kin",one,two],[.str "mark",one],[.str "rain"],[.str "deal",one,two,one],[.str "rig",one,two,three,one,two]]
theorem menu6_ok {pool:List D}(hP:zwp pool){one two three:D}(h1:one∈pool)(h2:two∈pool)(h3:three∈pool):∀f∈menu6 one two three,(OkF f/\(∃r,f.headD .non=.str r)/\f.length<=10)/\∀x∈f.tail,x∈pool:=by
 have go:∀(r:Str) (xs:List D),(∀x∈xs,x∈pool)->xs.length<=9->(OkF (.str r::xs)/\(∃r',(D.str r::xs).headD .non=.str r')/\(D.str r::xs).length<=10)/\∀x∈(D.str r::xs).tail,x∈pool:=fun r xs hx hl=>
  ⟨⟨⟨(fun z=>nomatch z),fun x hm=>by
   rcases mem_cons.mp hm with z|z
   ·rw [z];rfl
   ·exact (hP.gp x (hx x z)).1⟩,⟨r,rfl⟩,by rw [length_cons];omega⟩,hx⟩
 intro f hf
 simp only [menu6,mem_cons,not_mem_nil,or_false] at hf
 have l:∀{xs:List D},(∀x∈xs,x=one\/x=two\/x=three)->∀x∈xs,x∈pool:=fun {xs} h x hx=>by
  rcases h x hx with rfl|rfl|rfl
  ·exact h1
  ·exact h2
  ·exact h3
 rcases hf with rfl|rfl|rfl|rfl|rfl|rfl
 ·exact go _ _ (l fun x hx=>by simp only [mem_cons,not_mem_nil,or_false] at hx;rcases hx with rfl|rfl<;>simp) (by simp)
 ·exact go _ _ (l fun x hx=>by simp only [mem_cons,not_mem_nil,or_false] at hx;rcases hx with rfl|rfl<;>simp) (by simp)
 ·exact go _ _ (l fun x hx=>by simp only [mem_cons,not_mem_nil,or_false] at hx;subst hx;simp) (by simp)
 ·exact go _ _ (fun x hx=>nomatch hx) (by simp)
 ·exact go _ _ (l fun x hx=>by simp only [mem_cons,not_mem_nil,or_false] at hx;rcases hx with rfl|rfl|rfl<;>simp) (by simp)
 ·exact go _ _ (l fun x hx=>by simp only [mem_cons,not_mem_nil,or_false] at hx;rcases hx with rfl|rfl|rfl|rfl|rfl<;>simp) (by simp)
structure FactsI (pool:List D)(fs:List (List D))(j:Nat):Prop where
 ok:∀f∈fs,OkF f/\(∃r,f.headD .non=.str r)/\f.length<=10
 len:fs.length<=j
 nd:fs.Nodup
 pl:∀f∈fs,∀x∈f.tail,x∈pool
theorem FactsI.snoc {pool:List D}{fs:List (List D)}{j:Nat}{f:List D}(h:FactsI pool fs j)(h1:OkF f/\(∃r,f.headD .non=.str r)/\f.length<=10)(h2:∀x∈f.tail,x∈pool)(h3:f∉fs):FactsI pool (fs++[f]) (j+1):=by
 refine ⟨fun g hg=>?_,by rw [length_append,length_singleton];have:=h.len;omega,?_,fun g hg=>?_⟩
 ·rcases mem_append.mp hg with z|z
  ·exact h.ok g z
  ·rw [mem_singleton.mp z];exact h1
 ·rw [nodup_append]
  refine ⟨h.nd,by simp,fun a ha b hb e=>?_⟩
  rw [mem_singleton.mp hb] at e
  rw [e] at ha
  exact h3 ha
 ·rcases mem_append.mp hg with z|z
  ·exact h.pl g z
  ·rw [mem_singleton.mp z];exact h2
theorem fits_sc {facts:List (List D)}{V:Str->D}{as:List (List D)}{pl:List Nat}(hF:∀f∈facts,OkF f)(h:zon facts V as pl):∀b∈zaj [] as,(V b).sc=true:=fun b hb=>by
 rcases zhe hb with z|⟨a,ha,x,hx,e,rfl⟩
 ·cases z
 ·have hm:=zpu h a ha
  have:zbr V x∈a.map (zbr V):=List.mem_map_of_mem hx
  have hsc:=(hF _ hm).2 _ this
  unfold zbr at hsc
  rw [if_pos e] at hsc
  exact hsc
def IsWay (facts bs body:List (List D))(w:Way):Prop:=∃V,w.1=zao V (zaj [] bs)/\zon facts V bs w.2/\O5.allG (body.filter zap) w.1=true
theorem BI.mem {bs body facts:List (List D)}(h:BI bs body){w:Way}(hw:w∈zkr body facts):IsWay facts bs body w:=by
 rw [h.ways] at hw
 obtain ⟨h1,h2⟩:=mem_filter.mp hw
 obtain ⟨S,pl⟩:=w
 obtain ⟨V,e,hf⟩:=(zhc h.good).mp h1
 exact ⟨V,e,hf,h2⟩
theorem BI.inc {bs body:List (List D)}(h:BI bs body)(facts:List (List D)):(zkr body facts).Pairwise fun x y=>zla x.2 y.2:=by
 rw [h.ways]
 exact List.Pairwise.filter _ (zoq facts bs [([],[])] (List.pairwise_singleton _ _))
theorem BI.count {bs body facts:List (List D)}{pool:List D}(h:BI bs body)(hn:facts.Nodup)(hP:pool.Nodup)(hp:∀f∈facts,∀x∈f.tail,x∈pool):((zbq pool (zaj [] body) [[]]).filter (satB facts body)).length=(zkr body facts).length:=by
 rw [h.ways]
 refine zye (ok:=O5.allG (body.filter zap)) hn h.good hP (zhm nodup_nil) h.blanks hp fun V _=>?_
 exact sat_iff h (zhn zcu) fun a ha x hx e=>zgf ha hx e
def lastP (ws:List Way):Nat->D
 |0=>.non
 |j+1=>zgk (ws.getD j ([],[])).2
theorem pw_at {α:Type}{R:α->α->Prop}:∀{l:List α} {i j:Nat} {x y:α},l.Pairwise R->i<j->l[i]?=some x->l[j]?=some y->R x y
 |[],_,_,_,_,_,_,h,_=>by simp at h
 |a::r,0,j+1,x,y,h,_,hx,hy=>by
  simp at hx
  subst hx
  exact (List.pairwise_cons.mp h).1 y (mem_of_getElem? (by simpa using hy))
 |a::r,i+1,j+1,x,y,h,hij,hx,hy=>pw_at (i:=i) (j:=j) (List.pairwise_cons.mp h).2 (by omega) (by simpa using hx) (by simpa using hy)
end FL
namespace K05
open PySem L2 FL
section
variable {P:Program}{w:World}{K:PySem.W.Frag}{mg:Str->Option Value}{base:Heap}{f:Addr}{fd:FuncData}
def RAWay:List D->D->Prop:=fun ds d=>∃V pl facts body bs,ds=[zfk (zao V (zaj [] bs),pl),zbg facts,zbg body]/\BI bs body/\body.length<=10/\OkFs facts/\zon facts V bs pl/\(∀b∈zaj [] bs,(V b).sc=true)/\O5.allG (body.filter zap) (zao V (zaj [] bs))=true/\d=.bl true
theorem sc_law_a_way:zbd ["_law_found","_law_facts","_law_body","_law_things","_law_names","_law_name","_law_thing","_law_wanted","_law_k"] ["_law_found","_law_facts","_law_body"] (zam s_law_a_way):=⟨rfl,rfl,rfl,by decide+kernel,rfl,by decide+kernel,by decide+kernel⟩
theorem zrp (F:Fun K "_law_a_way" "_law_a_way" s_law_a_way f fd)(B:Bl mg)(G_law_blanks_in:Has P w K mg base 1 "_law_blanks_in" ["_law_atoms"] spLBl)(G_law_fill_in:Has P w K mg base 1 "_law_fill_in" ["_law_atom","_law_things"] (spA zqg))(G_law_true:Has P w K mg base 2 "_law_true" ["_law_atom","_law_there"] (spR RTrue)):FnOk P w K mg base CX0 3 f fd ["_law_found","_law_facts","_law_body"] (spR RAWay):=by
 refine F.ok sc_law_a_way (zdq (n:=3) fun ds d ⟨_,_,_,_,_,e,_⟩=>by rw [e];rfl) (fun cdv A outer s H vs Q E hr h=>?_)
 obtain ⟨M,ds,d,lv,rs,⟨V,pl,facts,body,bs,rfl,hI,hbl,hF,hfit,hV,hok,rfl⟩,q⟩:=h
 have hu:=zoa hr
 have hu1:=zmf hr
 refine ⟨_,(zad (zbe (i:=3) sc_law_a_way.nd rfl (Or.inr rfl) zll)
   (zad (zbe (i:=4) sc_law_a_way.nd rfl (Or.inl rfl) (zdg zah))
   (zad (zdr PassesOwn.never rfl (zcg (zay (pv 0) zai)) (znt rfl (zde (zau (i:=5) sc_law_a_way.nd rfl (by first|exact Or.inl rfl|exact Or.inr rfl)) (zde (zau (i:=6) sc_law_a_way.nd rfl (by first|exact Or.inl rfl|exact Or.inr rfl)) zhw))) (zad (zdf (pv 4) (pv 5))
   (zag (zoy hu1 (pv 3) (pv 5) (pv 6) rfl))))
   (zad (zij (i:=7) ["_law_atom"] [] 1 sc_law_a_way.nd rfl (Or.inl rfl) (zcg (pv 2)) (fun _ _ _ _ _=>(zau (i:=0) (show (["_law_atom"]:List Str).Nodup from by decide+kernel) rfl (by first|exact Or.inl rfl|exact Or.inr rfl))) (fun _ _ _ _ _=>(zez (zha (zbb (zff (by exact hu)) (zhy (pv 0) zai) zds (zbl _)) (zfm (zbb (zff (by exact hu)) (zhy (pv 0) zai) zds (zbl _)))).pt)) (fun _ _ _ _ _=>(pv 0)))
   (zad (zdl (zbb (zff (by exact hu)) (pv 4) (zca G_law_blanks_in hr (zab (pv 7) zah)) (zbl _)) (zag (zaz zfv)) zbh)
   (zad (zdr PassesOwn.never rfl (zhb rfl B.range (zab (zdb B (pv 7)) zah)) (zau (i:=8) sc_law_a_way.nd rfl (by first|exact Or.inl rfl|exact Or.inr rfl)) (zag (zdl (zbb (zff (by exact hu)) (zay (pv 1) (zay (zay (pv 0) zai) (pv 8))) (zca G_law_fill_in hr (zab (zay (pv 7) (pv 8)) (zab (pv 3) zah))) (zbl _)) (zag (zaz zfv)) zbh)))
   (zag (zaz (zpc B (zdn ["_law_facts","_law_things","_law_atom"] [1,3] 1 (zcg (pv 2)) (fun _ _ _ _ _=>(zau (i:=2) (show (["_law_facts","_law_things","_law_atom"]:List Str).Nodup from by decide+kernel) rfl (by first|exact Or.inl rfl|exact Or.inr rfl))) (fun _ _ _ _ _=>zhv) (fun _ _ _ _ _=>(zfn G_law_true hr (zab (zfn G_law_fill_in hr (zab (pv 2) (zab (pv 1) zah))) (zab (pv 0) zah)))))))))))))),?_⟩
 have hbs:∀a∈bs,a∈body:=fun a ha=>by rw [<-hI.ask] at ha;exact (mem_filter.mp ha).1
 have hat:∀a∈body,AtOk a:=hI.at_
 have hBlen:(zaj [] bs).length<=30:=by
  have h1:=zmr (B:=[]) (as:=bs) fun a ha=>(hat a (hbs a ha)).len
  have h2:=hI.base3
  rw [length_nil] at h1
  omega
 have hBl:BlOk bs:=zuw (fun a ha=>hat a (hbs a ha)) (by have:=hI.base3;omega)
 have hAB:AllBl (zaj [] bs):=zhn zcu
 have hSsc:∀p∈zao V (zaj [] bs),p.2.sc=true:=fun p hp=>by
  obtain ⟨b,hb,rfl⟩:=mem_map.mp hp
  exact hV b hb
 have hSlen:(zao V (zaj [] bs)).length<=30:=by unfold zao;rw [length_map];exact hBlen
 have hnames:(zao V (zaj [] bs)).map (fun p=>D.str p.1)=(zaj [] bs).map D.str:=by unfold zao;rw [map_map];rfl
 have hcov:∀a∈body,∀x∈a,zaq x=true->x.name∈zaj [] bs:=fun a ha x hx e=>(hI.blanks _).mp (zgf ha hx e)
 have hsat:satB facts body (zao V (zaj [] bs))=true:=(sat_iff hI hAB hcov).mpr ⟨zpu hfit,hok⟩
 have b0:Bx H M [] _ H [Sl.d (zfk (zao V (zaj [] bs),pl)),Sl.d (zbg facts),Sl.d (zbg body),.no,.no,.no,.no,.no,.no]:=b_start lv rs ["_law_found","_law_facts","_law_body","_law_things","_law_names","_law_name","_law_thing","_law_wanted","_law_k"]
 refine OkQ.run b0 ?_
 generalize hSg:zao V (zaj [] bs)=S at hSsc hSlen hnames hsat b0⊢
 refine zem (b_dK (i:=3) ?_)
 refine zem (b_nil (i:=4) ?_)
 refine zem (b_for2 (WalkB.of fun G σ e=>zbn (zbw (ds:=[.lst (zbj S),.tup (pl.map fun n=>D.int (n:Nat))]) (d:=.lst (zbj S)) rfl (e.vd rfl) zak)) (fun j δ'=>∃s5 s6,δ'=[Sl.d (zfk (S,pl)),Sl.d (zbg facts),Sl.d (zbg body),.k (S.take j),.l ((S.take j).map fun p=>D.str p.1),s5,s6,.no,.no]) ⟨_,_,rfl⟩ (fun B' sB hk j x δ' hx hp=>?_) (fun δ' hp=>?_))
 ·obtain ⟨s5,s6,rfl⟩:=hp
  unfold zbj at hx
  rw [getElem?_map] at hx
  obtain ⟨p,hpj,rfl⟩:=Option.map_eq_some_iff.mp hx
  have e1:S.take (j+1)=S.take j++[p]:=by rw [take_add_one,hpj];rfl
  have hlj:(S.take j).length<=30:=by rw [length_take];omega
  refine ⟨.str p.1,p.2,rfl,?_⟩
  refine zem (b_app (j:=4) rfl (fun G σ e=>e.v rfl) rfl (by rw [length_map];exact zar (by omega)) ?_)
  refine b_putK (j:=3) (n:=p.1) rfl (fun G σ e=>e.v rfl) (fun G σ e=>e.v rfl) (hSsc p (mem_of_getElem? hpj)) (by omega) ?_
  refine zux ⟨.d (.str p.1),.d p.2,?_⟩
  rw [e1,map_append]
  rfl
 obtain ⟨s5,s6,hδ⟩:=hp
 have hpl:(zbj S).length=S.length:=by unfold zbj;rw [length_map]
 rw [hpl,List.take_length,hnames] at hδ
 subst hδ
 refine zem (zms (i:=7) (d:=zbg bs) (fun G σ e=>(e.toW.wanted (K:=K) (body:=body) (fun a ha=>⟨(hat a ha).ne,fun x hx=>((hat a ha).ok x hx).1⟩) (by omega) (zbn (e.vd rfl))).eq (by rw [hI.ask])) ?_)
 refine zem (b_if (b:=false) (fun G σ e=>EvT.eq (zav (zjs (zve (zaj [] bs) (zaj [] bs)).1 (zve (zaj [] bs) (zaj [] bs)).2 (e.v rfl) (ev_lbl hBl (zaa (e.v rfl) zaf)))) (by simp)) (fun z=>nomatch z) (fun _=>b_nx ?_))
 refine zem (b_for (i:=8) (WalkB.range1 (n:=bs.length) (by have:=hI.base3;omega) fun G σ e=>zaa ((zdv (K:=K) (zaa (e.v rfl) zaf)).eq (by simp)) zaf) (fun j δ'=>∃s8,δ'=[Sl.d (zfk (S,pl)),Sl.d (zbg facts),Sl.d (zbg body),.k S,.l ((zaj [] bs).map D.str),s5,s6,.d (zbg bs),s8]) ⟨_,rfl⟩ (fun B' sB hk j x δ' hx hp=>?_) (fun δ' hp=>?_))
 ·obtain ⟨s8,rfl⟩:=hp
  obtain ⟨hj,rfl⟩:=zhh 0 _ j x hx
  have ha:=getElem?_eq_getElem hj
  have haM:=getElem_mem hj
  generalize bs[j]=a at ha haM
  have A:=hat a (hbs a haM)
  obtain ⟨i,hi1,hi2⟩:=fits_at hfit ha
  have hfa:zhk S a=a.map (zbr V):=by rw [<-hSg];exact zof hAB A.ne A.hd (hcov a (hbs a haM))
  have hasc:∀x∈a,x.sc=true:=fun x hx=>(A.ok x hx).1
  have hfsc:∀x∈zhk S a,x.sc=true:=zw9 A.ne hasc hSsc
  have hcm:=zjr (a:=zhk S a) (b:=zhk S a) hfsc hfsc
  refine b_if (b:=false) (fun G σ e=>EvT.eq (zav (zjs hcm.1 hcm.2 (zgi (ds:=facts.map D.tup) (i:=((i:Nat):Int)) (d:=.tup (zhk S a)) (zmt (by rw [getElem?_map,hi2,hfa];rfl)) (e.v rfl) (zbw (ds:=pl.map fun n=>D.int (n:Nat)) (d:=.int ((i:Nat):Int)) (zwj (by rw [getElem?_map,hi1];rfl)) (zbw (ds:=[.lst (zbj S),.tup (pl.map fun n=>D.int (n:Nat))]) (d:=.tup (pl.map fun n=>D.int (n:Nat))) rfl (e.v rfl) zak) (e.v rfl))) (e.fillIn (j:=3) (.inl rfl) A.ne hasc A.len (zgi (ds:=bs.map D.tup) (d:=.tup a) (zwj (by rw [getElem?_map,ha];rfl)) (e.v rfl) (e.v rfl))))) (by simp)) (fun z=>nomatch z) (fun _=>b_nx (zux ⟨_,rfl⟩))
 obtain ⟨s8,rfl⟩:=hp
 refine b_ret (d:=.bl true) (fun G σ e=>EvM.eq (zwe (bs:=body.map fun a=>zgy facts (zhk S a)) (zaa (EvM.eq (e.comp (idx:=[1,3]) (k:=1) (i:=2) (fun _=>true) (fun d=>match d with|.tup a=>.bl (zgy facts (zhk S a))|_=>.non) (zbn (e.v rfl)) (fun G' σ' d hd e'=>zic) (fun G' σ' d hd _ e'=>?_) (by rw [length_map];exact zar (by omega))) ?_) zaf)) ?_) (fun v H' s' r'=>q v H' s' r')
 ·obtain ⟨a,ha,rfl⟩:=mem_map.mp hd
  have A:=hat a ha
  exact zba ⟨zhk S a,facts,rfl,zwa A.ne (fun x hx=>(A.ok x hx).1) hSsc (fun g=>(hI.gd a ha g).1),hF,rfl⟩ (zaa (e'.fillIn (j:=1) (.inl rfl) A.ne (fun x hx=>(A.ok x hx).1) A.len (e'.v rfl)) (zaa (e'.v rfl) zaf))
 ·rw [filter_eq_self.mpr fun _ _=>rfl,map_map,map_map]
  rfl
 ·rw [List.all_map]
  exact congrArg D.bl hsat
end
end K05
namespace K05
open PySem L2 FL
section
variable {P:Program}{w:World}{K:PySem.W.Frag}{mg:Str->Option Value}{base:Heap}{f:Addr}{fd:FuncData}
abbrev Nlaw:List Str:=["_law_script","_law_seed","_law_pools","_law_pool","_law_facts","_law_k","_law_cell","_law_one","_law_two","_law_three","_law_some","_law_fact","_law_body","_law_wanted","_law_handed","_law_found","_law_last","_law_way","_law_count","_law_things"]
theorem sc_law:zbd Nlaw ["_law_script"] (zam zts):=⟨rfl,rfl,rfl,by decide+kernel,rfl,by decide+kernel,by decide+kernel⟩
theorem ok_law (F:Fun K "law" "law" zts f fd)(B:Bl mg)(G_law_at:Has P w K mg base 1 "_law_at" ["_law_script","_law_k"] (spR RAt))(G_law_mixed:Has P w K mg base 1 "_law_mixed" ["_law_script"] (spR RMixed))(G_law_body_by:Has P w K mg base 2 "_law_body_by" ["_law_seed","_law_pool"] (spE preBody zvo))(G_ways:Has P w K mg base 9 "ways" ["facts","body"] spWays)
  (G_law_same_facts:Has P w K mg base 3 "_law_same_facts" ["_law_found","_law_due"] (spR RSame)) (G_law_way_kinds:Has P w K mg base 3 "_law_way_kinds" ["_law_found","_law_count","_law_most"] (spR RKinds)) (G_law_a_way:Has P w K mg base 3 "_law_a_way" ["_law_found","_law_facts","_law_body"] (spR RAWay)) (G_law_stands_ahead:Has P w K mg base 1 "_law_stands_ahead" ["_law_one","_law_two"] (spR RAhead))
  (G_law_choices:Has P w K mg base 1 "_law_choices" ["_law_blanks","_law_pool"] zje) (G_law_blanks_in:Has P w K mg base 1 "_law_blanks_in" ["_law_atoms"] spLBl) (G_law_true:Has P w K mg base 2 "_law_true" ["_law_atom","_law_there"] (spR RTrue)) (G_law_fill_in:Has P w K mg base 1 "_law_fill_in" ["_law_atom","_law_things"] (spA zqg)):FnOk P w K mg base CX0 10 f fd ["_law_script"] (spLaw K):=by
 refine F.ok sc_law (fun vs H Q E h=>?_) (fun cdv A outer s H vs Q E hr h=>?_)
 ·obtain ⟨a,ns,rfl,_⟩:=h
  rfl
 obtain ⟨a,ns,rfl,hS,h63,q⟩:=h
 have hu:=zoa hr
 refine ⟨_,(zad (zbe (i:=0) sc_law.nd rfl (Or.inl rfl) (zlk sl_list (pv 0) zp9 (zoz zai)))
   (zad (zbe (i:=0) sc_law.nd rfl (Or.inl rfl) (zca G_law_mixed hr (zab (pv 0) zah)))
   (zad (zbe (i:=1) sc_law.nd rfl (Or.inl rfl) (zcd zei (zca G_law_at hr (zab (pv 0) (zab zai zah))) zai))
   (zad (zbe (i:=2) sc_law.nd rfl (Or.inl rfl) (zdg (zab (zdg (zab zds (zab zai (zab zds zah)))) (zab (zdg (zab zds (zab zai (zab (zpa zja zai) zah)))) (zab (zdg (zab (zcd op_pow zai zai) (zab zai (zab (zpa zja zai) zah)))) zah)))))
   (zad (zbe (i:=3) sc_law.nd rfl (Or.inl rfl) (zay (zcd zrl (pv 2) (zdg (zab (zdg (zab zds (zab (zcd zi9 (pv 1) zai) (zab (zcd op_sub (zpa zja zai) (pv 1)) zah)))) zah))) (zcd zei (zca G_law_at hr (zab (pv 0) (zab zai zah))) zai)))
   (zad (zbe (i:=4) sc_law.nd rfl (Or.inr rfl) (zdg zah))
   (zad (zdr PassesOwn.never rfl (zhb rfl B.range (zab (zdb B (zlk sl_list (pv 0) (zoz zai) zp9)) zah)) (zau (i:=5) sc_law.nd rfl (by first|exact Or.inl rfl|exact Or.inr rfl)) (zad (zbe (i:=6) sc_law.nd rfl (Or.inl rfl) (zay (pv 0) (zcd zi9 (pv 5) zai)))
   (zad (zbe (i:=7) sc_law.nd rfl (Or.inl rfl) (zay (pv 3) (zcd zei (zcd zi9 (zcd zf9 (pv 6) zai) (pv 5)) zai)))
   (zad (zbe (i:=8) sc_law.nd rfl (Or.inl rfl) (zay (pv 3) (zcd zei (zcd zi9 (zcd zf9 (pv 6) zai) (zcd zf9 (pv 5) zai)) zai)))
   (zad (zbe (i:=9) sc_law.nd rfl (Or.inl rfl) (zay (pv 3) (zcd zei (zcd zi9 (zcd zf9 (pv 6) zai) (zcd zf9 (pv 5) zai)) zai)))
   (zad (zbe (i:=10) sc_law.nd rfl (Or.inl rfl) (zdg (zab (zec (zab zds (zab (pv 7) (zab (pv 8) zah)))) (zab (zec (zab zds (zab (pv 7) (zab (pv 8) zah)))) (zab (zec (zab zds (zab (pv 7) zah))) (zab (zec (zab zds zah)) zah))))))
   (zad (zdf (pv 10) (zec (zab zds (zab (pv 7) (zab (pv 8) (zab (pv 7) zah))))))
   (zad (zdf (pv 10) (zec (zab zds (zab (pv 7) (zab (pv 8) (zab (pv 9) (zab (pv 7) (zab (pv 8) zah))))))))
   (zad (zbe (i:=11) sc_law.nd rfl (Or.inl rfl) (zay (pv 10) (zcd zei (pv 6) zai)))
   (zag (zdl (zbb (zrj hu) (pv 11) (pv 4) rfl) (zag (zdf (pv 4) (pv 11))) zbh)))))))))))
   (zad (zbe (i:=12) sc_law.nd rfl (Or.inl rfl) (zca G_law_body_by hr (zab (zca G_law_at hr (zab (pv 0) (zab zai zah))) (zab (pv 3) zah))))
   (zad (zij (i:=13) ["_law_atom"] [] 1 sc_law.nd rfl (Or.inl rfl) (zcg (pv 12)) (fun _ _ _ _ _=>(zau (i:=0) (show (["_law_atom"]:List Str).Nodup from by decide+kernel) rfl (by first|exact Or.inl rfl|exact Or.inr rfl))) (fun _ _ _ _ _=>(zez (zha (zbb (zff (by exact hu)) (zhy (pv 0) zai) zds (zbl _)) (zfm (zbb (zff (by exact hu)) (zhy (pv 0) zai) zds (zbl _)))).pt)) (fun _ _ _ _ _=>(pv 0)))
   (zad (zbe (i:=14) sc_law.nd rfl (Or.inl rfl) (zvq B (pv 4)))
   (zad (zbe (i:=15) sc_law.nd rfl (Or.inl rfl) (zca G_ways hr (zab (pv 14) (zab (zhx B (pv 12)) zah))))
   (zad (zdl (zjj (zdp (zcl (zca G_law_same_facts hr (zab (pv 14) (zab (pv 4) zah))))) (zit (zdp (zcl (zeb B (pv 15) B.list PyProof.Rows.boot_list))))).pt (zag (zaz zfv)) zbh)
   (zad (zbe (i:=16) sc_law.nd rfl (Or.inl rfl) zrh)
   (zad (zdr PassesOwn.never rfl (zcg (pv 15)) (zau (i:=17) sc_law.nd rfl (by first|exact Or.inl rfl|exact Or.inr rfl)) (zad (zdl (zdp (zcl (zca G_law_way_kinds hr (zab (pv 17) (zab (zdb B (pv 13)) (zab (zdb B (pv 4)) zah)))))) (zag (zaz zfv)) zbh)
   (zad (zdl (zdp (zcl (zca G_law_a_way hr (zab (pv 17) (zab (pv 4) (zab (pv 12) zah)))))) (zag (zaz zfv)) zbh)
   (zad (zdl (zha (zbb op_notN (pv 16) zrh (zbl _)) (zfm (zdp (zcl (zca G_law_stands_ahead hr (zab (pv 16) (zab (zay (pv 17) zai) zah))))))).pt (zag (zaz zfv)) zbh)
   (zag (zbe (i:=16) sc_law.nd rfl (Or.inl rfl) (zay (pv 17) zai)))))))
   (zad (zbe (i:=18) sc_law.nd rfl (Or.inl rfl) zai)
   (zad (zdr PassesOwn.never rfl (zcg (zca G_law_choices hr (zab (zca G_law_blanks_in hr (zab (pv 12) zah)) (zab (pv 3) zah)))) (zau (i:=19) sc_law.nd rfl (by first|exact Or.inl rfl|exact Or.inr rfl)) (zag (zdl (zcl (zpc B (zdn ["_law_facts","_law_things","_law_atom"] [4,19] 1 (zcg (pv 12)) (fun _ _ _ _ _=>(zau (i:=2) (show (["_law_facts","_law_things","_law_atom"]:List Str).Nodup from by decide+kernel) rfl (by first|exact Or.inl rfl|exact Or.inr rfl))) (fun _ _ _ _ _=>zhv) (fun _ _ _ _ _=>(zfn G_law_true hr (zab (zfn G_law_fill_in hr (zab (pv 2) (zab (pv 1) zah))) (zab (pv 0) zah))))))) (zag (zbe (i:=18) sc_law.nd rfl (Or.inl rfl) (zcd zi9 (pv 18) zai))) zbh)))
   (zag (zaz (zfo (zgl (by exact hu)) (zdb B (pv 15)) (pv 18) (zbl _)))))))))))))))))))),?_⟩
 refine ⟨_,rfl,500,rfl,a,_,rfl,hS,fun p hp=>?_⟩
 rw [cut500 h63]
 have E1:=env_law (H:=H) (p:=p) (ns:=ns) Nlaw a 19 rfl
 dsimp only
 have b0:Bx _ [] [] _ _ [Sl.d (.lst (ns.map D.int)),.no,.no,.no,.no,.no,.no,.no,.no,.no,.no,.no,.no,.no,.no,.no,.no,.no,.no,.no]:=Bx.ofEnv Live.nil (by simp) E1
 refine OkQ.run0 b0 ?_
 clear b0 E1 hS
 generalize upd H p (HO.lst (List.map V.int ns))=H1
 refine zem (zms (i:=0) (d:=.lst ((zpk ns).map D.int)) (fun G σ e=>zba ⟨ns,rfl,h63,rfl⟩ (zaa (e.vd rfl) zaf)) ?_)
 have hml:(zpk ns).length<=63:=by rw [mixed_len];exact h63
 have hmn:∀x∈zpk ns,0<=x:=fun x hx=>zs9 hx
 generalize zpk ns=ms at hml hmn
 clear h63
 refine zem (znk (i:=1) (d:=.int (ms.getD 1 0%1000)) (fun G σ e=>zek (by decide) (zba (zv9 ms 1) (zaa (e.v rfl) (zaa zak zaf))) zak) rfl ?_)
 have hs0:=Int.emod_nonneg (ms.getD 1 0) (show (1000:Int)≠0 by decide)
 refine zem (zms (i:=2) (d:=.lst [.lst [.str "ashenashenashen",.int 0,.str "ashenashxnashen"],.lst [.str "ashenashenashen",.int 2,.int (-1)],.lst [.int (10^(30:Int).toNat),.int 0,.int (-1)]]) (fun G σ e=>zgp (zaa (zgp (zaa zbf (zaa zak (zaa zbf zaf)))) (zaa (zgp (zaa zbf (zaa zak (zaa (zmi zak) zaf)))) (zaa (zgp (zaa (ev_pow ⟨by decide,by decide,by decide⟩ zak zak) (zaa zak (zaa (zmi zak) zaf)))) zaf)))) ?_)
 obtain ⟨dp,hp1,hp2,_⟩:=zol (l:=zvp (ms.getD 1 0%1000)) (n:=4) (ms.getD 0 0) (by decide) rfl
 obtain ⟨pool,rfl,hP⟩:=pools_ok hs0 dp hp2
 refine zem (zms (i:=3) (d:=.lst pool) (fun G σ e=>zgi (ds:=zvp (ms.getD 1 0%1000)) hp1 (zmk (xs:=[.lst [.str "ashenashenashen",.int 0,.str "ashenashxnashen"],.lst [.str "ashenashenashen",.int 2,.int (-1)],.lst [.int (10^(30:Int).toNat),.int 0,.int (-1)]]) (ys:=[.lst [.str "qu",.int (ms.getD 1 0%1000+4),.int (-4-ms.getD 1 0%1000)]]) (by show 3+1<=1000;decide) (e.vd rfl) (zgp (zaa (zgp (zaa zbf (zaa (ziv (e.vd rfl) zak) (zaa (ev_sub (zmi zak) (e.vd rfl)) zaf)))) zaf))) (zek (by decide) (zba (zv9 ms 0) (zaa (e.vd rfl) (zaa zak zaf))) zak)) ?_)
 clear hp1 hp2
 generalize Sl.d (D.int (ms.getD 1 0%1000))=s1
 generalize Sl.d (D.lst [.lst [.str "ashenashenashen",.int 0,.str "ashenashxnashen"],.lst [.str "ashenashenashen",.int 2,.int (-1)],.lst [.int (10^(30:Int).toNat),.int 0,.int (-1)]])=s2
 refine zem (b_nil (i:=4) ?_)
 refine zem (b_for (i:=5) (WalkB.range1 (n:=ms.length-2) (by omega) fun G σ e=>zaa ((zdv (K:=K) (zaa (ev_from (k:=2) (e.v rfl)) zaf)).eq (by simp)) zaf) (fun j δ'=>∃fs s5 s6 s7 s8 s9 s10 s11,FactsI pool fs j/\δ'=[Sl.d (.lst (ms.map D.int)),s1,s2,.d (.lst pool),.l (fs.map D.tup),s5,s6,s7,s8,s9,s10,s11,.no,.no,.no,.no,.no,.no,.no,.no]) ⟨[],_,_,_,_,_,_,_,⟨(fun f hf=>nomatch hf),Nat.le_refl _,nodup_nil,(fun f hf=>nomatch hf)⟩,rfl⟩ (fun B' sB hk j x δ' hx hp=>?_) (fun δ' hp=>?_))
 ·obtain ⟨fs,s5,s6,s7,s8,s9,s10,s11,hI,rfl⟩:=hp
  obtain ⟨hj,rfl⟩:=zhh 0 _ j x hx
  have hc:ms[j+2]?=some ms[j+2]:=getElem?_eq_getElem (by omega)
  have hcm:ms[j+2]∈ms:=getElem_mem _
  have hc0:=hmn _ hcm
  generalize ms[j+2]=cell at hc hc0
  have m3:∀y:Int,∃d,atI pool (y%3)=some d/\d∈pool:=fun y=>by
   obtain ⟨d,h1,h2,_⟩:=zol (l:=pool) (n:=3) y (by decide) hP.len
   exact ⟨d,h1,h2⟩
  have hscp:∀{x:D},x∈pool->x.noL=true:=fun {x} hx=>noL_sc (hP.gp x hx).1
  refine zem (znk (i:=6) (d:=.int cell) (fun G σ e=>zgi (ds:=ms.map D.int) (i:=0+(j:Int)+2) (ze9 (by omega) (by rw [show (0+(j:Int)+2).toNat=j+2 by omega,getElem?_map,hc];rfl)) (e.v rfl) (ziv (e.v rfl) zak)) rfl ?_)
  obtain ⟨one,o1,o2⟩:=m3 (cell/4+(0+(j:Int)))
  refine zem (znk (i:=7) (d:=one) (fun G σ e=>zgi o1 (e.v rfl) (zek (by decide) (ziv (zfb ⟨by decide,by decide⟩ (e.v rfl) zak) (e.v rfl)) zak)) (hscp o2) ?_)
  obtain ⟨two,t1,t2⟩:=m3 (cell/12+(0+(j:Int))/3)
  refine zem (znk (i:=8) (d:=two) (fun G σ e=>zgi t1 (e.v rfl) (zek (by decide) (ziv (zfb ⟨by decide,by decide⟩ (e.v rfl) zak) (zfb ⟨by decide,by decide⟩ (e.v rfl) zak)) zak)) (hscp t2) ?_)
  obtain ⟨three,r1,r2⟩:=m3 (cell/36+(0+(j:Int))/9)
  refine zem (znk (i:=9) (d:=three) (fun G σ e=>zgi r1 (e.v rfl) (zek (by decide) (ziv (zfb ⟨by decide,by decide⟩ (e.v rfl) zak) (zfb ⟨by decide,by decide⟩ (e.v rfl) zak)) zak)) (hscp r2) ?_)
  refine zem (b_newN (i:=10) (ds:=[.tup [.str "road",one,two],.tup [.str "kin",one,two],.tup [.str "mark",one],.tup [.str "rain"]]) (fun G σ e=>zaa (zcq (zaa zbf (zaa (e.vd rfl) (zaa (e.vd rfl) zaf)))) (zaa (zcq (zaa zbf (zaa (e.vd rfl) (zaa (e.vd rfl) zaf)))) (zaa (zcq (zaa zbf (zaa (e.vd rfl) zaf))) (zaa (zcq (zaa zbf zaf)) zaf)))) (Nat.le_of_lt (zar (by simp))) ?_)
  refine zem (b_appN (j:=10) (d:=.tup [.str "deal",one,two,one]) rfl (fun G σ e=>zcq (zaa zbf (zaa (e.vd rfl) (zaa (e.vd rfl) (zaa (e.vd rfl) zaf))))) (zar (by simp)) ?_)
  refine zem (b_appN (j:=10) (d:=.tup [.str "rig",one,two,three,one,two]) rfl (fun G σ e=>zcq (zaa zbf (zaa (e.vd rfl) (zaa (e.vd rfl) (zaa (e.vd rfl) (zaa (e.vd rfl) (zaa (e.vd rfl) zaf))))))) (zar (by simp)) ?_)
  obtain ⟨df,f1,f2,_⟩:=zol (l:=(menu6 one two three).map D.tup) (n:=6) cell (by decide) rfl
  obtain ⟨fct,f3,rfl⟩:=mem_map.mp f2
  obtain ⟨f4,f5⟩:=menu6_ok hP o2 t2 r2 fct f3
  refine zem (znk (i:=11) (d:=.tup fct) (fun G σ e=>zgi (ds:=(menu6 one two three).map D.tup) f1 (e.v rfl) (zek (by decide) (e.v rfl) zak)) (zpj f4.1.2) ?_)
  refine b_if (fun G σ e=>zav (ev_ninL (d:=.tup fct) (es:=fs.map D.tup) (fun y hy=>?_) (e.v rfl) (e.v rfl))) (fun z=>?_) (fun z=>b_nx (zux ⟨fs,_,_,_,_,_,_,_,⟨hI.ok,Nat.le_succ_of_le hI.len,hI.nd,hI.pl⟩,rfl⟩))
  ·obtain ⟨g,hg,rfl⟩:=mem_map.mp hy
   exact zjr (hI.ok g hg).1.2 f4.1.2
  ·have hnm:fct∉fs:=fun w=>by
    have:decide (D.tup fct∈fs.map D.tup)=true:=decide_eq_true (mem_tups.mpr w)
    rw [this] at z;cases z
   refine b_app (j:=4) rfl (fun G σ e=>e.v rfl) (zpj f4.1.2) (by rw [length_map];have:=hI.len;exact zar (by omega)) ?_
   rw [show fs.map D.tup++[D.tup fct]=(fs++[fct]).map D.tup by rw [map_append];rfl]
   exact zux ⟨fs++[fct],_,_,_,_,_,_,_,hI.snoc f4 f5 hnm,rfl⟩
 obtain ⟨facts,s5,s6,s7,s8,s9,s10,s11,hI,rfl⟩:=hp
 rw [length_map,length_range] at hI
 have hfl:facts.length<=61:=by have:=hI.len;omega
 have hFs:OkFs facts:=⟨hI.ok,by omega⟩
 have hF:∀g∈facts,OkF g:=fun g hg=>(hI.ok g hg).1
 refine b_show (i:=4) (xs:=facts.map D.tup) rfl ?_
 refine zem (b_callE (i:=12) (ds:=[.int (ms.getD 1 0),.lst pool]) (fun G σ e=>zaa (zba (zv9 ms 1) (zaa (e.vd rfl) (zaa zak zaf))) (zaa (e.vd rfl) zaf)) ⟨_,_,rfl,hP⟩ fun d hd=>?_)
 obtain ⟨body,rfl,⟨bs,hB⟩,hbl⟩:=hd
 have hat:=hB.at_
 refine zem (zms (i:=13) (d:=zbg bs) (fun G σ e=>(e.toW.wanted (K:=K) (body:=body) (fun a ha=>⟨(hat a ha).ne,fun x hx=>((hat a ha).ok x hx).1⟩) (by omega) (zbn (e.vd rfl))).eq (by rw [hB.ask])) ?_)
 refine zem (zms (i:=14) (d:=zbg facts) (fun G σ e=>ev_listL (zaa (e.vd rfl) zaf)) ?_)
 have hOB:ztc body:=⟨fun a ha=>(hat a ha).okA,by omega⟩
 have hOG:OkGs body:=fun g hg e=>(hB.gd g hg e).1
 have hlenb:∀k,(zaj [] ((body.filter fun a=> !zap a).take k)).length<=500:=fun k=>by
  rw [hB.ask]
  have h1:=zmr (B:=[]) (as:=bs.take k) fun a ha=>by
   have:=mem_of_mem_take ha
   rw [<-hB.ask] at this
   exact (hat a (mem_filter.mp this).1).len
  have h2:=hB.base3
  have h3:(bs.take k).length<=3:=by rw [length_take];omega
  rw [length_nil] at h1
  omega
 have hR:=run_okL (facts:=facts) hF (by omega) (fun a ha=>(hat a ha).okA) (by omega) (fun g hg e=>by
  obtain ⟨r,x,y,rfl⟩:=(hB.gd g hg e).1
  exact ⟨(hat _ hg).okA,r,x,y,rfl,(hat _ hg).hd⟩) hlenb
 have hN:=zxv (facts:=facts) (as:=body) (by omega) (by rw [hB.ask];exact hB.base3)
 refine zem (zms (i:=15) (d:=.lst ((zkr body facts).map zfk)) (fun G σ e=>ev_ways hF (by omega) hOB hOG hR hN (zaa (e.vd rfl) (zaa (zid (zaa (e.vd rfl) zaf)) zaf))) ?_)
 refine zwi (fun G σ e=>zdu (b:=false) (c:=false) (EvT.eq (zbo (zby (zba (d:=.bl true) ⟨facts,rfl,hFs,rfl⟩ (zaa (e.v rfl) (zaa (e.v rfl) zaf))))) rfl) fun _=>EvT.eq (zbo (zby (zmj (e.v rfl)))) rfl) ?_
 refine zem (znk (i:=16) (d:=.non) (fun G σ e=>ev_non) rfl ?_)
 have hinc:=hB.inc facts
 have hway:∀w∈zkr body facts,IsWay facts bs body w:=fun w hw=>hB.mem hw
 have hcnt:=hB.count (pool:=pool) hI.nd hP.nodup hI.pl
 generalize zkr body facts=ws at hinc hway hcnt
 refine zem (b_for (i:=17) (WalkB.of fun G σ e=>zbn (e.vd rfl)) (fun j δ'=>∃s17,δ'=[Sl.d (.lst (ms.map D.int)),s1,s2,.d (.lst pool),.d (zbg facts),s5,s6,s7,s8,s9,s10,s11,.d (zbg body),.d (zbg bs),.d (zbg facts),.d (.lst (ws.map zfk)),.d (lastP ws j),s17,.no,.no]) ⟨_,rfl⟩ (fun B' sB hk j x δ' hx hp=>?_) (fun δ' hp=>?_))
 ·obtain ⟨s17,rfl⟩:=hp
  rw [getElem?_map] at hx
  obtain ⟨w,hw,rfl⟩:=Option.map_eq_some_iff.mp hx
  obtain ⟨V,hV1,hV2,hV3⟩:=hway w (mem_of_getElem? hw)
  obtain ⟨S,pl⟩:=w
  have hV1:S=zao V (zaj [] bs):=hV1
  have hV2:zon facts V bs pl:=hV2
  have hVs:=fits_sc hF hV2
  have hlen:pl.length=bs.length:=zpv hV2
  have hb3:=hB.base3
  refine zwi (fun G σ e=>EvT.eq (zbo (zby (zba (d:=.bl true) ⟨(S,pl),bs.length,facts.length,rfl,(fun p hp=>by
   have hp:p∈S:=hp
   rw [hV1] at hp
   obtain ⟨b,hb,rfl⟩:=mem_map.mp hp
   exact hVs b hb),hlen,fits_lt hV2,rfl⟩ (zaa (e.v rfl) (zaa ((zdv (K:=K) (zaa (e.v rfl) zaf)).eq (by rw [length_map])) (zaa ((zdv (K:=K) (zaa (e.v rfl) zaf)).eq (by rw [length_map])) zaf)))))) rfl) ?_
  refine zwi (fun G σ e=>EvT.eq (zbo (zby (zba (d:=.bl true) ⟨V,pl,facts,body,bs,by rw [<-hV1],hB,hbl,hFs,hV2,hVs,by rw [<-hV1];exact hV3,rfl⟩ (zaa (e.v rfl) (zaa (e.v rfl) (zaa (e.v rfl) zaf)))))) rfl) ?_
  refine zwi (fun G σ e=>?_) ?_
  ·cases j with
   |zero=>exact EvT.eq (zgb (c:=false) (zav (zuo (d:=.non) (e.v rfl))) fun z=>nomatch z) rfl
   |succ j=>
    have hjl:j<ws.length:=by have:=(List.getElem?_eq_some_iff.mp hw).1;omega
    have hwj:ws[j]?=some ws[j]:=getElem?_eq_getElem hjl
    obtain ⟨V',_,hV2',_⟩:=hway ws[j] (getElem_mem hjl)
    have hlj:=zpv hV2'
    have hlt:=pw_at hinc (Nat.lt_succ_self j) hwj hw
    have hgd:ws.getD j ([],[])=ws[j]:=by rw [List.getD,hwj];rfl
    refine EvT.eq (zgb (c:=false) (zav (zuo (d:=zgk (ws.getD j ([],[])).2) (e.v rfl))) fun _=>EvT.eq (zbo (zby (zba (d:=.bl true) ⟨(ws.getD j ([],[])).2,pl,rfl,?_,?_,?_⟩ (zaa (e.v rfl) (zaa (zbw (ds:=[.lst (zbj S),zgk pl]) (d:=zgk pl) rfl (e.v rfl) zak) zaf))))) rfl) rfl
    ·rw [hgd,hlj,hlen]
    ·rw [hgd,hlj];omega
    ·rw [hgd,lexb_of hlt]
  ·refine znk (i:=16) (d:=zgk pl) (fun G σ e=>zbw (ds:=[.lst (zbj S),zgk pl]) (d:=zgk pl) rfl (e.v rfl) zak) (zpj fun x hx=>?_) (zux ⟨.d (zfk (S,pl)),?_⟩)
   ·obtain ⟨n,_,rfl⟩:=mem_map.mp hx
    rfl
   ·have hgd:ws.getD j ([],[])=(S,pl):=by rw [List.getD,hw];rfl
    show _=[Sl.d (.lst (ms.map D.int)),s1,s2,.d (.lst pool),.d (zbg facts),s5,s6,s7,s8,s9,s10,s11,.d (zbg body),.d (zbg bs),.d (zbg facts),.d (.lst (ws.map zfk)),.d (zgk (ws.getD j ([],[])).2),.d (zfk (S,pl)),.no,.no]
    rw [hgd]
    rfl
 obtain ⟨s17,rfl⟩:=hp
 generalize Sl.d (lastP ws (ws.map zfk).length)=s16
 dsimp only
 refine zem (znk (i:=18) (d:=.int 0) (fun G σ e=>zak) rfl ?_)
 have hBlb:BlOk body:=zuw hat (by omega)
 have hB3:(zaj [] body).length<=3:=by
  have h1:∀b∈(zaj [] body).map D.str,b∈xyz:=fun b hb=>by
   obtain ⟨c,hc,rfl⟩:=mem_map.mp hb
   exact (zok hat hc).1
  have h2:=zfw (zlx (f:=D.str) (zhm (as:=body) nodup_nil) fun x _ y _ e=>by injection e) h1
  rw [length_map] at h2
  exact h2
 refine zem (b_forC (i:=19) (Bs:=zaj [] body) (pool:=pool) (fun G σ e=>zaa (ev_lbl hBlb (zaa (e.vd rfl) zaf)) (zaa (e.vd rfl) zaf)) (fun x hx=>(hP.gp x hx).1) hB3 (by rw [hP.len];exact Nat.le_refl _) (fun j δ'=>∃s19,δ'=[Sl.d (.lst (ms.map D.int)),s1,s2,.d (.lst pool),.d (zbg facts),s5,s6,s7,s8,s9,s10,s11,.d (zbg body),.d (zbg bs),.d (zbg facts),.d (.lst (ws.map zfk)),s16,s17,.d (.int ((((zbq pool (zaj [] body) [[]]).take j).filter (satB facts body)).length:Nat)),s19]) ⟨_,rfl⟩ (fun B' sB hk j c δ' hc hp=>?_) (fun δ' hp=>?_))
 ·obtain ⟨s19,rfl⟩:=hp
  have htk:((zbq pool (zaj [] body) [[]]).take (j+1)).filter (satB facts body)=((zbq pool (zaj [] body) [[]]).take j).filter (satB facts body)++(if satB facts body c=true then [c] else []):=by
   rw [take_add_one,hc,filter_append]
   congr 1
   by_cases z:satB facts body c=true
   ·simp [z]
   ·simp [z]
  have hcs:∀p∈c,p.2.sc=true:=zfx pool _ [[]] c (fun x hx=>(hP.gp x hx).1) (fun m hm p hp=>by rw [mem_singleton.mp hm] at hp;cases hp) (mem_of_getElem? hc)
  generalize ((zbq pool (zaj [] body) [[]]).take j).filter (satB facts body)=L at htk
  refine b_if (b:=satB facts body c) (fun G σ e=>zby (EvM.eq (zwe (bs:=body.map fun a=>zgy facts (zhk c a)) (zaa (EvM.eq (e.comp (idx:=[4,19]) (k:=1) (i:=2) (fun _=>true) (fun d=>match d with|.tup a=>.bl (zgy facts (zhk c a))|_=>.non) (zbn (e.v rfl)) (fun G' σ' d hd e'=>zic) (fun G' σ' d hd _ e'=>?_) (by rw [length_map];exact zar (by omega))) ?_) zaf)) ?_)) (fun z=>?_) (fun z=>b_nx (zux ⟨.kd c,?_⟩))
  ·obtain ⟨a,ha,rfl⟩:=mem_map.mp hd
   have A:=hat a ha
   exact zba ⟨zhk c a,facts,rfl,zwa A.ne (fun x hx=>(A.ok x hx).1) hcs (fun g=>(hB.gd a ha g).1),hFs,rfl⟩ (zaa (e'.fillIn (j:=1) (.inr rfl) A.ne (fun x hx=>(A.ok x hx).1) A.len (e'.v rfl)) (zaa (e'.v rfl) zaf))
  ·rw [filter_eq_self.mpr fun _ _=>rfl,map_map,map_map]
   rfl
  ·rw [List.all_map]
   rfl
  ·refine znk (i:=18) (d:=.int ((L.length:Nat)+1)) (fun G σ e=>ziv (e.v rfl) zak) rfl (zux ⟨.kd c,?_⟩)
   rw [htk,if_pos z,length_append,length_singleton,Int.natCast_add]
   rfl
  ·rw [htk,if_neg (by rw [z];exact Bool.false_ne_true),append_nil]
   rfl
 obtain ⟨s19,rfl⟩:=hp
 rw [List.take_length,hcnt]
 refine b_ret (d:=.bl true) (fun G σ e=>EvM.eq (zie (i:=((ws.length:Nat):Int)) (j:=((ws.length:Nat):Int)) ((zdv (K:=K) (zaa (e.v rfl) zaf)).eq (by rw [length_map])) (e.v rfl)) (by simp)) (fun v H' s' r'=>?_)
 rw [r'.of_bl]
 exact q H'
end
end K05
namespace K05
open PySem L2 FL
section
variable {P:Program}{w:World}{K:PySem.W.Frag}{mg:Str->Option Value}{base:Heap}{f:Addr}{fd:FuncData}
theorem zr9:zbd ["self","asker","shared","guards"] ["self","asker","shared","guards"] (zam zee):=⟨rfl,rfl,rfl,by decide+kernel,rfl,by decide+kernel,by decide+kernel⟩
theorem zrt {C:Addr}(F:Fun K "__init__" "Step.__init__" zee f fd)(T:ztb K C):FnOk P w K mg base CX0 1 f fd ["self","asker","shared","guards"] (spInit C):=by
 refine F.ok zr9 (fun vs H Q E ⟨_,_,_,_,_,e,_⟩=>by rw [e];rfl) (fun cdv A outer s H vs Q E hr h=>?_)
 obtain ⟨x,dx,v1,v2,v3,rfl,hx,q⟩:=h
 refine ⟨_,(zad (zgj (pv 0) (pv 1) rfl)
   (zad (zgj (pv 0) (pv 2) rfl)
   (zad (zgj (pv 0) (pv 3) rfl)
   (zad (zgj (pv 0) pe_dnewT rfl)
   (zag (zgj (pv 0) (zpa zja zai) rfl)))))),?_⟩
 refine ⟨v1,rfl,.ref x,rfl,x,C,dx,[],rfl,hx,T.cl,T.nA,by decide,?_⟩
 refine ⟨v2,rfl,.ref x,rfl,x,C,dx,_,rfl,zae,T.cl,T.nS,(show 1<1000 by decide),?_⟩
 refine ⟨v3,rfl,.ref x,rfl,x,C,dx,_,rfl,zae,T.cl,T.nG,(show 2<1000 by decide),?_⟩
 rw [zfd,zfd]
 intro p hp
 have npx:p≠x:=fun z=>by rw [z,zae] at hp;cases hp
 rw [zal npx] at hp
 refine ⟨.ref x,rfl,x,C,dx,[("asker",v1),("shared",v2),("guards",v3)],rfl,by rw [zal (Ne.symm npx)];exact zae,T.cl,T.nO,(show 3<1000 by decide),?_⟩
 rw [upd_over npx]
 refine ⟨1,rfl,.ref x,rfl,x,C,dx,_,rfl,zae,T.cl,T.nN,(show 4<1000 by decide),?_⟩
 rw [zfd]
 exact q p hp npx
theorem sc_Step_offer:zbd ["self","place","fact","setting","shared_things","pairs"] ["self","place","fact"] (zam zdt):=⟨rfl,rfl,rfl,by decide+kernel,rfl,by decide+kernel,by decide+kernel⟩
theorem zpf {C:Addr}(F:Fun K "offer" "Step.offer" zdt f fd)(T:ztb K C)(B:Bl mg)(G_matched:Has P w K mg base 2 "matched" ["atom","fact","setting"] (spR zwn)):FnOk P w K mg base CX0 3 f fd ["self","place","fact"] (spOffer C):=by
 refine F.ok sc_Step_offer (fun vs H Q E ⟨_,_,_,_,_,_,_,e,_⟩=>by rw [e];rfl) (fun cdv A outer s H vs Q E hr h=>?_)
 obtain ⟨Z,os,st,a,n,g,v2,rfl,lv,hst,hos,r2,hA,hg,hz,q⟩:=h
 have hu1:=zmf hr
 refine ⟨_,(zad (zbe (i:=3) sc_Step_offer.nd rfl (Or.inl rfl) (zca G_matched hr (zab (zeh (pv 0) rfl) (zab (pv 2) (zab (zdg zah) zah)))))
   (zag (zdl (zbb op_notN (pv 3) zrh (zbl _)) (zad (zbe (i:=4) sc_Step_offer.nd rfl (Or.inl rfl) (zhx B (zdn ["self","blank","thing"] [0] 2 (zcg (pv 3)) (fun _ _ _ _ _=>(ztu (n:=2) rfl (zde (zau (i:=1) (show (["self","blank","thing"]:List Str).Nodup from by decide+kernel) rfl (by first|exact Or.inl rfl|exact Or.inr rfl)) (zde (zau (i:=2) (show (["self","blank","thing"]:List Str).Nodup from by decide+kernel) rfl (by first|exact Or.inl rfl|exact Or.inr rfl)) zhw)))) (fun _ _ _ _ _=>(zez (zrd (pc_din (by exact hu1) (pv 1) (zls (pv 0) rfl))))) (fun _ _ _ _ _=>(pv 2)))))
   (zad (zij (i:=5) ["self","blank","thing"] [0] 2 sc_Step_offer.nd rfl (Or.inl rfl) (zcg (pv 3)) (fun _ _ _ _ _=>(ztu (n:=2) rfl (zde (zau (i:=1) (show (["self","blank","thing"]:List Str).Nodup from by decide+kernel) rfl (by first|exact Or.inl rfl|exact Or.inr rfl)) (zde (zau (i:=2) (show (["self","blank","thing"]:List Str).Nodup from by decide+kernel) rfl (by first|exact Or.inl rfl|exact Or.inr rfl)) zhw)))) (fun _ _ _ _ _=>(zez (zrd (zri (by exact hu1) (pv 1) (zls (pv 0) rfl))))) (fun _ _ _ _ _=>(zec (zab (pv 1) (zab (pv 2) zah)))))
   (zad (zdf (pe_dset hu1 (zeh (pv 0) rfl) (pv 4) (zdg zah) ⟨rfl,rfl,rfl,rfl⟩) (zec (zab (pv 1) (zab (pv 5) zah))))
   (zag (zgj (pv 0) (pv 1) rfl))))) zbh))),?_⟩
 obtain ⟨dx,v0,sa,w2,ao,ls,oS,eos,ha,r0,hsa,rg,hO⟩:=hst.at_
 have aZ:a∈Z:=hos a (by rw [eos];simp)
 have aoZ:ao∈Z:=hos ao (by rw [eos];simp)
 have lsZ:∀x∈ls,x∈Z:=fun x hx=>hos x (by rw [eos];simp [hx])
 obtain ⟨Zr,hZr,aZr⟩:∃Zr:List Addr,(∀x,x∈a::Zr↔x∈Z)/\a∉Zr:=⟨Z.filter (fun y=>decide (y≠a)),fun x=>by
  by_cases e:x=a
  ·simp [e,aZ]
  ·simp [e],by simp⟩
 have G1:Same (but H Z) (but H Zr):=zcj fun x hx=>(hZr x).mp (mem_cons_of_mem _ hx)
 have lr:Live Zr H:=fun x hx=>lv x ((hZr x).mp (mem_cons_of_mem _ hx))
 have ga:but H Zr a=some (.ins C dx (stFs v0 sa w2 ao st.newest)):=by rw [zat aZr];exact ha
 have E0:EnvR (but H Zr) (L2.start ["self","place","fact","setting","shared_things","pairs"] [.ref a,.int ((n:Nat):Int),v2]) [none,some (.int ((n:Nat):Int)),some (.tup g),none,none,none]:=zci (.raw (.dat (.int _) (.dat (r2.mono G1) .nil))) _
 refine zh9 (i:=3) lr E0 (zba (d:=optD (zb9 st.asker g [])) ⟨st.asker,g,[],rfl,hA.sc,hg.2,(fun p hp=>nomatch hp),hA.len,Nat.zero_le _,hA.ne,hg.1,rfl⟩ (zaa (zhp T.cl T.nA rfl ga rfl (r0.mono G1)) (zaa (zaw E0 rfl) (zaa (zgp (ds:=zbj []) zaf (hz:=Nat.zero_le _)) zaf)))) fun σ4 H4 o4 s4 l4 E4=>?_
 have c0:σ4[0]?=some (some (.ref a)):=o4 0 (by decide)
 refine zk9 l4 E4 (zav (zuo (zaw E4 rfl))) (fun e H5 s5 l5 E5=>?_) (fun e H5 s5 l5 E5=>?_)
 ·obtain ⟨m,hm⟩:∃m,zb9 st.asker g []=some m:=by
   cases hm:zb9 st.asker g [] with
   |some m=>exact ⟨m,rfl⟩
   |none=>rw [hm] at e;exact absurd e (by decide)
  have hsc:=zvw hm (fun t ht=>nomatch ht) hg.2
  have hln:=zsb hm
  have hAl:=hA.len
  rw [hm] at E5
  have E5:EnvR (but H5 Zr) σ4 [none,some (.int ((n:Nat):Int)),some (.tup g),some (.lst (zbj m)),none,none]:=E5
  have ga5:=((s4.trans s5).but Zr) _ _ ga
  have hs5:=((s4.trans s5).but Zr) _ _ (G1 _ _ hsa)
  have hlp:(prs m).length<=100:=by unfold prs;rw [length_map];omega
  refine zh9 (i:=4) l5 E5 (zid (zaa (EvM.eq (zwd (K:=K) (caps:=zas [0] 2) (i:=1) (j:=2) (by decide) (ps:=prs m) (p:=fun q=>decide (q.1.name∈zew st)) (f:=fun q=>q.2) (zbn ((zaw E5 rfl).eq (by rw [zre]))) (fun G' v1 v2 q sG hq r1 r2=>?_) (fun G' v1 v2 q sG hq _ r1 r2=>zch (by simp [zas]) r2) (zar (by omega))) (by rw [prs_key])) zaf)) fun σ6 H6 o6 s6 l6 E6=>?_
  ·obtain ⟨t,ht,rfl⟩:=mem_map.mp hq
   exact evt_inF (n:=t.1) (a:=a) T.cl T.nS (by simp [zas,c0]) (sG _ _ ga5) rfl (sG _ _ hs5) (zch (by simp [zas]) r1)
  have d0:=(o6 0 (by decide)).trans c0
  have ga6:=(s6.but Zr) _ _ ga5
  have hs6:=(s6.but Zr) _ _ hs5
  refine zh9 (i:=5) l6 E6 (EvM.eq (zwd (K:=K) (caps:=zas [0] 2) (i:=1) (j:=2) (by decide) (ps:=prs m) (p:=fun q=> !decide (q.1.name∈zew st)) (f:=fun q=>.tup [q.1,q.2]) (zbn ((zaw E6 rfl).eq (by rw [zre]))) (fun G' v1 v2 q sG hq r1 r2=>?_) (fun G' v1 v2 q sG hq _ r1 r2=>zcq (zaa (zch (by simp [zas]) r1) (zaa (zch (by simp [zas]) r2) zaf))) (zar (by omega))) (by rw [prs_rest])) fun σ7 H7 o7 s7 l7 E7=>?_
  ·obtain ⟨t,ht,rfl⟩:=mem_map.mp hq
   exact zxw (n:=t.1) (a:=a) T.cl T.nS (by simp [zas,d0]) (sG _ _ ga6) rfl (sG _ _ hs6) (zch (by simp [zas]) r1)
  have S7:Same H H7:=s4.trans (s5.trans (s6.trans s7))
  have e0:σ7[0]?=some (some (.ref a)):=(o7 0 (by decide)).trans d0
  have ha7:=S7 _ _ ha
  have E7Z:EnvR (but H7 Z) σ7 [none,some (.int ((n:Nat):Int)),some (.tup g),some (.lst (zbj m)),some (.tup (zeu (zew st) m)),some (.lst (zbj (zck (zew st) m)))]:=by
   have:=E7.hideD ha7 rfl
   rw [zge hZr] at this
   exact this
  have eLs:but H7 (ls++ao::Z)=but H7 Z:=zge (zpd aoZ lsZ)
  have l7L:Live (ls++ao::Z) H7:=fun x hx=>(lv.same S7) x ((zpd aoZ lsZ x).mp hx)
  have E7L:=E7Z
  rw [<-eLs] at E7L
  refine s_off (K:=K) (to:=tFld K (zdk 0) "offers") (ty:=zdk 4) (te:=tTup (zbp (zdk 1) (zbp (zdk 5) zev))) (M:=Z) (o:=(n,zck (zew st) m)) (key:=zeu (zew st) m) l7L (fun Q q=>⟨.ref a,e0,a,C,dx,_,.ref ao,rfl,ha7,T.cl,T.nO,rfl,q⟩) (hO.same S7) (key_sc hsc _) hz (zaw E7L (i:=4) rfl) (zcq (zaa (zaw E7L (i:=1) rfl) (zaa (zaw E7L (i:=5) rfl) zaf))) fun ls' H8 n8 i8 k8 l8 O8=>?_
  have naao:a≠ao:=fun z=>by
   obtain ⟨kvs,h1,_⟩:=hO.kvs
   rw [<-z,ha] at h1;cases h1
  have nals:a∉ls:=fun z=>by
   obtain ⟨vs,h1⟩:=hO.lists a z
   rw [ha] at h1;cases h1
  have ha8:=k8 _ _ naao nals ha7
  have nals':a∉ls':=fun z=>by
   obtain ⟨vs,h1⟩:=O8.lists a z
   rw [ha8] at h1;cases h1
  obtain ⟨u1,hu1',ru1⟩:=E7.get 1 _ rfl
  have eu1:=ru1.of_int
  subst eu1
  refine ⟨.int ((n:Nat):Int),hu1',.ref a,e0,a,C,dx,_,rfl,ha8,T.cl,T.nN,(show 5<1000 by decide),?_⟩
  have hos':∀x∈a::ao::ls',x∈os\/H x=none:=fun x hx=>by
   rw [eos]
   rcases mem_cons.mp hx with z|z
   ·exact .inl (by rw [z];simp)
   ·rcases mem_cons.mp z with z|z
    ·exact .inl (by rw [z];simp)
    ·rcases n8 x z with w|w
     ·exact .inl (by simp [w])
     ·refine .inr ?_
      cases qq:H x with
      |none=>rfl
      |some u=>rw [S7 _ _ qq] at w;cases w
  have hsub:∀x∈os,x∈a::ao::ls':=fun x hx=>by
   rw [eos] at hx
   rcases mem_cons.mp hx with z|z
   ·rw [z];simp
   ·rcases mem_cons.mp z with z|z
    ·rw [z];simp
    ·exact mem_cons_of_mem _ (mem_cons_of_mem _ (i8 x z))
  have hfr:∀b u,b∉os->H b=some u->upd H8 a (.ins C dx (stFs v0 sa w2 ao ((n:Nat):Int))) b=some u:=fun b u hb qb=>by
   rw [eos] at hb
   simp only [mem_cons,not_or] at hb
   rw [zal hb.1]
   exact k8 b u hb.2.1 hb.2.2 (S7 _ _ qb)
  have SZ:Same (but H Z) (but (upd H8 a (.ins C dx (stFs v0 sa w2 ao ((n:Nat):Int)))) ((a::ao::ls')++Z)):=zpe hos' hos hfr
  have O9:OffB (upd H8 a (.ins C dx (stFs v0 sa w2 ao ((n:Nat):Int)))) ((a::ao::ls')++Z) ao ls' (st.of++[(zeu (zew st) m,(n,zck (zew st) m))]):=by
   have hc:∀x,x∈ls'++ao::Z↔x∈ls'++ao::((a::ao::ls')++Z):=fun x=>by
    simp only [mem_append,mem_cons]
    constructor
    ·rintro (z|z|z)
     ·exact .inl z
     ·exact .inr (.inl z)
     ·exact .inr (.inr (.inr z))
    ·rintro (z|z|(z|z|z)|z)
     ·exact .inl z
     ·exact .inr (.inl z)
     ·exact .inr (.inr (by rw [z];exact aZ))
     ·exact .inr (.inl z)
     ·exact .inl z
     ·exact .inr (.inr z)
   refine (O8.cong hc).frame (by simp) (fun x hx=>by simp [hx]) (by simp) (fun x hx=>by simp [hx]) (fun b u hb qb=>?_) ?_
   ·rw [zal]
    ·exact qb
    ·intro z
     rcases mem_cons.mp hb with w|w
     ·exact naao (by rw [<-z,w])
     ·exact nals' (by rw [<-z];exact w)
   ·rw [zcy (by simp)]
    exact Same.refl _
  refine q (a::ao::ls') _ hos' hsub hfr (fun x hx=>?_) ?_
  ·refine (l8.upd (a:=a)) x ?_
   rcases mem_append.mp hx with z|z
   ·rcases mem_cons.mp z with z|z
    ·rw [z];exact mem_append_right _ (mem_cons_of_mem _ aZ)
    ·rcases mem_cons.mp z with z|z
     ·rw [z];exact mem_append_right _ mem_cons_self
     ·exact mem_append_left _ z
   ·exact mem_append_right _ (mem_cons_of_mem _ z)
  ·have eS:zdc st n g={st with of:=st.of++[(zeu (zew st) m,(n,zck (zew st) m))],newest:=n}:=by unfold zdc;rw [hm]
   rw [eS]
   exact ⟨⟨dx,v0,sa,w2,ao,ls',oS,rfl,zae,r0.mono SZ,SZ _ _ hsa,rg.mono SZ,O9⟩⟩
 ·have hm:zb9 st.asker g []=none:=by
   cases hm:zb9 st.asker g [] with
   |none=>rfl
   |some m=>rw [hm] at e;exact absurd e (by simp [optD])
  have S5:=s4.trans s5
  have eS:zdc st n g=st:=by unfold zdc;rw [hm]
  have hc:∀x,x∈os++Z↔x∈Z:=fun x=>⟨fun h=>by
   rcases mem_append.mp h with z|z
   ·exact hos x z
   ·exact z,fun h=>mem_append_right _ h⟩
  refine q os H5 (fun x hx=>.inl hx) (fun x hx=>hx) (fun b u _ qb=>S5 _ _ qb) (fun x hx=>(lv.same S5) x ((hc x).mp hx)) ?_
  rw [eS]
  refine hst.frame hos (fun x hx=>mem_append_left _ hx) (fun b u _ qb=>S5 _ _ qb) ?_
  rw [zge hc]
  exact S5.but Z
end
end K05
namespace K05
open PySem L2 FL
section
variable {P:Program}{w:World}{K:PySem.W.Frag}{mg:Str->Option Value}{base:Heap}{f:Addr}{fd:FuncData}
theorem sc_Step_allows:zbd ["self","setting","guard","slots"] ["self","setting"] (zam zdm):=⟨rfl,rfl,rfl,by decide+kernel,rfl,by decide+kernel,by decide+kernel⟩
theorem zng {C:Addr}(F:Fun K "allows" "Step.allows" zdm f fd)(T:ztb K C)(B:Bl mg)(G_filled:Has P w K mg base 1 "filled" ["atom","setting"] (spR zuz))(G_holds:Has P w K mg base 1 "holds" ["guard"] (spR zwo)):FnOk P w K mg base CX0 2 f fd ["self","setting"] (zor C):=by
 refine F.ok sc_Step_allows (fun vs H Q E ⟨_,_,_,_,_,e,_⟩=>by rw [e];rfl) (fun cdv A outer s H vs Q E hr h=>?_)
 obtain ⟨M,st,S,v0,v1,rfl,lv,hst,r1,hS,hg,q⟩:=h
 obtain ⟨a,dx,w0,sa,w3,ao,oS,rfl,ga,g0,g1,g3,g2⟩:=hst
 refine ⟨_,(zad (zdr PassesOwn.never rfl (zcg (zeh (pv 0) rfl)) (znt rfl (zde (zau (i:=2) sc_Step_allows.nd rfl (by first|exact Or.inl rfl|exact Or.inr rfl)) (zde (zau (i:=3) sc_Step_allows.nd rfl (by first|exact Or.inl rfl|exact Or.inr rfl)) zhw))) (zag (zdl (zdp (zcl (zca G_holds hr (zab (zca G_filled hr (zab (pv 2) (zab (zdn ["setting","slot"] [1] 1 (zcg (pv 3)) (fun _ _ _ _ _=>(zau (i:=1) (show (["setting","slot"]:List Str).Nodup from by decide+kernel) rfl (by first|exact Or.inl rfl|exact Or.inr rfl))) (fun _ _ _ _ _=>zhv) (fun _ _ _ _ _=>(zhy (pv 0) (pv 1)))) zah))) zah)))) (zag (zaz zfv)) zbh)))
   (zag (zaz zfv))),?_⟩
 have E0:EnvR (but H M) (L2.start ["self","setting","guard","slots"] [.ref a,v1]) [none,some (.lst (zbj S)),none,none]:=zci (.raw (.dat r1 .nil)) _
 refine zfr (M:=M) (ds:=st.gs.map zkn) (zbn (zhp T.cl T.nG rfl ga rfl g3)) lv fun H1 s1=>?_
 refine ⟨fun j σ' H'=>Same H1 H'/\σ'[0]?=some (some (.ref a))/\EnvR (but H' M) σ' [none,some (.lst (zbj S)),none,none]/\zgq S (st.gs.take j)=true,⟨Same.refl _,rfl,E0.same s1,rfl⟩,fun j σ' H' ⟨x,_⟩=>⟨x.but M,(lv.same s1).same x⟩,?_,?_⟩
 ·rintro j d x σ' H' H'' hd ⟨S1,i0,E',hall⟩ s2 rx
  obtain ⟨g,hgj,rfl⟩:∃g,st.gs[j]?=some g/\d=zkn g:=by
   rw [getElem?_map] at hd
   cases e:st.gs[j]? with
   |none=>rw [e] at hd;cases hd
   |some y=>rw [e] at hd;exact ⟨y,rfl,(Option.some.inj hd).symm⟩
  obtain ⟨⟨r,a1,b1,eg,ha1,hb1,hr1⟩,hi,hz⟩:=hg g (mem_of_getElem? hgj)
  refine zod rx fun u1 u2 q1 q2=>?_
  have E3:EnvR (but H'' M) ((σ'.set 2 (some u1)).set 3 (some u2)) [none,some (.lst (zbj S)),some (.tup g.1),some (.lst (g.2.map fun n=>D.int (n:Nat)))]:=((E'.same s2).set 2 q1).set 3 q2
  have l3:Live M H'':=(lv.same (s1.trans S1)).same s2
  obtain ⟨vS,hvS,rS⟩:=E3.get 1 _ rfl
  have hp:=pick_sc hS hi
  have hsc:∀y∈g.1,y.sc=true:=fun y hy=>by
   rw [eg] at hy
   simp only [mem_cons,not_mem_nil,or_false] at hy
   rcases hy with rfl|rfl|rfl
   ·rfl
   ·exact ha1
   ·exact hb1
  have hr2:zdh (zmz S g.2) (.str r)=.str r:=by
   refine zia ?_
   cases e:zpp (zmz S g.2) (.str r) with
   |false=>rfl
   |true=>
    obtain ⟨p,hpm,e2⟩:=any_eq_true.mp e
    have e2:D.str p.1=.str r:=of_decide_eq_true e2
    have:=(hp p hpm).2
    rw [e2,hr1] at this;cases this
  have hfill:g.1.map (zdh (zmz S g.2))=[.str r,zdh (zmz S g.2) a1,zdh (zmz S g.2) b1]:=by
   rw [eg,map_cons,map_cons,map_cons,hr2];rfl
  have hpv:∀p∈zmz S g.2,p.2.sc=true:=fun p hpm=>(hp p hpm).1
  have hval:holdsA (g.1.map (zdh (zmz S g.2)))=holdsD r (zdh (zmz S g.2) a1) (zdh (zmz S g.2) b1):=by rw [hfill];rfl
  have key:=zba (R:=zwo) (E:=L2.E0) (d:=.bl (holdsA (g.1.map (zdh (zmz S g.2))))) (ds:=[.tup (g.1.map (zdh (zmz S g.2)))]) ⟨r,_,_,by rw [hfill],(zj9 ha1 hpv).2,(zj9 hb1 hpv).2,by rw [hval]⟩
   (zaa (zba (R:=zuz) (E:=L2.E0) (ds:=[.tup g.1,.lst (zbj (zmz S g.2))]) ⟨g.1,zmz S g.2,rfl,hsc,hpv,by rw [eg];exact (show 3<=1000 by decide),rfl⟩ (zaa (zaw E3 (i:=2) rfl) (zaa (EvM.eq (zer (caps:=zas [1] 1) (i:=1) (p:=fun _=>true) (f:=fun d=>match d with|.int n=>pairT (S.getD n.toNat (("":Str),.non))|_=>.non) (tt:=tYes) (te:=tOp (rIx K) (zdk 0) (zdk 1)) (zbn (K:=K) (zaw E3 (i:=3) rfl)) (fun G' v d _ _ _=>zic) (fun G' v d sG hd _ rv=>?_) (by rw [length_map];exact zar (by omega))) ?_) zaf))) zaf)
  ·refine zk9 l3 E3 (zbo (zby key)) (fun e H4 s4 l4 E4=>?_) (fun e H4 s4 l4 E4=>nx ?_)
   ·have hf:zgq S st.gs=false:=by
     unfold zgq
     rw [List.all_eq_false]
     exact ⟨g,mem_of_getElem? hgj,by simpa using e⟩
    rw [hf] at q
    exact q H4 (s1.trans (S1.trans (s2.trans s4)))
   ·refine ⟨S1.trans (s2.trans s4),?_,(E4.drop 2).drop 3,?_⟩
    ·rw [getElem?_set_ne (by decide),getElem?_set_ne (by decide)];exact i0
    ·unfold zgq at hall⊢
     rw [take_add_one,hgj,List.all_append,hall]
     simpa using e
  ·obtain ⟨n,hn,rfl⟩:=mem_map.mp hd
   have hnl:=hi n hn
   have h0:((zas [1] 1 ((σ'.set 2 (some u1)).set 3 (some u2))).set 1 (some v))[0]?=some (some vS):=by simp only [zas,map_cons,List.map_nil,hvS];rfl
   have h1:((zas [1] 1 ((σ'.set 2 (some u1)).set 3 (some u2))).set 1 (some v))[1]?=some (some v):=by simp [zas]
   refine zgi (ds:=zbj S) ?_ (zch h0 (rS.mono sG)) (zch h1 rv)
   refine ze9 (by omega) ?_
   show (zbj S)[n]?=some (pairT (S.getD n (("":Str),.non)))
   unfold zbj
   rw [getElem?_map,List.getD,getElem?_eq_getElem hnl]
   rfl
  ·rw [filter_eq_self.mpr fun _ _=>rfl]
   unfold zmz zbj
   rw [map_map,map_map]
   rfl
 ·rintro σ' H' ⟨S1,i0,E',hall⟩
  rw [length_map,take_of_length_le (Nat.le_refl _)] at hall
  rw [hall] at q
  exact q H' (s1.trans S1)
theorem sc_Step_carry_on:zbd ["self","way","lowest","setting","places","shared_things","found","place","pairs","further"] ["self","way","lowest"] (zam zcm):=⟨rfl,rfl,rfl,by decide+kernel,rfl,by decide+kernel,by decide+kernel⟩
theorem zky {C:Addr}(F:Fun K "carry_on" "Step.carry_on" zcm f fd)(T:ztb K C)(B:Bl mg)(M_allows:HasM P w K mg base 2 C "allows" ["self","setting"] (zor C)):FnOk P w K mg base CX0 3 f fd ["self","way","lowest"] (ztk C):=by
 refine F.ok sc_Step_carry_on (fun vs H Q E ⟨_,_,_,_,_,_,e,_⟩=>by rw [e];rfl) (fun cdv A outer s H vs Q E hr h=>?_)
 obtain ⟨M,st,w0,lo,v0,v1,rfl,lv,hst,r1,hS,hz1,hz2,ho,q⟩:=h
 obtain ⟨a,dx,w1,sa,w3,ao,oS,rfl,ga,g0,gs,g3,g2⟩:=id hst
 have hu1:=zmf hr
 have cl_Step:=T.cl
 refine ⟨_,(zad (zbe (i:=3) sc_Step_carry_on.nd rfl (Or.inr rfl) (zay (pv 1) zai))
   (zad (zbe (i:=4) sc_Step_carry_on.nd rfl (Or.inl rfl) (zay (pv 1) zai))
   (zad (zbe (i:=5) sc_Step_carry_on.nd rfl (Or.inl rfl) (zhx B (zdn ["setting","slot"] [3] 1 (pi_vals (pe_vals (zeh (pv 0) rfl))) (fun _ _ _ _ _=>(zau (i:=1) (show (["setting","slot"]:List Str).Nodup from by decide+kernel) rfl (by first|exact Or.inl rfl|exact Or.inr rfl))) (fun _ _ _ _ _=>zhv) (fun _ _ _ _ _=>(zhy (zhy (pv 0) (pv 1)) zai)))))
   (zad (zbe (i:=6) sc_Step_carry_on.nd rfl (Or.inl rfl) (zdg zah))
   (zad (zdr PassesOwn.never rfl (pi_rev B.reversed (zab (zlm hu1 (zeh (pv 0) rfl) (pv 5) (zdg zah) ⟨rfl,rfl,rfl,rfl⟩) zah)) (znt rfl (zde (zau (i:=7) sc_Step_carry_on.nd rfl (by first|exact Or.inl rfl|exact Or.inr rfl)) (zde (zau (i:=8) sc_Step_carry_on.nd rfl (by first|exact Or.inl rfl|exact Or.inr rfl)) zhw))) (zad (zdl (zbb zrk (pv 7) (pv 2) (zbl _)) (zag ps_break) zbh)
   (zad (zbe (i:=9) sc_Step_carry_on.nd rfl (Or.inl rfl) (zcd zrl (pv 3) (pv 8)))
   (zag (zdl (zcl (zke (pv 0) cl_Step M_allows hr (zab (pv 9) zah))) (zag (zdf (pv 6) (zec (zab (pv 9) (zab (zcd op_catA (pv 4) (zec (zab (pv 7) zah))) zah))))) zbh)))))
   (zag (zaz (pv 6)))))))),?_⟩
 have E0:EnvR (but H M) (L2.start ["self","way","lowest","setting","places","shared_things","found","place","pairs","further"] [.ref a,v1,.int lo]) [none,some (zfk w0),some (.int lo),none,none,none,none,none,none,none]:=zci (.raw (.dat r1 (.dat (.int lo) .nil))) _
 obtain ⟨S,pl⟩:=w0
 have hS:OkP S:=hS
 have hz1:S.length<=500:=hz1
 have hz2:pl.length<=500:=hz2
 have ho:OkSt S.length st:=ho
 refine zh9 (i:=3) lv E0 (zbw (ds:=[.lst (zbj S),.tup (pl.map fun n=>D.int (n:Nat))]) (d:=.lst (zbj S)) zct (zaw E0 rfl) zak) fun σ1 H1 o1 s1 l1 E1=>?_
 refine zh9 (i:=4) l1 E1 (zbw (ds:=[.lst (zbj S),.tup (pl.map fun n=>D.int (n:Nat))]) (d:=.tup (pl.map fun n=>D.int (n:Nat))) rfl (zaw E1 rfl) zak) fun σ2 H2 o2 s2 l2 E2=>?_
 have i20:σ2[0]?=some (some (.ref a)):=(o2 0 (by decide)).trans ((o1 0 (by decide)).trans rfl)
 have S02:Same (but H M) (but H2 M):=(s1.trans s2).but M
 obtain ⟨vS,hvS,rS⟩:=E2.get 3 _ rfl
 have hsv:(shK st.shared).map (·.2)=(st.shared.map fun p=>((p.2:Nat):Int)).map V.int:=by unfold shK;rw [map_map,map_map];rfl
 refine zh9 (i:=5) (d:=.tup (zlb S (zhu st))) l2 E2 (zid (zaa (EvM.eq (zer (caps:=zas [3] 1) (i:=1) (p:=fun _=>true) (f:=fun d=>match d with|.int n=>(S.getD n.toNat (("":Str),.non)).2|_=>.non) (tt:=tYes) (te:=tOp (rIx K) (tOp (rIx K) (zdk 0) (zdk 1)) (tC (.int 1))) (walk_vals (zml T.cl T.nS i20 (S02 _ _ ga) rfl) (S02 _ _ gs) hsv) (fun G' v d _ _ _=>zic) (fun G' v d sG hd _ rv=>?_) (by rw [length_map,length_map];have:=ho.shl;exact zar (by omega))) ?_) zaf)) fun σ3 H3 o3 s3 l3 E3=>?_
 ·obtain ⟨z,hzm,rfl⟩:=mem_map.mp hd
  obtain ⟨p,hpm,rfl⟩:=mem_map.mp hzm
  have hnl:=ho.sh p.2 (mem_map.mpr ⟨p,hpm,rfl⟩)
  generalize p.2=n at hnl rv
  have h0:((zas [3] 1 σ2).set 1 (some v))[0]?=some (some vS):=by simp only [zas,map_cons,List.map_nil,hvS];rfl
  have h1:((zas [3] 1 σ2).set 1 (some v))[1]?=some (some v):=by simp [zas]
  have hp:(zbj S)[n]?=some (.tup [.str S[n].1,S[n].2]):=by unfold zbj;rw [getElem?_map,getElem?_eq_getElem hnl];rfl
  have hg:S.getD n (("":Str),.non)=S[n]:=by rw [List.getD,getElem?_eq_getElem hnl];rfl
  refine EvM.eq (zbw (ds:=[.str S[n].1,S[n].2]) (d:=S[n].2) rfl (zgi (ds:=zbj S) (d:=.tup [.str S[n].1,S[n].2]) (ze9 (i:=(n:Int)) (by omega) (by rw [Int.toNat_natCast];exact hp)) (zch h0 (rS.mono sG)) (zch h1 rv)) zak) ?_
  show S[n].2=(S.getD (n:Int).toNat (("":Str),.non)).2
  rw [Int.toNat_natCast,hg]
 ·show D.lst _=D.lst (zlb S (zhu st))
  rw [filter_eq_self.mpr fun _ _=>rfl]
  unfold zlb zmz zhu
  rw [map_map,map_map,map_map,map_map]
  rfl
 have hks:=key_pick hS ho.sh
 refine zxa (i:=6) l3 E3 (by simp) zaf (Nat.zero_le _) fun b vs5 σ5 H5 o5 i5 n5 h5 r5 l5 k5 E5=>?_
 have S05:Same H H5:=(s1.trans (s2.trans s3)).trans fun b o e=>(k5 b o e).2
 have Hb0:H b=none:=none_of (s1.trans (s2.trans s3)) k5
 have SG:Same (but H M) (but H5 (b::M)):=zfu Hb0 S05
 have i50:σ5[0]?=some (some (.ref a)):=(o5 0 (by decide)).trans ((o3 0 (by decide)).trans i20)
 generalize hkey:zlb S (zhu st)=key at hks E5 q
 unfold zjw at q
 rw [show zlb ((S,pl):Way).1 (zhu st)=key from hkey] at q
 have hLl:((atK st.of key).reverse).length<=st.of.length:=by rw [List.length_reverse];exact length_filter_le _ _
 have hLo:∀o∈(atK st.of key).reverse,o∈st.of:=fun o hm=>(mem_filter.mp (mem_reverse.mp hm)).1
 have hLd:(zl9 st.of key).reverse=((atK st.of key).reverse).map fun o=>offD o.2:=by unfold zl9;rw [List.map_reverse]
 generalize (atK st.of key).reverse=L at q hLl hLo hLd
 refine zfr (M:=b::M) (ds:=L.map fun o=>offD o.2) (by
  have:=walk_rev (K:=K) (zaa (ev_offers T.cl T.nO i50 (SG _ _ ga) rfl (g2.mono SG) hks (zaw E5 (i:=5) rfl)) zaf)
  rw [hLd] at this
  exact this) l5 fun H6 s6=>?_
 refine ⟨fun j σ' H'=>∃ws,σ'[0]?=some (some (.ref a))/\σ'[6]?=some (some (.ref b))/\H' b=some (.lst ws)/\Reps (but H' (b::M)) ws (((L.take j).map (onW (S,pl))).filter (fun x=>zgq x.1 st.gs)|>.map zfk)/\Same H H'/\Live (b::M) H'/\Same (but H6 (b::M)) (but H' (b::M))/\EnvR (but H' (b::M)) σ' [none,some (zfk (S,pl)),some (.int lo),some (.lst (zbj S)),some (.tup (pl.map fun n=>D.int (n:Nat))),some (.tup key),none,none,none,none]/\∀o∈L.take j,fresh lo o=true,
  ⟨vs5,i50,i5,s6 _ _ h5,r5.mono (s6.but _),S05.trans s6,l5.same s6,Same.refl _,E5.same s6,fun o hm=>by simp at hm⟩,fun j σ' H' ⟨_,_,_,_,_,_,x,y,_,_⟩=>⟨y,x⟩,?_,?_⟩
 ·rintro j d x σ' H' H'' hd ⟨ws,j0,j5,hb,rb,S0,l',S',E',hfr⟩ s7 rx
  obtain ⟨o,hoj,rfl⟩:∃o,L[j]?=some o/\d=offD o.2:=by
   rw [getElem?_map] at hd
   cases e:L[j]? with
   |none=>rw [e] at hd;cases hd
   |some y=>rw [e] at hd;exact ⟨y,rfl,(Option.some.inj hd).symm⟩
  have hom:=mem_of_getElem? hoj
  have hof:=ho.of o (hLo o hom)
  have hjl:=(List.getElem?_eq_some_iff.mp hoj).1
  have hofl:=ho.ofl
  refine zod rx fun u1 u2 q1 q2=>?_
  have E7:EnvR (but H'' (b::M)) ((σ'.set 7 (some u1)).set 8 (some u2)) [none,some (zfk (S,pl)),some (.int lo),some (.lst (zbj S)),some (.tup (pl.map fun n=>D.int (n:Nat))),some (.tup key),none,some (.int (o.2.1:Nat)),some (.lst (zbj o.2.2)),none]:=((E'.same s7).set 7 q1).set 8 q2
  have l7:=l'.same s7
  have c0:((σ'.set 7 (some u1)).set 8 (some u2))[0]?=some (some (.ref a)):=by rw [getElem?_set_ne (by decide),getElem?_set_ne (by decide)];exact j0
  have c5:((σ'.set 7 (some u1)).set 8 (some u2))[6]?=some (some (.ref b)):=by rw [getElem?_set_ne (by decide),getElem?_set_ne (by decide)];exact j5
  have epd:zbj S++zbj o.2.2=zbj (S++o.2.2):=by unfold zbj;rw [map_append]
  have lpd:∀ps:zan,(zbj ps).length=ps.length:=fun ps=>by unfold zbj;rw [length_map]
  refine zk9 l7 E7 (zav (zsi (zaw E7 rfl) (zaw E7 rfl))) (fun e H7' s7' l7' E7'=>?_) (fun e H7' s7' l7' E7'=>?_)
  ·have hno:fresh lo o=false:=by
    have h1:=of_decide_eq_true e
    unfold FL.fresh
    exact decide_eq_false (by omega)
   refine ⟨.ref b,c5,q (.ref b) H7' (S0.trans (s7.trans s7')) (zep n5 (s7' _ _ (s7 _ _ hb)) ?_)⟩
   rw [tw_stop hfr hoj hno]
   exact rb.mono ((s7.trans s7').but _)
  refine nx ?_
  have hyes:fresh lo o=true:=by
   have h1:=of_decide_eq_false e
   unfold FL.fresh
   exact decide_eq_true (by omega)
  have hfr':∀x∈L.take (j+1),fresh lo x=true:=fun x hx=>by
   rw [take_add_one,hoj] at hx
   rcases mem_append.mp hx with z|z
   ·exact hfr x z
   ·have:x=o:=by simpa using z
    rw [this];exact hyes
  refine zh9 (i:=9) l7' E7' ((zmk (by rw [lpd,lpd];have:=hof.2.1;omega) (zaw E7' rfl) (zaw E7' rfl)).eq (by rw [epd])) fun σ8 H8 o8 s8 l8 E8=>?_
  have s78:Same H'' H8:=s7'.trans s8
  have d0:=(o8 0 (by decide)).trans c0
  have d5:=(o8 6 (by decide)).trans c5
  have hSo:OkP (S++o.2.2):=fun p hp=>by
   rcases mem_append.mp hp with z|z
   ·exact hS p z
   ·exact hof.1 p z
  have SG8:Same (but H M) (but H8 (b::M)):=zfu Hb0 (S0.trans (s7.trans s78))
  have tk:(L.take (j+1)).map (onW (S,pl))=(L.take j).map (onW (S,pl))++[(S++o.2.2,pl++[o.2.1])]:=by
   rw [take_add_one,hoj,map_append];rfl
  refine zk9 l8 E8 (zxx d0 (hst.mono SG8) hSo (fun g hg=>by rw [length_append];exact hof.2.2 g hg) (zaw E8 rfl)) (fun e H9 s9 l9 E9=>?_) (fun e H9 s9 l9 E9=>nx ?_)
  ·have hwl:∀(L:List Way),((L.filter fun x=>zgq x.1 st.gs).map zfk).length<=L.length:=fun L=>by rw [length_map];exact length_filter_le _ _
   have hwj:=hwl ((L.take j).map (onW (S,pl)))
   rw [length_map (as:=List.take j L),length_take] at hwj
   refine zxb l9 E9 (a:=b) (by simp) d5 (s9 _ _ (s78 _ _ (s7 _ _ hb))) (rb.mono ((s7.trans (s78.trans s9)).but _)) (zar (Nat.le_trans hwj (by omega))) (zcq (zaa (zaw E9 rfl) (zaa (ev_catT (by simp;omega) (zaw E9 rfl) (zcq (zaa (zaw E9 rfl) zaf))) zaf))) fun v10 H10 k10 l10 h10 r10 E10=>?_
   have S10:Same (but H9 (b::M)) (but H10 (b::M)):=zfg (by simp) k10
   refine ⟨_,d0,d5,h10,?_,zcs (S0.trans (s7.trans (s78.trans s9))) Hb0 k10,l10,S'.trans (((s7.trans (s78.trans s9)).but _).trans S10),((E10.drop 7).drop 8).drop 9,hfr'⟩
   rw [tk,filter_append,map_append]
   have e1:List.map zfk (List.filter (fun x=>zgq x.1 st.gs) [((S++o.2.2,pl++[o.2.1]):Way)])=[zfk (S++o.2.2,pl++[o.2.1])]:=by simp [e]
   rw [e1]
   have e2:zfk (S++o.2.2,pl++[o.2.1])=.tup [.lst (zbj (S++o.2.2)),.tup ((pl.map fun n=>D.int (n:Nat))++[.int (o.2.1:Nat)])]:=by unfold zfk;rw [map_append];rfl
   rw [e2]
   exact r10
  ·refine ⟨ws,d0,d5,s9 _ _ (s78 _ _ (s7 _ _ hb)),?_,S0.trans (s7.trans (s78.trans s9)),l9,S'.trans ((s7.trans (s78.trans s9)).but _),((E9.drop 7).drop 8).drop 9,hfr'⟩
   rw [tk,filter_append,map_append]
   have e1:List.map zfk (List.filter (fun x=>zgq x.1 st.gs) [((S++o.2.2,pl++[o.2.1]):Way)])=[]:=by simp [e]
   rw [e1,append_nil]
   exact rb.mono ((s7.trans (s78.trans s9)).but _)
 ·rintro σ' H' ⟨ws,j0,j5,hb,rb,S0,l',S',E',hfr⟩
  rw [length_map,take_of_length_le (Nat.le_refl _)] at rb hfr
  refine ⟨.ref b,j5,q (.ref b) H' S0 (zep n5 hb ?_)⟩
  rw [tw_all hfr]
  exact rb
end
end K05
namespace K05
open PySem L2 FL
section
variable {P:Program}{w:World}{K:PySem.W.Frag}{mg:Str->Option Value}{base:Heap}{f:Addr}{fd:FuncData}
theorem sc_steps_for:zbd ["body","waiting","slots","steps","asker","shared","blank","guards"] ["body"] (zam s_steps_for):=⟨rfl,rfl,rfl,by decide+kernel,rfl,by decide+kernel,by decide+kernel⟩
theorem zrm {C:Addr}(F:Fun K "steps_for" "steps_for" s_steps_for f fd)(B:Bl mg)(G_guards_in:Has P w K mg base 2 "guards_in" ["body"] (spR zqf))(G_askers_in:Has P w K mg base 2 "askers_in" ["body"] (spR RAskers))(G_blanks_in:Has P w K mg base 2 "blanks_in" ["atom"] (spR zii))(G_slots_of:Has P w K mg base 3 "slots_of" ["atom","slots"] (spA RSlots))(G_is_ready:Has P w K mg base 4 "is_ready" ["guard","slots"] (spA RReady))(C_Step:HasC P w K mg base 1 C "Step" ["self","asker","shared","guards"] (spInit C)):FnOk P w K mg base CX0 6 f fd ["body"] (spSteps C):=by
 refine F.ok sc_steps_for (fun vs H Q E ⟨_,_,_,e,_⟩=>by rw [e];rfl) (fun cdv A outer s H vs Q E hr h=>?_)
 obtain ⟨M,as,v0,rfl,lv,r1,hB,q⟩:=h
 have hu:=zoa hr
 have hu1:=zmf hr
 refine ⟨_,(zad (zij (i:=1) ["guard"] [] 1 sc_steps_for.nd rfl (Or.inl rfl) (zcg (zca G_guards_in hr (zab (pv 0) zah))) (fun _ _ _ _ _=>(zau (i:=0) (show (["guard"]:List Str).Nodup from by decide+kernel) rfl (by first|exact Or.inl rfl|exact Or.inr rfl))) (fun _ _ _ _ _=>(zez (zrc (zfn G_blanks_in hr (zab (pv 0) zah)) (fun _=>rfl)))) (fun _ _ _ _ _=>(pv 0)))
   (zad (zbe (i:=2) sc_steps_for.nd rfl (Or.inr rfl) zll)
   (zad (zbe (i:=3) sc_steps_for.nd rfl (Or.inl rfl) (zdg zah))
   (zad (zdr PassesOwn.never rfl (zcg (zca G_askers_in hr (zab (pv 0) zah))) (zau (i:=4) sc_steps_for.nd rfl (by first|exact Or.inl rfl|exact Or.inr rfl)) (zad (zbe (i:=5) sc_steps_for.nd rfl (Or.inl rfl) (pe_frz (zpb B (zdn ["slots","blank"] [2] 1 (zcg (zca G_blanks_in hr (zab (pv 4) zah))) (fun _ _ _ _ _=>(zau (i:=1) (show (["slots","blank"]:List Str).Nodup from by decide+kernel) rfl (by first|exact Or.inl rfl|exact Or.inr rfl))) (fun _ _ _ _ _=>(zez (zrd (pc_din (by exact hu1) (pv 1) (pv 0))))) (fun _ _ _ _ _=>(zec (zab (pv 1) (zab (pe_dget (by exact hu1) (pv 0) (pv 1) (fun _ _=>rfl)) zah))))))))
   (zad (zdr PassesOwn.never rfl (zcg (zca G_blanks_in hr (zab (pv 4) zah))) (zau (i:=6) sc_steps_for.nd rfl (by first|exact Or.inl rfl|exact Or.inr rfl)) (zag (ziy (pe_dset hu1 (pv 2) (pv 6) (pe_lenD B (pv 2)) ⟨rfl,rfl,rfl,rfl⟩))))
   (zad (zij (i:=7) ["slots","guard"] [2] 1 sc_steps_for.nd rfl (Or.inl rfl) (zcg (pv 1)) (fun _ _ _ _ _=>(zau (i:=1) (show (["slots","guard"]:List Str).Nodup from by decide+kernel) rfl (by first|exact Or.inl rfl|exact Or.inr rfl))) (fun _ _ _ _ _=>(zez (zcl (zfn G_is_ready hr (zab (pv 1) (zab (pv 0) zah)))))) (fun _ _ _ _ _=>(zec (zab (pv 1) (zab (zfn G_slots_of hr (zab (pv 1) (zab (pv 0) zah))) zah)))))
   (zad (zij (i:=1) ["slots","guard"] [2] 1 sc_steps_for.nd rfl (Or.inl rfl) (zcg (pv 1)) (fun _ _ _ _ _=>(zau (i:=1) (show (["slots","guard"]:List Str).Nodup from by decide+kernel) rfl (by first|exact Or.inl rfl|exact Or.inr rfl))) (fun _ _ _ _ _=>(zez (zdp (zcl (zfn G_is_ready hr (zab (pv 1) (zab (pv 0) zah))))))) (fun _ _ _ _ _=>(pv 1)))
   (zag (zdf (pv 3) (pe_new C_Step hr (zab (pv 4) (zab (pv 5) (zab (pv 7) zah)))))))))))
   (zag (zaz (pv 3))))))),?_⟩
 have E0:EnvR (but H M) (L2.start ["body","waiting","slots","steps","asker","shared","blank","guards"] [v0]) [some (zgu as),none,none,none,none,none,none,none]:=zci (.dat r1 .nil) _
 have hgs:(as.filter zap).length<=100:=Nat.le_trans (length_filter_le _ _) hB.2
 refine zh9 (i:=1) (d:=zbg ((as.filter zap).filter zjz)) lv E0 (EvM.eq (zer (caps:=zas [] 1) (i:=0) (p:=tupP zjz) (f:=fun d=>d) (zbn (ds:=(as.filter zap).map D.tup) (zba ⟨as,rfl,hB.1,hB.2,rfl⟩ (zaa (zaw E0 rfl) zaf))) (fun G' v d sG hd r=>?_) (fun G' v d sG hd _ r=>zch (by simp [zas]) r) (by rw [length_map];exact zar (by omega))) ?_) fun σ1 H1 o1 s1 l1 E1=>?_
 ·obtain ⟨g,hg,rfl⟩:=mem_map.mp hd
  exact zwb (zba (d:=zcp (za9 [] g)) ⟨g,rfl,hB.1 g (mem_filter.mp hg).1,rfl⟩ (zaa (zch (by simp [zas]) r) zaf))
 ·exact congrArg D.lst (zgo _ zjz _ D.tup _ (fun _ _=>rfl) (fun _ _=>rfl))
 refine s_newD (i:=2) l1 E1 (by simp) fun p σ2 H2 o2 i2 n2 h2 l2 k2 E2=>?_
 refine zxa (i:=3) l2 E2 (by simp) zaf (Nat.zero_le _) fun b vs3 σ3 H3 o3 i3 n3 h3 r3 l3 k3 E3=>?_
 have i33:σ3[2]?=some (some (.ref p)):=(o3 2 (by decide)).trans i2
 obtain ⟨nepb,h3p⟩:=k3 _ _ h2
 have hvs3:vs3=[]:=by cases r3;rfl
 subst hvs3
 have s12:Same H1 H2:=fun x o e=>(k2 x o e).2
 have s23:Same H2 H3:=fun x o e=>(k3 x o e).2
 have S03:Same H H3:=s1.trans (s12.trans s23)
 have Hp0:H p=none:=none_of s1 k2
 have Hb0:H b=none:=none_of (s1.trans s12) k3
 have nbM:b∉M:=fun z=>n3 (mem_cons_of_mem _ z)
 have hal:(as.filter fun a=> !zap a).length<=100:=Nat.le_trans (length_filter_le _ _) hB.2
 have hao:∀a∈(as.filter fun a=> !zap a),OkA a:=fun a ha=>hB.1 a (mem_filter.mp ha).1
 refine zfr (M:=b::p::M) (ds:=(as.filter fun a=> !zap a).map D.tup) (zbn (zba ⟨as,rfl,hB.1,hB.2,rfl⟩ (zaa (zaw E3 rfl) zaf))) l3 fun H4 s4=>?_
 unfold stepsD at q
 generalize hasq:(as.filter fun a=> !zap a)=asks at q hal hao
 have hW0:∀g∈(as.filter zap).filter zjz,OkA g:=fun g hg=>hB.1 g (mem_filter.mp (mem_filter.mp hg).1).1
 have hWl:((as.filter zap).filter zjz).length<=100:=Nat.le_trans (length_filter_le _ _) hgs
 generalize (as.filter zap).filter zjz=W0 at q hW0 hWl E3
 refine ⟨fun j σ' H'=>∃Bj Wj done us oss,stepsGo asks [] W0=done++stepsGo (asks.drop j) Bj Wj/\Bj.length<=100*j/\done.length<=j/\(∀g∈Wj,OkA g)/\Wj.length<=100/\σ'[2]?=some (some (.ref p))/\σ'[3]?=some (some (.ref b))/\H' p=some (.dK (zfz Bj))/\H' b=some (.lst us)/\NewReps C (but H' (b::p::M)) us oss done/\(∀os∈oss,∀x∈os,H x=none)/\Same H H'/\Live (b::p::M) H'/\Same (but H4 (b::p::M)) (but H' (b::p::M))/\EnvR (but H' (b::p::M)) σ' [some (zgu as),some (zbg Wj),none,none,none,none,none,none],
  ⟨[],W0,[],[],[],rfl,Nat.le_refl _,Nat.le_refl _,hW0,hWl,i33,i3,s4 _ _ h3p,s4 _ _ h3,.nil,(fun os ho=>nomatch ho),S03.trans s4,l3.same s4,Same.refl _,E3.same s4⟩,fun j σ' H' ⟨_,_,_,_,_,_,_,_,_,_,_,_,_,_,_,_,_,x,y,_⟩=>⟨y,x⟩,?_,?_⟩
 ·rintro j d x σ' H' H'' hd ⟨Bj,Wj,done,us,oss,hrun,hBl,hdl,hWo,hWjl,j3,j4,hp,hb,hst,hnew,S0,l',S',E'⟩ s5 rx
  obtain ⟨a,haj,rfl⟩:∃a,asks[j]?=some a/\d=.tup a:=by
   rw [getElem?_map] at hd
   cases e:asks[j]? with
   |none=>rw [e] at hd;cases hd
   |some y=>rw [e] at hd;exact ⟨y,rfl,(Option.some.inj hd).symm⟩
  have hoa:=hao a (mem_of_getElem? haj)
  obtain ⟨hjl,eja⟩:=List.getElem?_eq_some_iff.mp haj
  rw [List.drop_eq_getElem_cons hjl,eja] at hrun
  have E5:EnvR (but H'' (b::p::M)) (σ'.set 4 (some x)) [some (zgu as),some (zbg Wj),none,none,some (.tup a),none,none,none]:=(E'.same s5).set 4 rx
  have b3:(σ'.set 4 (some x))[2]?=some (some (.ref p)):=(getElem?_set_ne (by decide)).trans j3
  have b4:(σ'.set 4 (some x))[3]?=some (some (.ref b)):=(getElem?_set_ne (by decide)).trans j4
  have hp5:=s5 _ _ hp
  have l5:=l'.same s5
  have lV:∀{X:Hp},Live (b::p::M) X->Live (b::M) X:=fun l z hz=>l z (by
   rcases mem_cons.mp hz with w|w
   ·rw [w];exact mem_cons_self
   ·exact mem_cons_of_mem _ (mem_cons_of_mem _ w))
  have pV:p∉b::M:=fun z=>by
   rcases mem_cons.mp z with z|z
   ·exact nepb z
   ·exact n2 z
  have hnd:(za9 [] a).Nodup:=ziw nodup_nil
  have hbl:=zd9 a []
  rw [length_nil] at hbl
  have hoal:=hoa.len
  have hgp:but H'' (b::M) p=some (.dK (zfz Bj)):=by rw [zat pV];exact hp5
  refine s_frz (i:=5) (M:=b::M) (ps:=((za9 [] a).filter fun b=>decide (b∈Bj)).map fun b=>(b,D.int (Bj.idxOf b:Nat))) (lV l5) (E5.mono sameV) (by simp) (EvM.eq (zer (caps:=zas [2] 1) (i:=1) (p:=fun d=>decide (d.name∈Bj)) (f:=fun d=>.tup [d,.int (Bj.idxOf d.name:Nat)]) (zbn (ds:=(za9 [] a).map D.str) (zba ⟨a,rfl,hoa,rfl⟩ (zaa (zaw (E5.mono sameV) rfl) zaf))) (fun G' v d sG hd r=>?_) (fun G' v d sG hd hpd r=>?_) (by rw [length_map];exact zar (by omega))) ?_) (fun z hz=>?_) ?_ fun sa oS σ7 H7 o7 i7 n7 m7 h7 s7 l7' E7=>?_
  ·obtain ⟨n,hn,rfl⟩:=mem_map.mp hd
   exact evt_inS (n:=n) (a:=p) (by simp [zas,b3]) (sG _ _ hgp) (zch (by simp [zas]) r)
  ·obtain ⟨n,hn,rfl⟩:=mem_map.mp hd
   exact zcq (zaa (zch (by simp [zas]) r) (zaa (ev_atS (n:=n) (a:=p) (by simp [zas,b3]) (sG _ _ hgp) (of_decide_eq_true hpd) (zch (by simp [zas]) r)) zaf))
  ·unfold zbj
   rw [List.filter_map,map_map,map_map]
   rfl
  ·obtain ⟨n,hn,rfl⟩:=mem_map.mp hz
   rfl
  ·rw [map_map]
   show (List.map (fun b=>b) _).Nodup
   rw [List.map_id']
   exact List.Pairwise.filter _ hnd
  have eSh:zbx (((za9 [] a).filter fun b=>decide (b∈Bj)).map fun b=>(b,D.int (Bj.idxOf b:Nat)))=shK (shOf a Bj):=by
   unfold zbx shK shOf
   rw [map_map,map_map]
   rfl
  rw [eSh] at h7
  have d3:σ7[2]?=some (some (.ref p)):=(o7 2 (by decide)).trans b3
  have d4:σ7[3]?=some (some (.ref b)):=(o7 3 (by decide)).trans b4
  have hp7:=s7 _ _ hp5
  have l7:Live (b::p::M) H7:=l5.same s7
  have E7h:EnvR (but H7 (b::p::M)) σ7 [some (zgu as),some (zbg Wj),none,none,some (.tup a),none,none,none]:=toH E7 hp7
  have nsap:sa≠p:=fun z=>by rw [z,hp7] at h7;cases h7
  have nsab:sa≠b:=fun z=>m7 (by rw [z];exact mem_cons_self)
  have nsaM:sa∉M:=fun z=>m7 (mem_cons_of_mem _ z)
  refine zfr (M:=b::p::M) (ds:=(za9 [] a).map D.str) (zbn (zba ⟨a,rfl,hoa,rfl⟩ (zaa (zaw E7h rfl) zaf))) l7 fun H8 s8=>?_
  refine ⟨fun k σ' H'=>σ'[2]?=some (some (.ref p))/\σ'[3]?=some (some (.ref b))/\σ'[5]?=some (some (.ref sa))/\H' p=some (.dK (zfz (Bj++((za9 [] a).take k).filter fun x=> !decide (x∈Bj))))/\(∀z o,z≠p->H8 z=some o->H' z=some o)/\Live (b::p::M) H'/\Same (but H8 (b::p::M)) (but H' (b::p::M))/\EnvR (but H' (b::p::M)) σ' [some (zgu as),some (zbg Wj),none,none,some (.tup a),none,none,none],
   ⟨d3,d4,i7,by rw [List.take_zero,List.filter_nil,append_nil];exact s8 _ _ hp7,fun z o _ e=>e,l7.same s8,Same.refl _,E7h.same s8⟩,fun k σ' H' ⟨_,_,_,_,_,x,y,_⟩=>⟨y,x⟩,?_,?_⟩
  ·rintro k d y τ X X' hd ⟨t3,t4,t7,tp,tk,tl,tS,tE⟩ s9 ry
   obtain ⟨n,hnk,rfl⟩:∃n,(za9 [] a)[k]?=some n/\d=.str n:=by
    rw [getElem?_map] at hd
    cases e:(za9 [] a)[k]? with
    |none=>rw [e] at hd;cases hd
    |some y=>rw [e] at hd;exact ⟨y,rfl,(Option.some.inj hd).symm⟩
   have E9:EnvR (but X' (b::p::M)) (τ.set 6 (some y)) [some (zgu as),some (zbg Wj),none,none,some (.tup a),none,some (.str n),none]:=(tE.same s9).set 6 ry
   have w3:(τ.set 6 (some y))[2]?=some (some (.ref p)):=(getElem?_set_ne (by decide)).trans t3
   refine s_slot (n:=n) (tl.same s9) E9 (by simp) w3 (s9 _ _ tp) ?_ (zaw E9 rfl) fun Y kY lY hY EY=>?_
   ·have h1:(Bj++((za9 [] a).take k).filter fun x=> !decide (x∈Bj)).length<=100*j+100:=by
     rw [length_append]
     have:=length_filter_le (fun x=> !decide (x∈Bj)) ((za9 [] a).take k)
     rw [length_take] at this
     omega
    exact Nat.lt_of_le_of_lt (Nat.le_trans h1 (show 100*j+100<=20000 by omega)) (show 20000<sizeLine by decide)
   ·have SY:Same (but X' (b::p::M)) (but Y (b::p::M)):=zfg (by simp) kY
    refine ⟨w3,(getElem?_set_ne (by decide)).trans t4,(getElem?_set_ne (by decide)).trans t7,?_,fun z o hz e=>kY z o hz (s9 _ _ (tk z o hz e)),lY,tS.trans ((s9.but _).trans SY),EY.drop 6⟩
    rw [<-zxh hnd hnk]
    exact hY
  ·rintro τ X ⟨t3,t4,t7,tp,tk,tl,tS,tE⟩
   rw [length_map,take_of_length_le (Nat.le_refl _),<-zcz] at tp
   have hpX:but X (b::M) p=some (.dK (zfz (za9 Bj a))):=by rw [zat pV];exact tp
   have hBl':(za9 Bj a).length<=100*(j+1):=by have:=zd9 a Bj;omega
   have EV:=tE.mono (sameV (p:=p))
   refine zh9 (i:=7) (M:=b::M) (d:=.lst (((Wj.filter fun g=>zbv g (za9 Bj a)).map fun g=>(g,zbt g (za9 Bj a))).map zkn)) (lV tl) EV (EvM.eq (zer (caps:=zas [2] 1) (i:=1) (p:=tupP fun g=>zbv g (za9 Bj a)) (f:=tupF fun g=>zkn (g,zbt g (za9 Bj a))) (zbn (ds:=Wj.map D.tup) (zaw EV rfl)) (fun G' v d sG hd r=>?_) (fun G' v d sG hd _ r=>?_) (by rw [length_map];exact zar (by omega))) ?_) fun σ9 H9 o9 s9 l9 E9=>?_
   ·obtain ⟨g,hg,rfl⟩:=mem_map.mp hd
    exact zby (zjt (d:=.bl (zbv g (za9 Bj a))) ⟨g,_,rfl,hWo g hg,rfl⟩ (eb_d (zch (by simp [zas]) r) (eb_k (a:=p) (by simp [zas,t3]) (sG _ _ hpX) zsl)))
   ·obtain ⟨g,hg,rfl⟩:=mem_map.mp hd
    exact zcq (zaa (zch (by simp [zas]) r) (zaa (zjt ⟨g,_,rfl,hWo g hg,rfl⟩ (eb_d (zch (by simp [zas]) r) (eb_k (a:=p) (by simp [zas,t3]) (sG _ _ hpX) zsl))) zaf))
   ·rw [zgo _ (fun g=>zbv g (za9 Bj a)) _ (fun g=>zkn (g,zbt g (za9 Bj a))) _ (fun _ _=>rfl) (fun _ _=>rfl),map_map]
    rfl
   have hpX9:=(s9.but (b::M)) _ _ hpX
   have w3:=(o9 2 (by decide)).trans t3
   refine zh9 (i:=1) (M:=b::M) (d:=zbg (Wj.filter fun g=> !zbv g (za9 Bj a))) l9 E9 (EvM.eq (zer (caps:=zas [2] 1) (i:=1) (p:=tupP fun g=> !zbv g (za9 Bj a)) (f:=fun d=>d) (zbn (ds:=Wj.map D.tup) (zaw E9 rfl)) (fun G' v d sG hd r=>?_) (fun G' v d sG hd _ r=>zch (by simp [zas]) r) (by rw [length_map];exact zar (by omega))) ?_) fun σa Ha oa sa' la Ea=>?_
   ·obtain ⟨g,hg,rfl⟩:=mem_map.mp hd
    exact zbo (zby (zjt (d:=.bl (zbv g (za9 Bj a))) ⟨g,_,rfl,hWo g hg,rfl⟩ (eb_d (zch (by simp [zas]) r) (eb_k (a:=p) (by simp [zas,w3]) (sG _ _ hpX9) zsl))))
   ·exact congrArg D.lst (zgo _ (fun g=> !zbv g (za9 Bj a)) _ D.tup _ (fun _ _=>rfl) (fun _ _=>rfl))
   have z3:=(oa 2 (by decide)).trans w3
   have z4:σa[3]?=some (some (.ref b)):=(oa 3 (by decide)).trans ((o9 3 (by decide)).trans t4)
   have z5:σa[5]?=some (some (.ref sa)):=(oa 5 (by decide)).trans ((o9 5 (by decide)).trans t7)
   have S9a:=s9.trans sa'
   have hpa:=S9a _ _ tp
   have Eah:=toH Ea hpa
   have S8a:Same (but H8 (b::p::M)) (but Ha (b::p::M)):=tS.trans (S9a.but _)
   have S5a:Same (but H'' (b::p::M)) (but Ha (b::p::M)):=(((s7.trans s8).but _)).trans S8a
   have hba:Ha b=some (.lst us):=S9a _ _ (tk b _ (Ne.symm nepb) (s8 _ _ (s7 _ _ (s5 _ _ hb))))
   have hsaa:Ha sa=some (.frz oS (.dK (shK (shOf a Bj)))):=S9a _ _ (tk sa _ nsap (s8 _ _ h7))
   obtain ⟨u4,hu4,q4⟩:=Eah.get 4 _ rfl
   obtain ⟨u7,hu7,q7⟩:=Eah.get 7 _ rfl
   have lah:Live (b::p::M) Ha:=tl.same S9a
   have S0a:∀z o,H z=some o->Ha z=some o:=fun z o e=>by
    have nzp:z≠p:=zax e Hp0
    exact S9a _ _ (tk z o nzp (s8 _ _ (s7 _ _ (s5 _ _ (S0 _ _ e)))))
   have fresh0:∀{z:Addr},Ha z=none->H z=none:=fun {z} e=>by
    cases qz:H z with
    |none=>rfl
    |some u=>rw [S0a _ _ qz] at e;cases e
   refine ⟨.ref b,z4,(show tyV K "list" (.ref b) _ from .inl ⟨rfl,us,SqL.of hba⟩),u4,hu4,.ref sa,z5,u7,hu7,fun x dx hx hdx hne=>⟨x,dx,u4,.ref sa,u7,rfl,zae,fun po hpo npo=>⟨rfl,?_⟩⟩⟩
   have hpoa:Ha po=none:=by
    rw [zal npo] at hpo
    by_cases e:po=dx
    ·rw [e];exact hdx
    ·rw [zal e] at hpo;exact hpo
   have npdx:po≠dx:=fun e=>by rw [zal npo,e,zae] at hpo;cases hpo
   have SX:Same Ha (upd (upd (upd (upd Ha dx (.own x)) x (.ins C dx [])) po (.dT [])) x (.ins C dx (stFs u4 sa u7 po (-1)))):=fun z o e=>by
    rw [zal (zax e hx),zal (zax e hpoa),zal (zax e hx),zal (zax e hdx)];exact e
   refine ⟨b,us,.ref x,rfl,rfl,SX _ _ hba,by rw [hst.l1];exact zar (by omega),?_⟩
   generalize hHX:upd (upd (upd (upd Ha dx (.own x)) x (.ins C dx [])) po (.dT [])) x (.ins C dx (stFs u4 sa u7 po (-1)))=HX at SX
   have hxX:HX x=some (.ins C dx (stFs u4 sa u7 po (-1))):=by rw [<-hHX];exact zae
   have hpX':HX po=some (.dT []):=by rw [<-hHX,zal npo];exact zae
   have eb:but (upd HX b (.lst (us++[.ref x]))) (b::p::M)=but HX (b::p::M):=zcy mem_cons_self
   have SaX:Same (but Ha (b::p::M)) (but (upd HX b (.lst (us++[.ref x]))) (b::p::M)):=by rw [eb];exact SX.but _
   have hxM:x∉b::p::M:=lah.fresh hx
   have hpM':po∉b::p::M:=lah.fresh hpoa
   have hsM:sa∉b::p::M:=by
    simp only [mem_cons,not_or]
    exact ⟨nsab,nsap,nsaM⟩
   refine ⟨za9 Bj a,Wj.filter fun g=> !zbv g (za9 Bj a),done++[znn a Bj Wj],us++[.ref x],oss++[[x,po]],?_,hBl',by rw [length_append,length_singleton];omega,fun g hg=>hWo g (mem_filter.mp hg).1,Nat.le_trans (length_filter_le _ _) hWjl,z3,z4,?_,zae,?_,?_,?_,(lah.same SX).upd,S'.trans ((s5.but _).trans (S5a.trans SaX)),?_⟩
   ·rw [hrun]
    show done++(_::_)=_
    rw [append_assoc]
    rfl
   ·rw [zal nepb];exact SX _ _ hpa
   ·have hold:=(hst.mono ((s5.but _).trans (S5a.trans SaX)))
    refine hold.snoc ⟨x,dx,u4,sa,u7,po,oS,rfl,rfl,?_,q4.mono SaX,?_,q7.mono SaX,?_,rfl⟩ (fun o ho z hz hzx=>?_)
    ·rw [eb,zat hxM];exact hxX
    ·refine SaX _ _ ?_
     rw [zat hsM];exact hsaa
    ·rw [eb,zat hpM'];exact hpX'
    ·obtain ⟨i,hi⟩:=mem_iff_getElem?.mp ho
     obtain ⟨u,hu,_⟩:=hst.seen hi z hz
     obtain ⟨_,hu2⟩:=zac ((s5.but _|>.trans S5a) _ _ hu)
     rcases mem_cons.mp hzx with e|e
     ·rw [e,hx] at hu2;cases hu2
     ·have e:z=po:=by simpa using e
      rw [e,hpoa] at hu2;cases hu2
   ·intro os ho z hz
    rcases mem_append.mp ho with e|e
    ·exact hnew os e z hz
    ·have e:os=[x,po]:=by simpa using e
     rw [e] at hz
     rcases mem_cons.mp hz with e|e
     ·rw [e];exact fresh0 hx
     ·have e:z=po:=by simpa using e
      rw [e];exact fresh0 hpoa
   ·refine zcs (a:=b) (fun z o e=>?_) Hb0 (fun z o hz e=>by rw [zal hz];exact e)
    exact SX _ _ (S0a z o e)
   ·exact (((Eah.mono SaX).drop 4).drop 7)
 ·rintro σ' H' ⟨Bj,Wj,done,us,oss,hrun,hBl,hdl,hWo,hWjl,j3,j4,hp,hb,hst,hnew,S0,l',S',E'⟩
  rw [length_map,List.drop_eq_nil_of_le (Nat.le_refl _)] at hrun
  have hrun:stepsGo asks [] W0=done++[]:=hrun
  rw [append_nil] at hrun
  rw [hrun] at q
  refine ⟨.ref b,j4,q b us oss H' S0 (by rw [zat nbM];exact hb) (hst.mono (zcj fun z hz=>mem_cons_of_mem _ (mem_cons_of_mem _ hz))) hnew Hb0⟩
end
end K05
namespace K05
open PySem L2 FL
section
variable {P:Program}{w:World}{K:PySem.W.Frag}{mg:Str->Option Value}{base:Heap}{f:Addr}{fd:FuncData}
theorem zra:zbd ["self","body"] ["self","body"] (zam zef):=⟨rfl,rfl,rfl,by decide+kernel,rfl,by decide+kernel,by decide+kernel⟩
theorem zru {C CL:Addr}(F:Fun K "__init__" "Loom.__init__" zef f fd)(TL:zvb K CL)(B:Bl mg)(G_guards_in:Has P w K mg base 2 "guards_in" ["body"] (spR zqf))(G_blanks_in:Has P w K mg base 2 "blanks_in" ["atom"] (spR zii))(G_holds:Has P w K mg base 1 "holds" ["guard"] (spR zwo))(G_steps_for:Has P w K mg base 6 "steps_for" ["body"] (spSteps C)):FnOk P w K mg base CX0 7 f fd ["self","body"] (spLInit C CL):=by
 refine F.ok zra (fun vs H Q E ⟨_,_,_,_,_,e,_⟩=>by rw [e];rfl) (fun cdv A outer s H vs Q E hr h=>?_)
 obtain ⟨M,as,x,dx,v1,rfl,hx,lv,r1,hB,hG,q⟩:=h
 refine ⟨_,(zad (zgj (pv 0) (zca G_steps_for hr (zab (pv 1) zah)) rfl)
   (zad (zgj (pv 0) (pe_not (zpc B (zdn ["guard"] [] 1 (zcg (zca G_guards_in hr (zab (pv 1) zah))) (fun _ _ _ _ _=>(zau (i:=0) (show (["guard"]:List Str).Nodup from by decide+kernel) rfl (by first|exact Or.inl rfl|exact Or.inr rfl))) (fun _ _ _ _ _=>(zez (zdp (zrc (zfn G_blanks_in hr (zab (pv 0) zah)) (fun _=>rfl))))) (fun _ _ _ _ _=>(zfn G_holds hr (zab (pv 0) zah)))))) rfl)
   (zad (zgj (pv 0) zai rfl)
   (zad (zgj (pv 0) zai rfl)
   (zag (zgj (pv 0) (zpa zja zai) rfl)))))),?_⟩
 have lx:Live (x::M) H:=lv.cons hx
 have r1x:Rep (but H (x::M)) v1 (zgu as):=Rep.hideD hx rfl r1
 have E0:EnvR (but H (x::M)) (L2.start ["self","body"] [.ref x,v1]) [none,some (zgu as)]:=zci (.raw (.dat r1x .nil)) _
 have hgs:(as.filter zap).length<=100:=Nat.le_trans (length_filter_le _ _) hB.2
 have hgd:∀g∈as.filter zap,OkA g/\∃r a b,g=[.str r,a,b]:=fun g hg=>⟨hB.1 g (mem_filter.mp hg).1,hG g (mem_filter.mp hg).1 (mem_filter.mp hg).2⟩
 refine ⟨v1,rfl,x::M,as,v1,rfl,lx,r1x,hB,fun p us oss H1 s1 hp hnew hfr hpn=>?_⟩
 have hx1:=s1 _ _ hx
 refine ⟨.ref x,rfl,x,CL,dx,[],rfl,hx1,TL.cl,TL.nS,by decide,?_⟩
 generalize hH2:upd H1 x (.ins CL dx (zqj "steps" (.ref p) []))=H2
 have hx2:H2 x=some (.ins CL dx [("steps",.ref p)]):=by rw [<-hH2];exact zae
 have eb2:but H2 (x::M)=but H1 (x::M):=by rw [<-hH2];exact zcy mem_cons_self
 have l2:Live (x::M) H2:=by rw [<-hH2];exact (lx.same s1).upd
 have E2:EnvR (but H2 (x::M)) (L2.start ["self","body"] [.ref x,v1]) [none,some (zgu as)]:=by rw [eb2];exact E0.same s1
 have K2:∀b u,b≠x->H b=some u->H2 b=some u:=fun b u hb e=>by rw [<-hH2,zal hb];exact s1 _ _ e
 refine seqE (fldE (ev_not (zwe (bs:=((as.filter zap).filter fun g=> !zjz g).map holdsA) (zaa (EvM.eq (zer (caps:=zas [] 1) (i:=0) (p:=tupP fun g=> !zjz g) (f:=tupF fun g=>.bl (holdsA g)) (zbn (ds:=(as.filter zap).map D.tup) (zba (R:=zqf) (E:=L2.E0) ⟨as,rfl,hB.1,hB.2,rfl⟩ (zaa (zaw E2 (i:=1) rfl) zaf))) (fun G' v d sG hd r=>?_) (fun G' v d sG hd _ r=>?_) (by rw [length_map];exact zar (by omega))) ?_) zaf))) l2 fun v3 H3 s3 r3=>?_)
 ·obtain ⟨g,hg,rfl⟩:=mem_map.mp hd
  exact zbo (zwb (zba (d:=zcp (za9 [] g)) ⟨g,rfl,(hgd g hg).1,rfl⟩ (zaa (zch (by simp [zas]) r) zaf)))
 ·obtain ⟨g,hg,rfl⟩:=mem_map.mp hd
  obtain ⟨hga,r0,a0,b0,rfl⟩:=hgd g hg
  exact zba ⟨r0,a0,b0,rfl,(hga.sc a0 (by simp)).1,(hga.sc b0 (by simp)).1,rfl⟩ (zaa (zch (by simp [zas]) r) zaf)
 ·rw [zgo _ (fun g=> !zjz g) _ (fun g=>.bl (holdsA g)) _ (fun _ _=>rfl) (fun _ _=>rfl),map_map]
  rfl
 have e3:v3=.bl (zih as):=by
  have:=r3.of_bl
  rw [this,List.all_map]
  rfl
 subst e3
 refine ⟨.ref x,rfl,x,CL,dx,_,rfl,s3 _ _ hx2,TL.cl,TL.nB,(show 1<1000 by decide),?_⟩
 refine ⟨.ref x,rfl,x,CL,dx,_,rfl,zae,TL.cl,TL.nT,(show 2<1000 by decide),?_⟩
 refine ⟨.ref x,rfl,x,CL,dx,_,rfl,zae,TL.cl,TL.nF,(show 3<1000 by decide),?_⟩
 refine ⟨1,rfl,.ref x,rfl,x,CL,dx,_,rfl,zae,TL.cl,TL.nL,(show 4<1000 by decide),?_⟩
 rw [zfd,zfd,zfd]
 have eb4:but (upd H3 x (.ins CL dx (loFs p (zih as) 0 0 (-1)))) (x::M)=but H3 (x::M):=zcy mem_cons_self
 have S14:Same (but H1 (x::M)) (but (upd H3 x (.ins CL dx (loFs p (zih as) 0 0 (-1)))) (x::M)):=by
  rw [eb4,<-eb2];exact s3.but _
 have hnew4:=hnew.mono S14
 have hown:=hnew4.own
 have hseen:∀os∈oss,∀y∈os,∃o,upd H3 x (.ins CL dx (loFs p (zih as) 0 0 (-1))) y=some o/\y∉x::M:=fun os ho y hy=>by
  obtain ⟨i,hi⟩:=mem_iff_getElem?.mp ho
  obtain ⟨o,h1,_⟩:=hnew4.seen hi y hy
  obtain ⟨q1,q2⟩:=zac h1
  exact ⟨o,q2,q1⟩
 refine q oss (upd H3 x (.ins CL dx (loFs p (zih as) 0 0 (-1)))) (fun b u hb e=>by rw [zal hb];exact s3 _ _ (K2 b u hb e)) hfr (fun y hy=>?_) ⟨dx,p,us,zae,?_,hown,mem_append_right _ mem_cons_self,fun os ho z=>(hseen os ho x z).choose_spec.2 mem_cons_self⟩
 ·rcases mem_append.mp hy with z|z
  ·obtain ⟨os,ho,hy'⟩:=mem_flatten.mp z
   obtain ⟨o,h1,_⟩:=hseen os ho y hy'
   rw [h1];exact fun z=>nomatch z
  ·exact (l2.same s3).upd y z
 ·obtain ⟨q1,q2⟩:=zac (S14 _ _ hp)
  rw [zat]
  ·exact q2
  ·intro z
   rcases mem_append.mp z with z|z
   ·obtain ⟨os,ho,hy'⟩:=mem_flatten.mp z
    obtain ⟨i,hi⟩:=mem_iff_getElem?.mp ho
    obtain ⟨o,h1,h2⟩:=hnew4.seen hi p hy'
    rw [(zac h1).2] at q2
    cases q2
    cases h2
   ·exact q1 z
theorem sc_Loom_take_in:zbd ["self","facts","step","place","fact"] ["self","facts"] (zam zcv):=⟨rfl,rfl,rfl,by decide+kernel,rfl,by decide+kernel,by decide+kernel⟩
theorem zlv {C CL:Addr}(F:Fun K "take_in" "Loom.take_in" zcv f fd)(T:ztb K C)(TL:zvb K CL)(B:Bl mg)(B_max:mg "max"=none)(M_offer:HasM P w K mg base 3 C "offer" ["self","place","fact"] (spOffer C)):FnOk P w K mg base CX0 4 f fd ["self","facts"] (spTake C CL):=by
 refine F.ok sc_Loom_take_in (fun vs H Q E ⟨_,_,_,_,_,_,e,_⟩=>by rw [e];rfl) (fun cdv A outer s H vs Q E hr h=>?_)
 obtain ⟨Z,oss,lm,facts,a,v1,rfl,lv,hL,r1,hF,hS,hsl,hz,q⟩:=h
 have cl_Step:=T.cl
 refine ⟨_,(zad (zgj (pv 0) (zeh (pv 0) rfl) rfl)
   (zad (zgj (pv 0) (zcd zi9 (zeh (pv 0) rfl) (zdb B (pv 1))) rfl)
   (zad (zdr PassesOwn.never rfl (zcg (zeh (pv 0) rfl)) (zau (i:=2) sc_Loom_take_in.nd rfl (by first|exact Or.inl rfl|exact Or.inr rfl)) (zag (zdr PassesOwn.never rfl (pi_enumS B.enumerate (pv 1) (zeh (pv 0) rfl)) (znt rfl (zde (zau (i:=3) sc_Loom_take_in.nd rfl (by first|exact Or.inl rfl|exact Or.inr rfl)) (zde (zau (i:=4) sc_Loom_take_in.nd rfl (by first|exact Or.inl rfl|exact Or.inr rfl)) zhw))) (zag (ziy (zke (pv 2) cl_Step M_offer hr (zab (pv 3) (zab (pv 4) zah))))))))
   (zag (zgj (pv 0) (pe_maxD B_max (zdn ["self","n","step"] [0] 2 (pi_enum B.enumerate (zab (zeh (pv 0) rfl) zah)) (fun _ _ _ _ _=>(ztu (n:=2) rfl (zde (zau (i:=1) (show (["self","n","step"]:List Str).Nodup from by decide+kernel) rfl (by first|exact Or.inl rfl|exact Or.inr rfl)) (zde (zau (i:=2) (show (["self","n","step"]:List Str).Nodup from by decide+kernel) rfl (by first|exact Or.inl rfl|exact Or.inr rfl)) zhw)))) (fun _ _ _ _ _=>(zez (zbb op_ge (zls (pv 2) rfl) (zls (pv 0) rfl) (zbl _)))) (fun _ _ _ _ _=>(pv 1))) (zpa zja zai)) rfl))))),?_⟩
 obtain ⟨dx,sl,us,ha,hsl1,hst,aZ,hao⟩:=hL
 have ossZ:∀os∈oss,∀x∈os,x∈Z:=fun os ho x hx=>by
  obtain ⟨i,hi⟩:=mem_iff_getElem?.mp ho
  have hil:=(List.getElem?_eq_some_iff.mp hi).1
  have hl2:=hst.l2
  have his:i<lm.steps.length:=by omega
  obtain ⟨_,o2,_,h2,_,h4⟩:=hst.get i lm.steps[i] (getElem?_eq_getElem his)
  rw [hi] at h2
  cases h2
  exact h4 x hx
 refine ⟨.ref a,rfl,a,CL,dx,_,.int lm.taken,rfl,ha,TL.cl,TL.nT,rfl,.ref a,rfl,a,CL,dx,_,rfl,ha,TL.cl,TL.nF,(show 5<1000 by decide),?_⟩
 obtain ⟨af,vf,e1,hf,rf⟩:=r1.of_lst
 subst e1
 have naf:af≠a:=fun z=>(zac hf).1 (by rw [z];exact aZ)
 refine ⟨.ref a,rfl,a,CL,dx,_,.int lm.taken,rfl,zae,TL.cl,TL.nF,rfl,.ref af,rfl,af,vf,rfl,.inl (SqL.of (by rw [zal naf];exact (zac hf).2)),_,_,rfl,rfl,.ref a,rfl,a,CL,dx,_,rfl,zae,TL.cl,TL.nT,(show 5<1000 by decide),?_⟩
 rw [zfd]
 have hvl:vf.length=facts.length:=by rw [rf.length,length_map]
 rw [hvl]
 generalize hH2:upd H a _=H2
 have ha2:H2 a=some (.ins CL dx (loFs sl lm.barred ((lm.taken:Nat)+(facts.length:Nat)) (lm.taken:Nat) lm.last)):=by rw [<-hH2];exact zae
 have eb2:but H2 Z=but H Z:=by rw [<-hH2];exact zcy aZ
 have l2:Live Z H2:=by rw [<-hH2];exact lv.upd
 have K2:∀b u,b≠a->H b=some u->H2 b=some u:=fun b u hb e=>by rw [<-hH2,zal hb];exact e
 have hst2:StepsAt C H2 Z us oss lm.steps:=hst.frame (fun x hx=>hx) (fun b u ⟨os,ho,hb⟩ e=>K2 b u (fun z=>hao os ho (by rw [<-z];exact hb)) e) (by rw [eb2];exact Same.refl _)
 have N2:∀{x:Addr},H2 x=none->H x=none:=fun {x} e=>by
  cases qx:H x with
  |none=>rfl
  |some u=>
   by_cases z:x=a
   ·rw [z,ha2] at e;cases e
   ·rw [K2 x u z qx] at e;cases e
 have r12:Rep (but H2 Z) (.ref af) (.lst (facts.map D.tup)):=by rw [eb2];exact r1
 have hsl2:but H2 Z sl=some (.lst us):=by rw [eb2];exact hsl1
 obtain ⟨Zr,hZr,aZr⟩:∃Zr:List Addr,(∀x,x∈a::Zr↔x∈Z)/\a∉Zr:=⟨Z.filter (fun y=>decide (y≠a)),fun x=>by
  by_cases e:x=a
  ·simp [e,aZ]
  ·simp [e],by simp⟩
 have G1:Same (but H2 Z) (but H2 Zr):=zcj fun x hx=>(hZr x).mp (mem_cons_of_mem _ hx)
 have lr:Live Zr H2:=fun x hx=>l2 x ((hZr x).mp (mem_cons_of_mem _ hx))
 have ga:but H2 Zr a=some (.ins CL dx (loFs sl lm.barred ((lm.taken:Nat)+(facts.length:Nat)) (lm.taken:Nat) lm.last)):=by rw [zat aZr];exact ha2
 have gsl:but H2 Zr sl=some (.lst us):=G1 _ _ hsl2
 have rf2:Rep (but H2 Zr) (.ref af) (.lst (facts.map D.tup)):=r12.mono G1
 have ossZr:∀os∈oss,∀x∈os,x∈Zr:=fun os ho x hx=>by
  have:=(hZr x).mpr (ossZ os ho x hx)
  rcases mem_cons.mp this with z|z
  ·exact absurd (by rw [<-z];exact hx) (hao os ho)
  ·exact z
 have hstr:StepsAt C H2 Zr us oss lm.steps:=⟨hst2.l1,hst2.l2,fun j s qs=>by
  obtain ⟨a',os,h1,h2,h3,h4⟩:=hst2.get j s qs
  have ho:=mem_of_getElem? h2
  exact ⟨a',os,h1,h2,h3.frame h4 (ossZr os ho) (fun b u _ e=>e) G1,ossZr os ho⟩,hst2.apart⟩
 have E2:EnvR (but H2 Zr) (L2.start ["self","facts","step","place","fact"] [.ref a,.ref af]) [none,some (.lst (facts.map D.tup)),none,none,none]:=zci (.raw (.dat rf2 .nil)) _
 have hln:=hstr.l1
 refine zti (M:=Zr) (zkb (zml TL.cl TL.nS rfl ga rfl) gsl) lr fun H3 s3=>?_
 have hstr3:=hstr.mono s3
 have ga3:=(s3.but Zr) _ _ ga
 have gsl3:=(s3.but Zr) _ _ gsl
 have E3:=E2.same s3
 let sAt:Nat->Nat->List zbu:=fun j i=>(lm.steps.zipIdx).map fun p=>if p.2<j then zbz p.1 lm.taken facts else if p.2=j then zbz p.1 lm.taken (facts.take i) else p.1
 have sAt_get:∀j i m s,lm.steps[m]?=some s->(sAt j i)[m]?=some (if m<j then zbz s lm.taken facts else if m=j then zbz s lm.taken (facts.take i) else s):=fun j i m s e=>by
  show ((lm.steps.zipIdx).map _)[m]?=_
  rw [getElem?_map,List.getElem?_zipIdx,e]
  simp
 have sAt_len:∀j i,(sAt j i).length=lm.steps.length:=fun j i=>by simp [sAt]
 clear_value sAt
 have sAt_0:sAt 0 0=lm.steps:=by
  apply List.ext_getElem?
  intro m
  cases e:lm.steps[m]? with
  |none=>rw [getElem?_eq_none (by rw [sAt_len];exact List.getElem?_eq_none_iff.mp e)]
  |some s=>
   rw [sAt_get 0 0 m s e]
   by_cases z:m=0
   ·rw [if_neg (by omega),if_pos z];rfl
   ·rw [if_neg (by omega),if_neg z]
 have sAt_end:sAt lm.steps.length 0=lm.steps.map fun s=>zbz s lm.taken facts:=by
  apply List.ext_getElem?
  intro m
  rw [getElem?_map]
  cases e:lm.steps[m]? with
  |none=>rw [getElem?_eq_none (by rw [sAt_len];exact List.getElem?_eq_none_iff.mp e)];rfl
  |some s=>
   rw [sAt_get _ 0 m s e,if_pos (List.getElem?_eq_some_iff.mp e).1]
   rfl
 have sAt_next:∀j,sAt j facts.length=sAt (j+1) 0:=fun j=>by
  apply List.ext_getElem?
  intro m
  cases e:lm.steps[m]? with
  |none=>
   have:=List.getElem?_eq_none_iff.mp e
   rw [getElem?_eq_none (by rw [sAt_len];exact this),getElem?_eq_none (by rw [sAt_len];exact this)]
  |some s=>
   rw [sAt_get j _ m s e,sAt_get (j+1) 0 m s e,take_of_length_le (Nat.le_refl _)]
   by_cases z:m<j
   ·rw [if_pos z,if_pos (by omega)]
   ·by_cases z2:m=j
    ·rw [if_neg z,if_pos z2,if_pos (by omega)]
    ·rw [if_neg z,if_neg z2,if_neg (by omega)]
     by_cases z3:m=j+1
     ·rw [if_pos z3];rfl
     ·rw [if_neg z3]
 have sAt_set:∀j i g s,lm.steps[j]?=some s->facts[i]?=some g->(sAt j i).set j (zdc (zbz s lm.taken (facts.take i)) (lm.taken+i) g)=sAt j (i+1):=fun j i g s e eg=>by
  apply List.ext_getElem?
  intro m
  by_cases z:j=m
  ·subst z
   rw [getElem?_set_self (by rw [sAt_len];exact (List.getElem?_eq_some_iff.mp e).1),sAt_get j (i+1) j s e,if_neg (Nat.lt_irrefl _),if_pos rfl,zrv eg]
  ·rw [getElem?_set_ne z]
   cases e2:lm.steps[m]? with
   |none=>
    have:=List.getElem?_eq_none_iff.mp e2
    rw [getElem?_eq_none (by rw [sAt_len];exact this),getElem?_eq_none (by rw [sAt_len];exact this)]
   |some t=>
    have z':¬m=j:=fun w=>z w.symm
    rw [sAt_get j i m t e2,sAt_get j (i+1) m t e2,if_neg z',if_neg z']
 have b0:∀{H':Hp} {Z':List Addr} {oss':List (List Addr)} {ss':List zbu},TakeI C us H3 Zr oss H' Z' oss' ss'->but H' Z' a=some (.ins CL dx (loFs sl lm.barred ((lm.taken:Nat)+(facts.length:Nat)) (lm.taken:Nat) lm.last)):=fun I=>I.same ossZr _ _ ga3
 refine ⟨fun j M' σ' H'=>∃oss',TakeI C us H3 Zr oss H' M' oss' (sAt j 0)/\σ'[0]?=some (some (.ref a))/\EnvR (but H3 Zr) σ' [none,some (.lst (facts.map D.tup)),none,none,none],
  ⟨oss,⟨by rw [sAt_0];exact hstr3,fun os ho x hx=>.inl ⟨os,ho,hx⟩,fun b u _ e=>e,lr.same s3,fun x hx=>hx,fun x hx=>.inl hx⟩,rfl,E3⟩,fun j M' σ' H' ⟨oss',I,_,_⟩=>⟨I.same ossZr,I.live⟩,?_,?_⟩
 ·rintro j M' x σ' H' H'' hjl ⟨oss',I,i0,E'⟩ s4 hx
  have hx:us[j]?=some x:=hx
  have hjs:j<lm.steps.length:=by omega
  have hsj:lm.steps[j]?=some lm.steps[j]:=getElem?_eq_getElem hjs
  have I4:=I.mono s4
  have E4:EnvR (but H'' M') (σ'.set 2 (some x)) [none,some (.lst (facts.map D.tup)),none,none,none]:=(E'.mono (I4.same ossZr)).off 2 _
  have c0:(σ'.set 2 (some x))[0]?=some (some (.ref a)):=(getElem?_set_ne (by decide)).trans i0
  have hlen5:σ'.length=5:=E'.len
  have c2:(σ'.set 2 (some x))[2]?=some (some x):=getElem?_set_self (by omega)
  have EB:EnvR (but H3 Zr) (σ'.set 2 (some x)) [none,some (.lst (facts.map D.tup)),none,none,none]:=E'.off 2 _
  have g4:=b0 I4
  refine zti (M:=M') (walkR_of (zwq (n:=lm.taken) (by omega) (zaw E4 rfl) (zhp TL.cl TL.nF c0 g4 rfl (.int _)))) I4.live fun H5 s5=>?_
  have I5:=I4.mono s5
  have hen:(zsk lm.taken (facts.map D.tup)).length=facts.length:=by simp [zsk]
  refine ⟨fun i M2 σ2 X=>∃oss2,TakeI C us H3 Zr oss X M2 oss2 (sAt j i)/\Same (but H5 M') (but X M2)/\σ2[0]?=some (some (.ref a))/\σ2[2]?=some (some x)/\EnvR (but H3 Zr) σ2 [none,some (.lst (facts.map D.tup)),none,none,none],
   ⟨oss',I5,Same.refl _,c0,c2,EB⟩,fun i M2 σ2 X ⟨oss2,I2,S2,_,_,_⟩=>⟨S2,I2.live⟩,?_,?_⟩
  ·rintro i M2 y σ2 X X' hil ⟨oss2,I2,S2,i0',i2',E2'⟩ s6 ⟨d,hd,ry⟩
   have hil:i<facts.length:=by rw [hen] at hil;exact hil
   have hgi:facts[i]?=some facts[i]:=getElem?_eq_getElem hil
   have hd2:d=.tup [.int ((lm.taken+i:Nat):Int),.tup facts[i]]:=by
    have:(zsk lm.taken (facts.map D.tup))[i]?=some (.tup [.int ((lm.taken+i:Nat):Int),.tup facts[i]]):=by
     simp [zsk,hgi]
    rw [this] at hd
    exact (Option.some.inj hd).symm
   subst hd2
   have I6:=I2.mono s6
   refine zod ry fun u1 u2 q1 q2=>?_
   have e1:=q1.of_int
   subst e1
   have hl2:σ2.length=5:=E2'.len
   have d0:((σ2.set 3 (some (.int ((lm.taken+i:Nat):Int)))).set 4 (some u2))[0]?=some (some (.ref a)):=by rw [getElem?_set_ne (by decide),getElem?_set_ne (by decide)];exact i0'
   have d2:((σ2.set 3 (some (.int ((lm.taken+i:Nat):Int)))).set 4 (some u2))[2]?=some (some x):=by rw [getElem?_set_ne (by decide),getElem?_set_ne (by decide)];exact i2'
   have d3:((σ2.set 3 (some (.int ((lm.taken+i:Nat):Int)))).set 4 (some u2))[3]?=some (some (.int ((lm.taken+i:Nat):Int))):=by rw [getElem?_set_ne (by decide)];exact getElem?_set_self (by omega)
   have d4:((σ2.set 3 (some (.int ((lm.taken+i:Nat):Int)))).set 4 (some u2))[4]?=some (some u2):=getElem?_set_self (by rw [length_set];omega)
   have hsji:=sAt_get j i j _ hsj
   rw [if_neg (Nat.lt_irrefl _),if_pos rfl] at hsji
   obtain ⟨aj,os,h1,h2,h3,h4⟩:=I6.st.get j _ hsji
   have exj:x=.ref aj:=by rw [hx] at h1;exact Option.some.inj h1
   subst exj
   obtain ⟨dxj,w0,sa,w2,ao,ls,oS,eos,hIns,_⟩:=h3.at_
   have hgo:=hF _ (mem_of_getElem? hgi)
   have hSj:=hS _ (mem_of_getElem? hsj)
   have hofl:=zxf lm.steps[j] lm.taken (facts.take i)
   rw [length_take] at hofl
   refine ⟨.ref aj,d2,aj,dxj,_,rfl,hIns,rfl,.int ((lm.taken+i:Nat):Int),d3,u2,d4,M2,os,_,aj,lm.taken+i,facts[i],u2,rfl,I6.live,h3,h4,q2,by rw [zpg];exact hSj.1,hgo,by have:=hSj.2;omega,fun os' X'' n1 n2 n3 n4 n5=>?_⟩
   have I7:=I6.put hsji h1 h2 h4 n1 n2 n3 n4 n5
   rw [sAt_set j i _ _ hsj hgi] at I7
   have S7:Same (but X' M2) (but X'' (os'++M2)):=zpe n1 h4 n3
   exact ⟨os'++M2,oss2.set j os',I7,S2.trans ((s6.but _).trans S7),d0,d2,(E2'.off 3 _).off 4 _⟩
  ·rintro M2 σ2 X ⟨oss2,I2,S2,i0',i2',E2'⟩
   rw [hen,sAt_next] at I2
   exact ⟨M2,oss2,I2,i0',E2'⟩
 ·rintro M' σ' H' ⟨oss',I,i0,E'⟩
  rw [show us.length=lm.steps.length from hln,sAt_end] at I
  have ga':=(zac (b0 I)).2
  have gsl':=I.same ossZr _ _ gsl3
  have gsl0:=(zac gsl').2
  have en:∀b,but H' [] b=H' b:=fun b=>zat (by simp)
  refine fldE (M:=[]) (ev_maxL (K:=K) (is:=((List.range us.length).filter fun j=>decide ((lm.taken:Int)<=((lm.steps.map fun s=>zbz s lm.taken facts).getD j ⟨[],[],[],[],-1⟩).newest)).map fun j=>((j:Nat):Int)) (n:=-1) (EvM.eq (ev_compE (K:=K) (caps:=zas [0] 2) (i:=1) (j:=2) (by decide) (p:=fun j=>decide ((lm.taken:Int)<=((lm.steps.map fun s=>zbz s lm.taken facts).getD j ⟨[],[],[],[],-1⟩).newest)) (f:=fun j=>.int (j:Nat)) (zwr (zml TL.cl TL.nS i0 (by rw [en];exact ga') rfl) (by rw [en];exact gsl0)) (fun G' v m sG hv=>?_) (fun G' v m sG hv _=>zch (by simp [zas]) (.int _)) (by rw [hln];exact zar (by omega))) (by rw [map_map];rfl)) (zmi zak)) Live.nil fun v6 H6 s6 r6=>?_
  ·have hm:=(List.getElem?_eq_some_iff.mp hv).1
   have hml:m<(lm.steps.map fun s=>zbz s lm.taken facts).length:=by rw [length_map];omega
   obtain ⟨am,os,h1,h2,h3,h4⟩:=I.st.get m _ (getElem?_eq_getElem hml)
   have e1:v=.ref am:=by rw [hv] at h1;exact Option.some.inj h1
   subst e1
   obtain ⟨dxj,w0,sa,w2,ao,ls,oS,eos,hIns,_⟩:=h3.at_
   have eN:(lm.steps.map fun s=>zbz s lm.taken facts).getD m ⟨[],[],[],[],-1⟩=(lm.steps.map fun s=>zbz s lm.taken facts)[m]:=by rw [List.getD,getElem?_eq_getElem hml];rfl
   rw [eN]
   exact zav (ev_ge (zhp (a:=am) T.cl T.nN (by simp [zas]) (sG _ _ (by rw [en];exact hIns)) rfl (.int _)) (zhp (a:=a) TL.cl TL.nF (by simp [zas,i0]) (sG _ _ (by rw [en];exact ga')) rfl (.int _)))
  have e6:=r6.of_int
  subst e6
  refine ⟨.ref a,i0,a,CL,dx,_,rfl,s6 _ _ ga',TL.cl,TL.nL,(show 5<1000 by decide),?_⟩
  rw [show us.length=(lm.steps.map fun s=>zbz s lm.taken facts).length by rw [length_map];exact hln]
  generalize hH7:upd H6 a _=H7
  have ha7:H7 a=some (.ins CL dx (loFs sl lm.barred ((lm.taken:Nat)+(facts.length:Nat)) (lm.taken:Nat) (lastD (lm.steps.map fun s=>zbz s lm.taken facts) lm.taken))):=by rw [<-hH7];exact zae
  have K7:∀b u,b≠a->H' b=some u->H7 b=some u:=fun b u hb e=>by rw [<-hH7,zal hb];exact s6 _ _ e
  have ha3:H3 a=some (.ins CL dx (loFs sl lm.barred ((lm.taken:Nat)+(facts.length:Nat)) (lm.taken:Nat) lm.last)):=(zac ga3).2
  have aos:∀os∈oss',a∉os:=fun os ho z=>by
   rcases I.own os ho a z with ⟨o,h1,h2⟩|h1
   ·exact hao o h1 h2
   ·rw [ha3] at h1;cases h1
  have ossM:∀os∈oss',∀x∈os,x∈M':=fun os ho x hx=>by
   obtain ⟨i,hi⟩:=mem_iff_getElem?.mp ho
   have hil:=(List.getElem?_eq_some_iff.mp hi).1
   have hl2:=I.st.l2
   have his:i<(lm.steps.map fun s=>zbz s lm.taken facts).length:=by omega
   obtain ⟨_,o2,_,h2,_,h4⟩:=I.st.get i _ (getElem?_eq_getElem his)
   rw [hi] at h2
   cases h2
   exact h4 x hx
  have ZM:∀x∈Z,x=a\/x∈M':=fun x hx=>by
   rcases mem_cons.mp ((hZr x).mpr hx) with z|z
   ·exact .inl z
   ·exact .inr (I.sub x z)
  have S7:Same (but H' (a::M')) (but H7 (oss'.flatten++Z)):=fun b u e=>by
   obtain ⟨q1,q2⟩:=zac e
   simp only [mem_cons,not_or] at q1
   rw [zat]
   ·exact K7 b u q1.1 q2
   ·intro z
    rcases mem_append.mp z with z|z
    ·obtain ⟨os,ho,hx⟩:=mem_flatten.mp z
     exact q1.2 (ossM os ho b hx)
    ·rcases ZM b z with w|w
     ·exact q1.1 w
     ·exact q1.2 w
  have l7:Live (oss'.flatten++Z) H7:=fun x hx=>by
   have hM:x=a\/x∈M':=by
    rcases mem_append.mp hx with z|z
    ·obtain ⟨os,ho,hx⟩:=mem_flatten.mp z
     exact .inr (ossM os ho x hx)
    ·exact ZM x z
   by_cases z:x=a
   ·rw [z,ha7];exact fun z=>nomatch z
   ·rcases hM with w|w
    ·exact absurd w z
    ·cases q7:H' x with
     |none=>exact absurd q7 (I.live x w)
     |some u=>rw [K7 x u z q7];exact fun z=>nomatch z
  refine q oss' H7 (fun os ho x hx=>?_) (fun b u hb ho e=>K7 b u hb (I.keep b u ho (s3 _ _ (K2 b u hb e)))) l7 ⟨dx,sl,us,?_,?_,?_,mem_append_right _ aZ,aos⟩
  ·rcases I.own os ho x hx with z|z
   ·exact .inl z
   ·refine .inr (N2 ?_)
    cases q3:H2 x with
    |none=>rfl
    |some u=>rw [s3 _ _ q3] at z;cases z
  ·exact ha7
  ·refine S7 _ _ ?_
   have nsl:sl≠a:=fun z=>by rw [z,ga'] at gsl0;cases gsl0
   rw [zat (by simp only [mem_cons,not_or];exact ⟨nsl,(zac gsl').1⟩)]
   exact gsl0
  ·exact (I.st.hideD ga' rfl).frame' (fun os ho x hx=>mem_append_left _ (mem_flatten.mpr ⟨os,ho,hx⟩)) (fun b u ⟨os,ho,hb⟩ e=>K7 b u (fun z=>aos os ho (by rw [<-z];exact hb)) e) S7
end
end K05
namespace K05
open PySem L2 FL
section
variable {P:Program}{w:World}{K:PySem.W.Frag}{mg:Str->Option Value}{base:Heap}{f:Addr}{fd:FuncData}
theorem zjf:zbd ["self"] ["self"] (zam zcc):=⟨rfl,rfl,rfl,by decide+kernel,rfl,by decide+kernel,by decide+kernel⟩
theorem zjm {C CL:Addr}(F:Fun K "beginnings" "Loom.beginnings" zcc f fd)(T:ztb K C)(TL:zvb K CL)(B:Bl mg):FnOk P w K mg base CX0 1 f fd ["self"] (spBegin C CL):=by
 refine F.ok zjf (fun vs H Q E ⟨_,_,_,e,_⟩=>by rw [e];rfl) (fun cdv A outer s H vs Q E hr h=>?_)
 obtain ⟨M,lm,v0,rfl,lv,hL,hn,q⟩:=h
 refine ⟨_,(zad (zdl (zjj (zcl (zeh (pv 0) rfl)) (zit (zha (zbb zrk (zeh (pv 0) rfl) zai (zbl _)) (zfm (zbb op_gt (zeh (pv 0) rfl) zai (zbl _)))).pt)).pt (zag (zaz (zdg zah))) zbh)
   (zad (zdl (zdp (zcl (zpc B (zdn ["step"] [] 1 (zcg (zeh (pv 0) rfl)) (fun _ _ _ _ _=>(zau (i:=0) (show (["step"]:List Str).Nodup from by decide+kernel) rfl (by first|exact Or.inl rfl|exact Or.inr rfl))) (fun _ _ _ _ _=>zhv) (fun _ _ _ _ _=>(zfo op_ge (zls (pv 0) rfl) zai (zbl _))))))) (zag (zaz (zdg zah))) zbh)
   (zag (zaz (zdg (zab (zec (zab (zdg zah) (zab (zec zah) zah))) zah)))))),?_⟩
 obtain ⟨a,dx,sl,us,rfl,ga,gs,hst⟩:=hL
 have E0:EnvR (but H M) (L2.start ["self"] [.ref a]) [none]:=zci (.raw .nil) _
 have hln:=hst.len
 refine zk9 lv E0 (zdu (zby (zhp TL.cl TL.nB rfl ga rfl (.bl _))) fun _=>zgb (zav (zsi (zhp TL.cl TL.nL rfl ga rfl (.int _)) zak)) fun _=>zav (ev_gt (zhp TL.cl TL.nF rfl ga rfl (.int _)) zak)) (fun e H1 s1 l1 E1=>?_) (fun e H1 s1 l1 E1=>nx ?_)
 ·have hw0:zfj lm=[]:=by unfold zfj;rw [if_pos e]
  rw [hw0] at q
  exact s_retL l1 zaf (Nat.zero_le _) fun p us' H2 s2 hp h2 r2=>q p us' H2 (s1.trans s2) (zjn s1 hp) h2 r2
 have hst1:=hst.mono (s1.but M)
 refine zk9 l1 E1 (zbo (zby (zwe (bs:=lm.steps.map fun s=>decide ((0:Int)<=s.newest)) (zaa (EvM.eq (ev_compW (caps:=zas [] 1) (i:=0) (p:=fun _=>true) (f:=fun j=>.bl (decide ((0:Int)<=(lm.steps.getD j ⟨[],[],[],[],-1⟩).newest))) (zkb (K:=K) (zml TL.cl TL.nS rfl ((s1.but M) _ _ ga) rfl) ((s1.but M) _ _ gs)) (fun j G G' v _ h=>h) (fun G' v j _ _ _=>zic) (fun G' v j sG hj _ hv=>?_) (by rw [hln];exact zar (by omega))) ?_) zaf)))) (fun e2 H2 s2 l2 E2=>?_) (fun e2 H2 s2 l2 E2=>nx ?_)
 ·have hv:us[j]?=some v:=hv
  have hjs:j<lm.steps.length:=by omega
  obtain ⟨v',h1,h2⟩:=hst1.get j _ (getElem?_eq_getElem hjs)
  rw [hv] at h1
  cases h1
  obtain ⟨am,dxm,w0,sa,w2,ao,oS,rfl,g1,_⟩:=h2
  have eN:lm.steps.getD j ⟨[],[],[],[],-1⟩=lm.steps[j]:=by rw [List.getD,getElem?_eq_getElem hjs];rfl
  rw [eN]
  exact ev_ge (zhp T.cl T.nN (by simp [zas]) (sG _ _ g1) rfl (.int _)) zak
 ·rw [filter_eq_self.mpr fun _ _=>rfl,hln,map_map]
  congr 1
  apply List.ext_getElem?
  intro m
  rw [getElem?_map,getElem?_map]
  by_cases hm:m<lm.steps.length
  ·rw [List.getElem?_range hm,getElem?_eq_getElem hm]
   show some (D.bl (decide ((0:Int)<=(lm.steps.getD m ⟨[],[],[],[],-1⟩).newest)))=_
   rw [List.getD,getElem?_eq_getElem hm]
   rfl
  ·rw [getElem?_eq_none (by simpa using Nat.le_of_not_lt hm),getElem?_eq_none (Nat.le_of_not_lt hm)]
   rfl
 ·have hw0:zfj lm=[]:=by
   unfold zfj
   rw [if_neg (by rw [e];exact Bool.false_ne_true),if_neg]
   intro z
   rw [List.all_map] at e2
   have e3:(lm.steps.all (id∘fun s=>decide ((0:Int)<=s.newest)))=true:=z
   rw [e3] at e2
   cases e2
  rw [hw0] at q
  exact s_retL l2 zaf (Nat.zero_le _) fun p us' H3 s3 hp h3 r3=>q p us' H3 (s1.trans (s2.trans s3)) (zjn (s1.trans s2) hp) h3 r3
 ·have hw0:zfj lm=[([],[])]:=by
   unfold zfj
   rw [if_neg (by rw [e];exact Bool.false_ne_true),if_pos]
   rw [List.all_map] at e2
   have e3:(!(lm.steps.all (id∘fun s=>decide ((0:Int)<=s.newest))))=false:=e2
   rw [Bool.not_eq_false'] at e3
   exact e3
  rw [hw0] at q
  exact s_retL l2 (ds:=[.tup [.lst [],.tup []]]) (zaa (zcq (zaa (zgp (ds:=[]) zaf (hz:=Nat.zero_le _)) (zaa (zcq (ds:=[]) zaf (hz:=Nat.zero_le _)) zaf))) zaf) (show 1<=sizeLine by decide) fun p us' H3 s3 hp h3 r3=>q p us' H3 (s1.trans (s2.trans s3)) (zjn (s1.trans s2) hp) h3 r3
theorem zku:zbd ["self","way"] ["self","way"] (zam zcn):=⟨rfl,rfl,rfl,by decide+kernel,rfl,by decide+kernel,by decide+kernel⟩
theorem zkz {C CL:Addr}(F:Fun K "is_whole" "Loom.is_whole" zcn f fd)(TL:zvb K CL)(B:Bl mg):FnOk P w K mg base CX0 1 f fd ["self","way"] (ztj C CL):=by
 refine F.ok zku (fun vs H Q E ⟨_,_,_,_,_,e,_⟩=>by rw [e];rfl) (fun cdv A outer s H vs Q E hr h=>?_)
 obtain ⟨M,lm,w0,v0,v1,rfl,lv,hL,r1,q⟩:=h
 have hu:=zoa hr
 refine ⟨_,(zag (zaz (zfo (zgl (by exact hu)) (zdb B (zay (pv 1) zai)) (zdb B (zeh (pv 0) rfl)) (zbl _)))),?_⟩
 obtain ⟨a,dx,sl,us,rfl,ga,gs,hst⟩:=hL
 have hln:=hst.len
 have E0:EnvR (but H M) (L2.start ["self","way"] [.ref a,v1]) [none,some (zfk w0)]:=zci (.raw (.dat r1 .nil)) _
 refine zes lv (zie (i:=((w0.2.map fun n=>D.int (n:Nat)).length:Nat)) (j:=(us.length:Nat)) (zgc (zaa (zbw (ds:=[.lst (zbj w0.1),.tup (w0.2.map fun n=>D.int (n:Nat))]) (d:=.tup (w0.2.map fun n=>D.int (n:Nat))) rfl (zaw E0 rfl) zak) zaf)) (ev_lenE (zml TL.cl TL.nS rfl ga rfl) gs)) fun v H1 s1 r1=>?_
 have e1:=r1.of_bl
 subst e1
 have:decide ((((w0.2.map fun n=>D.int (n:Nat)).length:Nat):Int)=((us.length:Nat):Int))=decide (w0.2.length=lm.steps.length):=by
  rw [length_map,hln]
  exact decide_eq_decide.mpr ⟨fun h=>by omega,fun h=>by omega⟩
 rw [this]
 exact q H1 s1
theorem sc_Loom_carried_on:zbd ["self","way","taken","lowest"] ["self","way"] (zam zcb):=⟨rfl,rfl,rfl,by decide+kernel,rfl,by decide+kernel,by decide+kernel⟩
theorem zjl {C CL:Addr}(F:Fun K "carried_on" "Loom.carried_on" zcb f fd)(T:ztb K C)(TL:zvb K CL)(B:Bl mg)(B_max:mg "max"=none)(M_carry_on:HasM P w K mg base 3 C "carry_on" ["self","way","lowest"] (ztk C)):FnOk P w K mg base CX0 4 f fd ["self","way"] (zlp C CL):=by
 refine F.ok sc_Loom_carried_on (fun vs H Q E ⟨_,_,_,_,_,_,e,_⟩=>by rw [e];rfl) (fun cdv A outer s H vs Q E hr h=>?_)
 obtain ⟨M,lm,w0,v0,v1,sz,rfl,lv,hL,r1,hR,hW,hlt,q⟩:=h
 have hu:=zoa hr
 have cl_Step:=T.cl
 refine ⟨_,(zad (zbe (i:=2) sc_Loom_carried_on.nd rfl (Or.inl rfl) (zdb B (zay (pv 1) zai)))
   (zad (zbe (i:=3) sc_Loom_carried_on.nd rfl (Or.inl rfl) zai)
   (zad (zdl (zha (zbb (zgl (by exact hu)) (pv 2) (zeh (pv 0) rfl) (zbl _)) (zfm (zbb zrk (pe_maxD B_max (zay (pv 1) zai) (zpa zja zai)) (zeh (pv 0) rfl) (zbl _)))).pt (zag (zbe (i:=3) sc_Loom_carried_on.nd rfl (Or.inl rfl) (zeh (pv 0) rfl))) zbh)
   (zag (zaz (zke (zay (zeh (pv 0) rfl) (pv 2)) cl_Step M_carry_on hr (zab (pv 1) (zab (pv 3) zah)))))))),?_⟩
 obtain ⟨a,dx,sl,us,rfl,ga,gs,hst⟩:=hL
 have hln:=hst.len
 obtain ⟨S,pl⟩:=w0
 have hlt:pl.length<lm.steps.length:=hlt
 have E0:EnvR (but H M) (L2.start ["self","way","taken","lowest"] [.ref a,v1]) [none,some (zfk (S,pl)),none,none]:=zci (.raw (.dat r1 .nil)) _
 have eip:(pl.map fun n=>D.int (n:Nat))=(pl.map fun n=>((n:Nat):Int)).map D.int:=by rw [map_map];rfl
 refine zh9 (i:=2) (d:=.int (pl.length:Nat)) lv E0 ((zgc (zaa (zbw (ds:=[.lst (zbj S),.tup (pl.map fun n=>D.int (n:Nat))]) (d:=.tup (pl.map fun n=>D.int (n:Nat))) rfl (zaw E0 rfl) zak) zaf)).eq (by rw [length_map])) fun σ1 H1 o1 s1 l1 E1=>?_
 dsimp only
 refine seqE (zh9 (i:=3) (d:=.int 0) l1 E1 (zak (i:=0)) fun σ2 H2 o2 s2 l2 E2=>?_)
 have i20:σ2[0]?=some (some (.ref a)):=(o2 0 (by decide)).trans ((o1 0 (by decide)).trans rfl)
 have S02:=(s1.trans s2).but M
 have hs:=getElem?_eq_getElem hlt
 obtain ⟨vj,hvj,hstj⟩:=hst.get pl.length _ hs
 have hcar:zce lm (S,pl)=zjw lm.steps[pl.length] (S,pl) (lowD lm (S,pl)):=by
  unfold zce
  rw [show lm.steps[((S,pl):Way).2.length]?=some lm.steps[pl.length] from hs]
 have hos:OkSt S.length lm.steps[pl.length]:=by
  have:=(hR.st _ _ hs).1
  have e:=hW.one
  have e:S.length=sz pl.length:=e
  rw [e];exact this
 have hz1:S.length<=500:=by have e:S.length=sz pl.length:=hW.one;rw [e];exact hR.le _
 have hz2:pl.length<=500:=by have:=hR.len;omega
 rw [hcar] at q
 refine zk9 l2 E2 (zgb (zav (zie (zaw E2 rfl) (zhp TL.cl TL.nL i20 (S02 _ _ ga) rfl (.int _)))) fun _=>zav (zsi (ev_maxT (K:=K) (is:=pl.map fun n=>((n:Nat):Int)) ((zbw (ds:=[.lst (zbj S),.tup (pl.map fun n=>D.int (n:Nat))]) (d:=.tup (pl.map fun n=>D.int (n:Nat))) rfl (zaw E2 rfl) zak).eq (by rw [eip])) (zmi zak)) (zhp TL.cl TL.nF i20 (S02 _ _ ga) rfl (.int _)))) (fun e H3 s3 l3 E3=>?_) (fun e H3 s3 l3 E3=>nx ?_)
 ·have S03:=(s1.trans (s2.trans s3)).but M
  refine zh9 (i:=3) l3 E3 (zhp TL.cl TL.nF i20 (S03 _ _ ga) rfl (.int _)) fun σ4 H4 o4 s4 l4 E4=>?_
  have S04:=(s1.trans (s2.trans (s3.trans s4))).but M
  have elo:lowD lm (S,pl)=lm.fresh:=by unfold lowD;rw [if_pos e]
  rw [elo] at q
  exact zes l4 (zsj (zml TL.cl TL.nS ((o4 0 (by decide)).trans i20) (S04 _ _ ga) rfl) (S04 _ _ gs) (zaw E4 rfl) hvj (hstj.mono S04) hW.ok hz1 hz2 hos (zaw E4 rfl) (zaw E4 rfl)) fun v H5 s5 r5=>q v H5 (s1.trans (s2.trans (s3.trans (s4.trans s5)))) r5
 ·have S03:=(s1.trans (s2.trans s3)).but M
  have elo:lowD lm (S,pl)=0:=by unfold lowD;rw [if_neg (by rw [e];exact Bool.false_ne_true)]
  rw [elo] at q
  exact zes l3 (zsj (zml TL.cl TL.nS i20 (S03 _ _ ga) rfl) (S03 _ _ gs) (zaw E3 rfl) hvj (hstj.mono S03) hW.ok hz1 hz2 hos (zaw E3 rfl) (zaw E3 rfl)) fun v H5 s5 r5=>q v H5 (s1.trans (s2.trans (s3.trans s5))) r5
end
end K05
namespace K05
open PySem L2 FL
section
variable {P:Program}{w:World}{K:PySem.W.Frag}{mg:Str->Option Value}{base:Heap}{f:Addr}{fd:FuncData}
theorem sc_ways:zbd ["facts","body","loom","found","unfinished","way"] ["facts","body"] (zam s_ways):=⟨rfl,rfl,rfl,by decide+kernel,rfl,by decide+kernel,by decide+kernel⟩
theorem ok_ways {C CL:Addr}(F:Fun K "ways" "ways" s_ways f fd)(TL:zvb K CL)(B:Bl mg)(C_Loom:HasC P w K mg base 7 CL "Loom" ["self","body"] (spLInit C CL))(M_take_in:HasM P w K mg base 4 CL "take_in" ["self","facts"] (spTake C CL))(M_beginnings:HasM P w K mg base 1 CL "beginnings" ["self"] (spBegin C CL))(M_is_whole:HasM P w K mg base 1 CL "is_whole" ["self","way"] (ztj C CL))(M_carried_on:HasM P w K mg base 4 CL "carried_on" ["self","way"] (zlp C CL)):FnOk P w K mg base CX0 9 f fd ["facts","body"] spWays:=by
 refine F.ok sc_ways (fun vs H Q E ⟨_,_,_,_,_,_,e,_⟩=>by rw [e];rfl) (fun cdv A outer s H vs Q E hr h=>?_)
 obtain ⟨M,facts,as,v0,v1,sz,rfl,lv,r0,r1,hF,hz,hB,hG,hR,hN,q⟩:=h
 have cl_Loom:=TL.cl
 refine ⟨_,(zad (zbe (i:=2) sc_ways.nd rfl (Or.inl rfl) (pe_new C_Loom hr (zab (pv 1) zah)))
   (zad (ziy (zke (pv 2) cl_Loom M_take_in hr (zab (pv 0) zah)))
   (zad (zbe (i:=3) sc_ways.nd rfl (Or.inl rfl) (zdg zah))
   (zad (zbe (i:=4) sc_ways.nd rfl (Or.inl rfl) (pe_mown0 (pv 2) cl_Loom M_beginnings hr))
   (zad (ps_while PassesOwn.never (zvn (pv 4) (fun _=>rfl)) (zad (zbe (i:=5) sc_ways.nd rfl (Or.inl rfl) (pe_bm0 PySem.F.plainAttrs_list PySem.F.slot_list_pop PySem.F.type_list_pop mt_pop (pv 4)))
   (zag (zdl (zcl (zke (pv 2) cl_Loom M_is_whole hr (zab (pv 5) zah))) (zag (zdf (pv 3) (pv 5))) (zag (ziy (pe_bm PySem.F.plainAttrs_list PySem.F.slot_list_extend PySem.F.type_list_extend mt_extend (pv 4) (zab (zke (pv 2) cl_Loom M_carried_on hr (zab (pv 5) zah)) zah))))))))
   (zag (zaz (pv 3)))))))),?_⟩
 have E0:EnvR (but H M) (L2.start ["facts","body","loom","found","unfinished","way"] [v0,v1]) [some (.lst (facts.map D.tup)),some (zgu as),none,none,none,none]:=zci (.dat r0 (.dat r1 .nil)) _
 refine ⟨v1,rfl,fun x dx hx hdx hne=>?_⟩
 have S1:Same H (upd (upd H dx (.own x)) x (.ins CL dx [])):=fun b u e=>by
  rw [zal (zax e hx),zal (zax e hdx)];exact e
 have nx:∀{y:Addr},(upd (upd H dx (.own x)) x (.ins CL dx [])) y=none->H y=none:=fun {y} e=>by
  cases qy:H y with
  |none=>rfl
  |some u=>rw [S1 _ _ qy] at e;cases e
 generalize hH1:upd (upd H dx (.own x)) x (.ins CL dx [])=H1 at S1 nx
 refine ⟨M,as,x,dx,v1,rfl,by rw [<-hH1];exact zae,lv.same S1,r1.mono (S1.but M),hB,hG,fun oss H2 k2 n2 l2 L2'=>⟨rfl,?_⟩⟩
 have S2:Same H H2:=fun b u e=>k2 b u (zax e hx) (S1 _ _ e)
 have SZ:Same (but H M) (but H2 (oss.flatten++x::M)):=fun b u e=>by
  obtain ⟨q1,q2⟩:=zac e
  rw [zat]
  ·exact S2 _ _ q2
  ·intro z
   rcases mem_append.mp z with z|z
   ·obtain ⟨os,ho,hy⟩:=mem_flatten.mp z
    rw [nx (n2 os ho b hy)] at q2;cases q2
   ·rcases mem_cons.mp z with z|z
    ·rw [z,hx] at q2;cases q2
    ·exact q1 z
 have hLI:=id L2'
 obtain ⟨dx2,sl2,us2,ha2,_,_,_,_⟩:=hLI
 have hstL:(zet as).steps.length<=100:=by
  show (stepsD as).length<=100
  unfold stepsD
  rw [zex]
  exact Nat.le_trans (length_filter_le _ _) hB.2
 refine ⟨.ref x,rfl,x,dx2,_,rfl,ha2,rfl,v0,rfl,oss.flatten++x::M,oss,zet as,facts,x,v0,rfl,l2,L2',r0.mono SZ,hF,fun s hs=>?_,hstL,(show 0+facts.length<2^60 by omega),fun oss' H3 n3 k3 l3 L3=>?_⟩
 ·have hs:s∈stepsD as:=hs
  obtain ⟨h1,h2,_⟩:=zjc _ _ _ s hs
  refine ⟨hB.1 _ (mem_filter.mp h1).1,?_⟩
  rw [h2]
  show 0+facts.length<1000
  omega
 have S3:Same H H3:=fun b u e=>k3 b u (zax e hx) (fun os ho z=>by rw [nx (n2 os ho b z)] at e;cases e) (S2 _ _ e)
 have l3M:Live M H3:=lv.same S3
 have hxM:x∉M:=lv.fresh hx
 have hLR:LoomRep C CL (but H3 M) (.ref x) (zfl (zet as) facts):=by
  refine L3.rep (fun y hy=>mem_append_right _ (mem_append_right _ (mem_cons_of_mem _ hy))) hxM fun os ho y hy z=>?_
  have hyH:H y=none:=by
   rcases n3 os ho y hy with ⟨o,ho',hy'⟩|w
   ·exact nx (n2 o ho' y hy')
   ·cases qy:H y with
    |none=>rfl
    |some u=>rw [S2 _ _ qy] at w;cases w
  exact lv y z hyH
 have hstL3:(zfl (zet as) facts).steps.length<=100:=by
  show ((zet as).steps.map _).length<=100
  rw [length_map];exact hstL
 have E3:EnvR (but H3 M) ((L2.start ["facts","body","loom","found","unfinished","way"] [v0,v1]).set 2 (some (.ref x))) [some (.lst (facts.map D.tup)),some (zgu as),none,none,none,none]:=(E0.same S3).off 2 _
 unfold zkr at q
 generalize zfl (zet as) facts=lm at q hR hN hLR hstL3
 clear L3 L2' ha2
 refine zxa (i:=3) l3M E3 (by simp) zaf (Nat.zero_le _) fun bF vF σ4 H4 o4 i4 n4 h4 r4 l4 k4 E4=>?_
 have s34:Same H3 H4:=fun x o e=>(k4 x o e).2
 have HF0:H3 bF=none:=none_of (Same.refl H3) k4
 have HF:H bF=none:=none_of S3 k4
 have hvF:vF=[]:=by cases r4;rfl
 subst hvF
 have i42:σ4[2]?=some (some (.ref x)):=(o4 2 (by decide)).trans rfl
 have SV4:Same (but H3 M) (but H4 (bF::M)):=zfu HF0 s34
 have hLR4:=hLR.mono SV4
 obtain ⟨aL,dxL,slL,usL,eL,gaL,gsL,hstR⟩:=id hLR4
 cases eL
 refine ⟨.ref x,i42,x,dxL,_,rfl,(zac gaL).2,rfl,bF::M,lm,.ref x,rfl,l4,hLR4,hstL3,fun bU vU H5 s5 hU4 h5 r5=>?_⟩
 have neFU:bF≠bU:=fun z=>by rw [<-z,h4] at hU4;cases hU4
 have HU:H bU=none:=zjn (S3.trans s34) hU4
 have S05:Same H H5:=S3.trans (s34.trans s5)
 have S45:Same (but H4 (bF::M)) (but H5 (bU::bF::M)):=zfu hU4 s5
 have SV5:Same (but H3 M) (but H5 (bU::bF::M)):=SV4.trans S45
 have l5:Live (bU::bF::M) H5:=(l4.same s5).cons h5
 have hl4:=E4.len
 have E5:EnvR (but H5 (bU::bF::M)) (σ4.set 4 (some (.ref bU))) [some (.lst (facts.map D.tup)),some (zgu as),none,none,none,none]:=(E4.mono S45).off 4 _
 have i52:(σ4.set 4 (some (.ref bU)))[2]?=some (some (.ref x)):=(getElem?_set_ne (by decide)).trans i42
 have i53:(σ4.set 4 (some (.ref bU)))[3]?=some (some (.ref bF)):=(getElem?_set_ne (by decide)).trans i4
 have i54:(σ4.set 4 (some (.ref bU)))[4]?=some (some (.ref bU)):=getElem?_set_self (by rw [hl4];exact (show 4<6 by decide))
 have h5F:=s5 _ _ h4
 have hb1:zfj lm=[]\/zfj lm=[([],[])]:=by
  unfold zfj
  split
  ·exact .inl rfl
  ·split
   ·exact .inr rfl
   ·exact .inl rfl
 have hrev:(zfj lm).reverse=zfj lm:=by rcases hb1 with z|z<;>rw [z]<;>rfl
 have hm0:0+((zfj lm).map fun w=>zea lm (zcw lm w) w).sum<=zea lm lm.steps.length ([],[]):=by
  rcases hb1 with z|z
  ·rw [z];exact Nat.zero_le _
  ·rw [z]
   show 0+(zea lm (lm.steps.length-0) ([],[])+0)<=_
   rw [Nat.sub_zero];omega
 have hg0:∀w∈zfj lm,GoodW sz lm.steps w:=fun w hw=>by
  rcases hb1 with z|z
  ·rw [z] at hw;cases hw
  ·rw [z] at hw
   rw [mem_singleton.mp hw];exact GoodW.nil hR
 generalize zfj lm=B0 at q r5 hrev hm0 hg0
 refine ⟨fun m σ' X=>∃(found stack:List Way) (uF uU:List V),B0.flatMap (fun w=>zps lm (zcw lm w) w)=found++stack.reverse.flatMap (fun w=>zps lm (zcw lm w) w)/\m=(stack.map fun w=>zea lm (zcw lm w) w).sum/\found.length+m<=zea lm lm.steps.length ([],[])/\(∀w∈stack,GoodW sz lm.steps w)/\σ'[2]?=some (some (.ref x))/\σ'[3]?=some (some (.ref bF))/\σ'[4]?=some (some (.ref bU))/\X bF=some (.lst uF)/\Reps (but X (bU::bF::M)) uF (found.map zfk)/\X bU=some (.lst uU)/\Reps (but X (bU::bF::M)) uU (stack.map zfk)/\Same H X/\Live (bU::bF::M) X/\Same (but H3 M) (but X (bU::bF::M))/\EnvR (but X (bU::bF::M)) σ' [some (.lst (facts.map D.tup)),some (zgu as),none,none,none,none],
  ⟨_,[],B0,[],vU,by rw [hrev];rfl,rfl,hm0,hg0,i52,i53,i54,h5F,.nil,h5,r5,S05,l5,SV5,E5⟩,?_⟩
 rintro m σ' X ⟨found,stack,uF,uU,hrun,rfl,hle,hgood,j2,j3,j4,hXF,rF,hXU,rU,SX,lX,SVX,EX⟩
 refine ⟨.ref bU,j4, !uU.isEmpty,.inl ⟨uU,SqL.of hXU,rfl⟩,?_⟩
 have hst0:stack=[]\/∃st' w,stack=st'++[w]:=by
  rcases List.eq_nil_or_concat stack with z|⟨st',w,z⟩
  ·exact .inl z
  ·exact .inr ⟨st',w,by rw [z,List.concat_eq_append]⟩
 rcases hst0 with rfl|⟨st',w,rfl⟩
 ·have hu:uU=[]:=by cases rU;rfl
  subst hu
  refine Eq.mpr (if_neg (c:=(!([]:List V).isEmpty)=true) (by simp)) ?_
  have hrun:B0.flatMap (fun w=>zps lm (zcw lm w) w)=found++[]:=hrun
  rw [append_nil] at hrun
  rw [hrun] at q
  refine ⟨.ref bF,j3,q (.ref bF) X SX (zep (fun z=>n4 z) hXF (rF.mono (zcj fun z hz=>mem_cons_of_mem _ hz)))⟩
 ·have hl2:=rU.length
  rw [length_map,length_append,length_singleton] at hl2
  have hw:=hgood w (mem_append_right _ (mem_singleton.mpr rfl))
  have hlastD:(((st'++[w]).map zfk))[uU.length-1]?=some (zfk w):=by
   rw [hl2,Nat.add_sub_cancel,getElem?_map,getElem?_append_right (Nat.le_refl _),Nat.sub_self]
   rfl
  obtain ⟨u,hu,ru⟩:=rU.get hlastD
  have hne:(!uU.isEmpty)=true:=by
   cases uU with
   |nil=>simp at hl2
   |cons _ _=>rfl
  refine Eq.mpr (if_pos (c:=(!uU.isEmpty)=true) hne) ?_
  rw [map_append,List.sum_append,List.map_singleton,List.sum_singleton] at hle⊢
  refine ⟨fun σ'' X''=>∃m',m'<(st'.map fun w=>zea lm (zcw lm w) w).sum+zea lm (zcw lm w) w/\∃(found stack:List Way) (uF uU:List V),B0.flatMap (fun w=>zps lm (zcw lm w) w)=found++stack.reverse.flatMap (fun w=>zps lm (zcw lm w) w)/\m'=(stack.map fun w=>zea lm (zcw lm w) w).sum/\found.length+m'<=zea lm lm.steps.length ([],[])/\(∀w∈stack,GoodW sz lm.steps w)/\σ''[2]?=some (some (.ref x))/\σ''[3]?=some (some (.ref bF))/\σ''[4]?=some (some (.ref bU))/\X'' bF=some (.lst uF)/\Reps (but X'' (bU::bF::M)) uF (found.map zfk)/\X'' bU=some (.lst uU)/\Reps (but X'' (bU::bF::M)) uU (stack.map zfk)/\Same H X''/\Live (bU::bF::M) X''/\Same (but H3 M) (but X'' (bU::bF::M))/\EnvR (but X'' (bU::bF::M)) σ'' [some (.lst (facts.map D.tup)),some (zgu as),none,none,none,none],fun σ'' X'' h=>h,?_⟩
  refine ⟨.ref bU,j4,(show tyV K "list" (.ref bU) _ from .inl ⟨rfl,uU,SqL.of hXU⟩),bU,uU,u,rfl,rfl,hXU,hu,?_⟩
  have eb:but (upd X bU (.lst uU.dropLast)) (bU::bF::M)=but X (bU::bF::M):=zcy mem_cons_self
  have rU':Reps (but (upd X bU (.lst uU.dropLast)) (bU::bF::M)) uU.dropLast (st'.map zfk):=by
   rw [eb]
   have h1:=rU.take st'.length
   rw [map_append,List.take_append_of_le_length (by rw [length_map];exact Nat.le_refl _),take_of_length_le (l:=List.map zfk st') (by rw [length_map];exact Nat.le_refl _)] at h1
   have h2:uU.dropLast=uU.take st'.length:=by rw [List.dropLast_eq_take,hl2,Nat.add_sub_cancel]
   rw [h2];exact h1
  have Ea:EnvR (but (upd X bU (.lst uU.dropLast)) (bU::bF::M)) (σ'.set 5 (some u)) [some (.lst (facts.map D.tup)),some (zgu as),none,none,none,some (zfk w)]:=by rw [eb];exact EX.set 5 ru
  have la:Live (bU::bF::M) (upd X bU (.lst uU.dropLast)):=lX.upd
  have SHa:Same H (upd X bU (.lst uU.dropLast)):=zcs SX HU fun b o hb e=>by rw [zal hb];exact e
  have SVa:Same (but H3 M) (but (upd X bU (.lst uU.dropLast)) (bU::bF::M)):=by rw [eb];exact SVX
  have hXFa:(upd X bU (.lst uU.dropLast)) bF=some (.lst uF):=by rw [zal neFU];exact hXF
  have hXUa:(upd X bU (.lst uU.dropLast)) bU=some (.lst uU.dropLast):=zae
  have rFa:Reps (but (upd X bU (.lst uU.dropLast)) (bU::bF::M)) uF (found.map zfk):=by rw [eb];exact rF
  have b2:(σ'.set 5 (some u))[2]?=some (some (.ref x)):=(getElem?_set_ne (by decide)).trans j2
  have b3:(σ'.set 5 (some u))[3]?=some (some (.ref bF)):=(getElem?_set_ne (by decide)).trans j3
  have b4:(σ'.set 5 (some u))[4]?=some (some (.ref bU)):=(getElem?_set_ne (by decide)).trans j4
  clear eb rU ru
  generalize upd X bU (.lst uU.dropLast)=Xa at rU' Ea la SHa SVa hXFa hXUa rFa
  generalize uU.dropLast=uV at rU' hXUa
  have hrun2:B0.flatMap (fun w=>zps lm (zcw lm w) w)=found++(zps lm (zcw lm w) w++st'.reverse.flatMap fun w=>zps lm (zcw lm w) w):=by
   rw [hrun,List.reverse_append,flatMap_append]
   simp
  have hNS:∀n,n<=zea lm lm.steps.length ([],[])->n<sizeLine:=fun n h=>Nat.lt_of_le_of_lt h hN
  have hsum:=zth lm st'
  have hpos:=znw lm (zcw lm w) w
  refine zk9 la Ea (evt_whole b2 (hLR.mono SVa) (zaw Ea rfl)) (fun e Xc sc lc Ec=>?_) (fun e Xc sc lc Ec=>?_)
  ·have e:=of_decide_eq_true e
   have hd0:zps lm (zcw lm w) w=[w]:=by
    have:zcw lm w=0:=by unfold zcw;omega
    rw [this];rfl
   refine zxb lc Ec (a:=bF) (by simp) b3 (sc _ _ hXFa) (rFa.mono (sc.but _)) (by rw [length_map];exact hNS _ (by omega)) (zaw Ec rfl) fun vd Xd kd ld hd rd Ed=>?_
   have Sd:Same (but Xc (bU::bF::M)) (but Xd (bU::bF::M)):=zfg (by simp) kd
   refine ⟨_,Nat.lt_add_of_pos_right hpos,found++[w],st',_,uV,?_,rfl,?_,fun x hx=>hgood x (mem_append_left _ hx),b2,b3,b4,hd,?_,kd _ _ (Ne.symm neFU) (sc _ _ hXUa),rU'.mono ((sc.but _).trans Sd),zcs (SHa.trans sc) HF kd,ld,SVa.trans ((sc.but _).trans Sd),Ed.drop 5⟩
   ·rw [hrun2,hd0,append_assoc]
   ·rw [length_append,length_singleton];omega
   ·rw [map_append];exact rd
  ·have e:=of_decide_eq_false e
   have hwl:=hw.two
   have hlt:w.2.length<lm.steps.length:=by omega
   have hcg:=zso hR hw
   have hnst:=zua hlt
   have hfst:=folW_step hlt
   have SVc:=SVa.trans (sc.but (bU::bF::M))
   have hcs:=zth lm (zce lm w)
   refine ⟨.ref bU,b4,(show tyV K "list" (.ref bU) _ from .inl ⟨rfl,uV,SqL.of (sc _ _ hXUa)⟩),zxy b2 (hLR.mono SVc) hR hw hlt (zaw Ec rfl) (bU::bF::M) Xc (Same.refl _) lc _ fun v Xd sd rv=>?_⟩
   obtain ⟨bc,zs,rfl,hbc,rzs⟩:=rv.of_lst
   have hzl:=rzs.length
   rw [length_map] at hzl
   have hvl:=rU'.length
   rw [length_map] at hvl
   refine ⟨bU,bc,uV,zs,rfl,rfl,sd _ _ (sc _ _ hXUa),(zac hbc).2,Nat.le_of_lt (hNS _ (by omega)),?_⟩
   have ebd:but (upd Xd bU (.lst (uV++zs))) (bU::bF::M)=but Xd (bU::bF::M):=zcy mem_cons_self
   refine ⟨((st'++zce lm w).map fun w=>zea lm (zcw lm w) w).sum,?_,found,st'++zce lm w,uF,uV++zs,?_,rfl,?_,fun x hx=>?_,b2,b3,b4,?_,?_,zae,?_,zcs (SHa.trans (sc.trans sd)) HU (fun b o hb e=>by rw [zal hb];exact e),(lc.same sd).upd,?_,?_⟩
   ·rw [map_append,List.sum_append,hnst];omega
   ·rw [hrun2,hfst,List.reverse_append,flatMap_append]
   ·rw [map_append,List.sum_append];omega
   ·rcases mem_append.mp hx with z|z
    ·exact hgood x (mem_append_left _ z)
    ·exact hcg x z
   ·rw [zal neFU];exact sd _ _ (sc _ _ hXFa)
   ·rw [ebd];exact rFa.mono ((sc.trans sd).but _)
   ·rw [ebd,map_append];exact (rU'.mono ((sc.trans sd).but _)).append rzs
   ·rw [ebd];exact SVc.trans (sd.but _)
   ·rw [ebd];exact (Ec.same sd).drop 5
end
end K05
namespace FL
open PySem L2
section
variable {P:Program}{w:World}{K:PySem.W.Frag}{mg:Str->Option Value}{base h:Heap}{x q:Str}{st:Stmt}{f C:Addr}{fd:FuncData}{oc kV dc pm cd ct:Value}{od an:Option Addr}{sl:Array (Option Value)}{n:Nat}{ps:List Str}{sp:Sp}{p1 p2 p3 p4 p5:Str}
theorem fn_at (X:K.In h)(G:h.Ns mainGlobals mg)(a:PySem.W.nsIn K mainGlobals x=some (some (.ref f)))(l:K.lookup f=some ⟨oc,od,.func (PySem.W.fnOf x x (zdj st) (zcr st) (zam st) .none kV dc pm an cd ct),sl⟩)(c:PySem.W.codeIn K cd x=true)(k:PySem.W.keepIn K (.ref f)=true):∃f d,Fun K x x st f d/\mg x=some (.ref f):=⟨f,_,fun_mk l c k,PySem.W.mg_of X G a⟩
theorem zpl (a:PySem.W.findIn K (.ref C) x=some (some (.ref f)))(i:PySem.W.isFn K (.ref f)=true)(l:K.lookup f=some ⟨oc,od,.func (PySem.W.fnOf x q (zdj st) (zcr st) (zam st) .none kV dc pm an cd ct),sl⟩)(c:PySem.W.codeIn K cd q=true)(k:PySem.W.keepIn K (.ref f)=true):∃f d,Fun K x q st f d/\zle K C x f:=⟨f,_,fun_mk l c k,⟨a,i,k⟩⟩
theorem ca_at (X:K.In h)(G:h.Ns mainGlobals mg)(n:PySem.W.nsIn K mainGlobals x=some (some (.ref C)))(pg:PySem.W.plainGet K C Str.empty=true)(hd:PySem.W.hasDictIn K C=true)(po:PySem.W.plainOver K C=true)(sa:PySem.W.findIn K (.ref C) "__setattr__"=some (some (.builtin "object.__setattr__")))(mk:PySem.W.makesIn K C=true)(kc:PySem.W.keepIn K (.ref C)=true):mg x=some (.ref C)/\Cls K C/\PySem.W.makesIn K C=true/\PySem.W.keepIn K (.ref C)=true:=⟨PySem.W.mg_of X G n,⟨pg,hd,po,sa⟩,mk,kc⟩
theorem Has.of (h:FnOk P w K mg base CX0 n f fd ps sp)(b:Binds K fd ps [])(k:PySem.W.keepIn K (.ref f)=true)(m:mg x=some (.ref f)):Has P w K mg base n x ps sp:=⟨⟨f,fd,h,b,k,m⟩⟩
theorem HasM.of (h:FnOk P w K mg base CX0 n f fd ps sp)(b:Binds K fd ps [])(m:zle K C x f):HasM P w K mg base n C x ps sp:=⟨⟨f,fd,h,b,m⟩⟩
theorem HasC.of (h:FnOk P w K mg base CX0 n f fd ps sp)(b:Binds K fd ps [])(m:zle K C "__init__" f)(c:mg x=some (.ref C)/\Cls K C/\PySem.W.makesIn K C=true/\PySem.W.keepIn K (.ref C)=true):HasC P w K mg base n C x ps sp:=⟨⟨f,fd,h,b,⟨c.2.2.1,m.at_,m.fn,c.2.2.2⟩,c.1⟩⟩
theorem b1 (F:Fun K x q st f fd)(h:∀(kV doc pm:Value) (an:Option Addr) (cdv ct a:Value),bindArgs (PySem.W.fnOf x q (zdj st) (zcr st) (zam st) .none kV doc pm an cdv ct) ⟨[a],[]⟩=pure [(p1,a)]):Binds K fd [p1] []:=F.binds fun kV dc pm an cd ct us hl=>match us,hl with|[a],_=>h kV dc pm an cd ct a
theorem b2 (F:Fun K x q st f fd)(h:∀(kV doc pm:Value) (an:Option Addr) (cdv ct a b:Value),bindArgs (PySem.W.fnOf x q (zdj st) (zcr st) (zam st) .none kV doc pm an cdv ct) ⟨[a,b],[]⟩=pure [(p1,a),(p2,b)]):Binds K fd [p1,p2] []:=F.binds fun kV dc pm an cd ct us hl=>match us,hl with|[a,b],_=>h kV dc pm an cd ct a b
theorem b3 (F:Fun K x q st f fd)(h:∀(kV doc pm:Value) (an:Option Addr) (cdv ct a b c:Value),bindArgs (PySem.W.fnOf x q (zdj st) (zcr st) (zam st) .none kV doc pm an cdv ct) ⟨[a,b,c],[]⟩=pure [(p1,a),(p2,b),(p3,c)]):Binds K fd [p1,p2,p3] []:=F.binds fun kV dc pm an cd ct us hl=>match us,hl with|[a,b,c],_=>h kV dc pm an cd ct a b c
theorem b4 (F:Fun K x q st f fd)(h:∀(kV doc pm:Value) (an:Option Addr) (cdv ct a b c d:Value),bindArgs (PySem.W.fnOf x q (zdj st) (zcr st) (zam st) .none kV doc pm an cdv ct) ⟨[a,b,c,d],[]⟩=pure [(p1,a),(p2,b),(p3,c),(p4,d)]):Binds K fd [p1,p2,p3,p4] []:=F.binds fun kV dc pm an cd ct us hl=>match us,hl with|[a,b,c,d],_=>h kV dc pm an cd ct a b c d
end
end FL
namespace K05
open PySem L2 FL
theorem ct_LESS {K:PySem.W.Frag}{h:Heap}{mg:Str->Option Value}{t:Tok}(X:K.In h)(G:h.Ns mainGlobals mg)(u:PySem.W.nsIn K mainGlobals "LESS"=some (some (.str "less" t))):∃t,mg "LESS"=some (.str "less" t):=⟨t,PySem.W.mg_of X G u⟩
theorem ct_UNLIKE {K:PySem.W.Frag}{h:Heap}{mg:Str->Option Value}{t:Tok}(X:K.In h)(G:h.Ns mainGlobals mg)(u:PySem.W.nsIn K mainGlobals "UNLIKE"=some (some (.str "unlike" t))):∃t,mg "UNLIKE"=some (.str "unlike" t):=⟨t,PySem.W.mg_of X G u⟩
theorem nn_max {K:PySem.W.Frag}{h:Heap}{mg:Str->Option Value}(X:K.In h)(G:h.Ns mainGlobals mg)(z:PySem.W.nsIn K mainGlobals "max"=some none):mg "max"=none:=PySem.W.mg_none_of X G z
section
variable {l:PySem.W.OpenLaw}{w:World}{K:PySem.W.Frag}{h base:Heap}{mg:Str->Option Value}{A_Step A_Loom f_is_blank f_filled f_matched f_is_guard f_blanks_in f_holds f_askers_in f_guards_in f_slots_of f_is_ready f_steps_for f_ways f_law_at f_law_whole f_law_is_fact f_law_mixed f_law_blanks_in f_law_same_facts f_law_stands_ahead f_law_fill_in f_law_true f_law_are_pairs f_law_way_kinds f_law_choices f_law_body_by f_law_a_way f_Step_init f_Step_offer f_Step_allows f_Step_carry_on f_Loom_init f_Loom_take_in f_Loom_beginnings f_Loom_is_whole f_Loom_carried_on:Addr}{d_is_blank d_filled d_matched d_is_guard d_blanks_in d_holds d_askers_in d_guards_in d_slots_of d_is_ready d_steps_for d_ways d_law_at d_law_whole d_law_is_fact d_law_mixed d_law_blanks_in d_law_same_facts d_law_stands_ahead d_law_fill_in d_law_true d_law_are_pairs d_law_way_kinds d_law_choices d_law_body_by d_law_a_way d_Step_init d_Step_offer d_Step_allows d_Step_carry_on d_Loom_init d_Loom_take_in d_Loom_beginnings d_Loom_is_whole d_Loom_carried_on fd:FuncData}{fa:Addr}{t_LESS t_UNLIKE:Tok}
theorem all_mk (B:Bl mg)(F_law:Fun K "law" "law" zts fa fd)
 (F_is_blank:Fun K "is_blank" "is_blank" s_is_blank f_is_blank d_is_blank/\mg "is_blank"=some (.ref f_is_blank))
 (F_filled:Fun K "filled" "filled" s_filled f_filled d_filled/\mg "filled"=some (.ref f_filled))
 (F_matched:Fun K "matched" "matched" s_matched f_matched d_matched/\mg "matched"=some (.ref f_matched))
 (F_is_guard:Fun K "is_guard" "is_guard" s_is_guard f_is_guard d_is_guard/\mg "is_guard"=some (.ref f_is_guard))
 (F_blanks_in:Fun K "blanks_in" "blanks_in" s_blanks_in f_blanks_in d_blanks_in/\mg "blanks_in"=some (.ref f_blanks_in))
 (F_holds:Fun K "holds" "holds" s_holds f_holds d_holds/\mg "holds"=some (.ref f_holds))
 (F_askers_in:Fun K "askers_in" "askers_in" s_askers_in f_askers_in d_askers_in/\mg "askers_in"=some (.ref f_askers_in))
 (F_guards_in:Fun K "guards_in" "guards_in" s_guards_in f_guards_in d_guards_in/\mg "guards_in"=some (.ref f_guards_in))
 (F_slots_of:Fun K "slots_of" "slots_of" s_slots_of f_slots_of d_slots_of/\mg "slots_of"=some (.ref f_slots_of))
 (F_is_ready:Fun K "is_ready" "is_ready" s_is_ready f_is_ready d_is_ready/\mg "is_ready"=some (.ref f_is_ready))
 (F_steps_for:Fun K "steps_for" "steps_for" s_steps_for f_steps_for d_steps_for/\mg "steps_for"=some (.ref f_steps_for))
 (F_ways:Fun K "ways" "ways" s_ways f_ways d_ways/\mg "ways"=some (.ref f_ways))
 (F_law_at:Fun K "_law_at" "_law_at" s_law_at f_law_at d_law_at/\mg "_law_at"=some (.ref f_law_at))
 (F_law_whole:Fun K "_law_whole" "_law_whole" s_law_whole f_law_whole d_law_whole/\mg "_law_whole"=some (.ref f_law_whole))
 (F_law_is_fact:Fun K "_law_is_fact" "_law_is_fact" s_law_is_fact f_law_is_fact d_law_is_fact/\mg "_law_is_fact"=some (.ref f_law_is_fact))
 (F_law_mixed:Fun K "_law_mixed" "_law_mixed" s_law_mixed f_law_mixed d_law_mixed/\mg "_law_mixed"=some (.ref f_law_mixed))
 (F_law_blanks_in:Fun K "_law_blanks_in" "_law_blanks_in" s_law_blanks_in f_law_blanks_in d_law_blanks_in/\mg "_law_blanks_in"=some (.ref f_law_blanks_in))
 (F_law_same_facts:Fun K "_law_same_facts" "_law_same_facts" s_law_same_facts f_law_same_facts d_law_same_facts/\mg "_law_same_facts"=some (.ref f_law_same_facts))
 (F_law_stands_ahead:Fun K "_law_stands_ahead" "_law_stands_ahead" s_law_stands_ahead f_law_stands_ahead d_law_stands_ahead/\mg "_law_stands_ahead"=some (.ref f_law_stands_ahead))
 (F_law_fill_in:Fun K "_law_fill_in" "_law_fill_in" s_law_fill_in f_law_fill_in d_law_fill_in/\mg "_law_fill_in"=some (.ref f_law_fill_in))
 (F_law_true:Fun K "_law_true" "_law_true" s_law_true f_law_true d_law_true/\mg "_law_true"=some (.ref f_law_true))
 (F_law_are_pairs:Fun K "_law_are_pairs" "_law_are_pairs" s_law_are_pairs f_law_are_pairs d_law_are_pairs/\mg "_law_are_pairs"=some (.ref f_law_are_pairs))
 (F_law_way_kinds:Fun K "_law_way_kinds" "_law_way_kinds" s_law_way_kinds f_law_way_kinds d_law_way_kinds/\mg "_law_way_kinds"=some (.ref f_law_way_kinds))
 (F_law_choices:Fun K "_law_choices" "_law_choices" s_law_choices f_law_choices d_law_choices/\mg "_law_choices"=some (.ref f_law_choices))
 (F_law_body_by:Fun K "_law_body_by" "_law_body_by" s_law_body_by f_law_body_by d_law_body_by/\mg "_law_body_by"=some (.ref f_law_body_by))
 (F_law_a_way:Fun K "_law_a_way" "_law_a_way" s_law_a_way f_law_a_way d_law_a_way/\mg "_law_a_way"=some (.ref f_law_a_way))
 (F_Step_init:Fun K "__init__" "Step.__init__" zee f_Step_init d_Step_init/\zle K A_Step "__init__" f_Step_init)
 (F_Step_offer:Fun K "offer" "Step.offer" zdt f_Step_offer d_Step_offer/\zle K A_Step "offer" f_Step_offer)
 (F_Step_allows:Fun K "allows" "Step.allows" zdm f_Step_allows d_Step_allows/\zle K A_Step "allows" f_Step_allows)
 (F_Step_carry_on:Fun K "carry_on" "Step.carry_on" zcm f_Step_carry_on d_Step_carry_on/\zle K A_Step "carry_on" f_Step_carry_on)
 (F_Loom_init:Fun K "__init__" "Loom.__init__" zef f_Loom_init d_Loom_init/\zle K A_Loom "__init__" f_Loom_init)
 (F_Loom_take_in:Fun K "take_in" "Loom.take_in" zcv f_Loom_take_in d_Loom_take_in/\zle K A_Loom "take_in" f_Loom_take_in)
 (F_Loom_beginnings:Fun K "beginnings" "Loom.beginnings" zcc f_Loom_beginnings d_Loom_beginnings/\zle K A_Loom "beginnings" f_Loom_beginnings)
 (F_Loom_is_whole:Fun K "is_whole" "Loom.is_whole" zcn f_Loom_is_whole d_Loom_is_whole/\zle K A_Loom "is_whole" f_Loom_is_whole)
 (F_Loom_carried_on:Fun K "carried_on" "Loom.carried_on" zcb f_Loom_carried_on d_Loom_carried_on/\zle K A_Loom "carried_on" f_Loom_carried_on)
 (c_Step:mg "Step"=some (.ref A_Step)/\Cls K A_Step/\PySem.W.makesIn K A_Step=true/\PySem.W.keepIn K (.ref A_Step)=true) (T_asker:NoAttr K A_Step "asker") (T_shared:NoAttr K A_Step "shared") (T_guards:NoAttr K A_Step "guards") (T_offers:NoAttr K A_Step "offers") (T_newest:NoAttr K A_Step "newest")
 (c_Loom:mg "Loom"=some (.ref A_Loom)/\Cls K A_Loom/\PySem.W.makesIn K A_Loom=true/\PySem.W.keepIn K (.ref A_Loom)=true) (TL_steps:NoAttr K A_Loom "steps") (TL_is_barred:NoAttr K A_Loom "is_barred") (TL_taken_in:NoAttr K A_Loom "taken_in") (TL_fresh:NoAttr K A_Loom "fresh") (TL_last_fresh_step:NoAttr K A_Loom "last_fresh_step")
 (c_LESS:mg "LESS"=some (.str "less" t_LESS))
 (c_UNLIKE:mg "UNLIKE"=some (.str "unlike" t_UNLIKE))
 (B_max:mg "max"=none)
 :FnOk l.prog w K mg base CX0 10 fa fd ["_law_script"] (spLaw K):=by
 have T:ztb K A_Step:=⟨c_Step.2.1,T_asker,T_shared,T_guards,T_offers,T_newest⟩
 have TL:zvb K A_Loom:=⟨c_Loom.2.1,TL_steps,TL_is_barred,TL_taken_in,TL_fresh,TL_last_fresh_step⟩
 have c_LESS:=And.intro c_LESS (show RelV (.str "less") (.str "less" t_LESS) from ⟨_,rfl⟩)
 have c_UNLIKE:=And.intro c_UNLIKE (show RelV (.str "unlike") (.str "unlike" t_UNLIKE) from ⟨_,rfl⟩)
 have G_is_blank:Has l.prog w K mg base _ "is_blank" _ _:=.of (zu9 F_is_blank.1 B) (b1 F_is_blank.1 fun _ _ _ _ _ _ _=>rfl) F_is_blank.1.kp F_is_blank.2
 have G_filled:Has l.prog w K mg base _ "filled" _ _:=.of (ok_filled F_filled.1 B) (b2 F_filled.1 fun _ _ _ _ _ _ _ _=>rfl) F_filled.1.kp F_filled.2
 have G_matched:Has l.prog w K mg base _ "matched" _ _:=.of (zxe F_matched.1 B G_is_blank) (b3 F_matched.1 fun _ _ _ _ _ _ _ _ _=>rfl) F_matched.1.kp F_matched.2
 have G_is_guard:Has l.prog w K mg base _ "is_guard" _ _:=.of (ztz F_is_guard.1 B c_LESS c_UNLIKE) (b1 F_is_guard.1 fun _ _ _ _ _ _ _=>rfl) F_is_guard.1.kp F_is_guard.2
 have G_blanks_in:Has l.prog w K mg base _ "blanks_in" _ _:=.of (zrr F_blanks_in.1 B G_is_blank) (b1 F_blanks_in.1 fun _ _ _ _ _ _ _=>rfl) F_blanks_in.1.kp F_blanks_in.2
 have G_holds:Has l.prog w K mg base _ "holds" _ _:=.of (ok_holds F_holds.1 B c_UNLIKE) (b1 F_holds.1 fun _ _ _ _ _ _ _=>rfl) F_holds.1.kp F_holds.2
 have G_askers_in:Has l.prog w K mg base _ "askers_in" _ _:=.of (zrs F_askers_in.1 B G_is_guard) (b1 F_askers_in.1 fun _ _ _ _ _ _ _=>rfl) F_askers_in.1.kp F_askers_in.2
 have G_guards_in:Has l.prog w K mg base _ "guards_in" _ _:=.of (zrq F_guards_in.1 B G_is_guard) (b1 F_guards_in.1 fun _ _ _ _ _ _ _=>rfl) F_guards_in.1.kp F_guards_in.2
 have G_slots_of:Has l.prog w K mg base _ "slots_of" _ _:=.of (ztw F_slots_of.1 B G_blanks_in) (b2 F_slots_of.1 fun _ _ _ _ _ _ _ _=>rfl) F_slots_of.1.kp F_slots_of.2
 have G_is_ready:Has l.prog w K mg base _ "is_ready" _ _:=.of (zty F_is_ready.1 B G_blanks_in G_slots_of) (b2 F_is_ready.1 fun _ _ _ _ _ _ _ _=>rfl) F_is_ready.1.kp F_is_ready.2
 have C_Step:HasC l.prog w K mg base _ A_Step "Step" _ _:=.of (zrt F_Step_init.1 T (C:=A_Step)) (b4 F_Step_init.1 fun _ _ _ _ _ _ _ _ _ _=>rfl) F_Step_init.2 c_Step
 have M_offer:HasM l.prog w K mg base _ A_Step "offer" _ _:=.of (zpf F_Step_offer.1 T B G_matched (C:=A_Step)) (b3 F_Step_offer.1 fun _ _ _ _ _ _ _ _ _=>rfl) F_Step_offer.2
 have M_allows:HasM l.prog w K mg base _ A_Step "allows" _ _:=.of (zng F_Step_allows.1 T B G_filled G_holds (C:=A_Step)) (b2 F_Step_allows.1 fun _ _ _ _ _ _ _ _=>rfl) F_Step_allows.2
 have M_carry_on:HasM l.prog w K mg base _ A_Step "carry_on" _ _:=.of (zky F_Step_carry_on.1 T B M_allows (C:=A_Step)) (b3 F_Step_carry_on.1 fun _ _ _ _ _ _ _ _ _=>rfl) F_Step_carry_on.2
 have G_steps_for:Has l.prog w K mg base _ "steps_for" _ _:=.of (zrm F_steps_for.1 B G_guards_in G_askers_in G_blanks_in G_slots_of G_is_ready C_Step (C:=A_Step)) (b1 F_steps_for.1 fun _ _ _ _ _ _ _=>rfl) F_steps_for.1.kp F_steps_for.2
 have C_Loom:HasC l.prog w K mg base _ A_Loom "Loom" _ _:=.of (zru F_Loom_init.1 TL B G_guards_in G_blanks_in G_holds G_steps_for (C:=A_Step) (CL:=A_Loom)) (b2 F_Loom_init.1 fun _ _ _ _ _ _ _ _=>rfl) F_Loom_init.2 c_Loom
 have M_take_in:HasM l.prog w K mg base _ A_Loom "take_in" _ _:=.of (zlv F_Loom_take_in.1 T TL B B_max M_offer (C:=A_Step) (CL:=A_Loom)) (b2 F_Loom_take_in.1 fun _ _ _ _ _ _ _ _=>rfl) F_Loom_take_in.2
 have M_beginnings:HasM l.prog w K mg base _ A_Loom "beginnings" _ _:=.of (zjm F_Loom_beginnings.1 T TL B (C:=A_Step) (CL:=A_Loom)) (b1 F_Loom_beginnings.1 fun _ _ _ _ _ _ _=>rfl) F_Loom_beginnings.2
 have M_is_whole:HasM l.prog w K mg base _ A_Loom "is_whole" _ _:=.of (zkz F_Loom_is_whole.1 TL B (C:=A_Step) (CL:=A_Loom)) (b2 F_Loom_is_whole.1 fun _ _ _ _ _ _ _ _=>rfl) F_Loom_is_whole.2
 have M_carried_on:HasM l.prog w K mg base _ A_Loom "carried_on" _ _:=.of (zjl F_Loom_carried_on.1 T TL B B_max M_carry_on (C:=A_Step) (CL:=A_Loom)) (b2 F_Loom_carried_on.1 fun _ _ _ _ _ _ _ _=>rfl) F_Loom_carried_on.2
 have G_ways:Has l.prog w K mg base _ "ways" _ _:=.of (ok_ways F_ways.1 TL B C_Loom M_take_in M_beginnings M_is_whole M_carried_on (C:=A_Step) (CL:=A_Loom)) (b2 F_ways.1 fun _ _ _ _ _ _ _ _=>rfl) F_ways.1.kp F_ways.2
 have G_law_at:Has l.prog w K mg base _ "_law_at" _ _:=.of (ok_law_at F_law_at.1 B) (b2 F_law_at.1 fun _ _ _ _ _ _ _ _=>rfl) F_law_at.1.kp F_law_at.2
 have G_law_whole:Has l.prog w K mg base _ "_law_whole" _ _:=.of (zrn F_law_whole.1 B) (b1 F_law_whole.1 fun _ _ _ _ _ _ _=>rfl) F_law_whole.1.kp F_law_whole.2
 have G_law_is_fact:Has l.prog w K mg base _ "_law_is_fact" _ _:=.of (znc F_law_is_fact.1 B G_law_whole) (b1 F_law_is_fact.1 fun _ _ _ _ _ _ _=>rfl) F_law_is_fact.1.kp F_law_is_fact.2
 have G_law_mixed:Has l.prog w K mg base _ "_law_mixed" _ _:=.of (zro F_law_mixed.1 B) (b1 F_law_mixed.1 fun _ _ _ _ _ _ _=>rfl) F_law_mixed.1.kp F_law_mixed.2
 have G_law_blanks_in:Has l.prog w K mg base _ "_law_blanks_in" _ _:=.of (zkw F_law_blanks_in.1 B) (b1 F_law_blanks_in.1 fun _ _ _ _ _ _ _=>rfl) F_law_blanks_in.1.kp F_law_blanks_in.2
 have G_law_same_facts:Has l.prog w K mg base _ "_law_same_facts" _ _:=.of (zkf F_law_same_facts.1 B G_law_is_fact) (b2 F_law_same_facts.1 fun _ _ _ _ _ _ _ _=>rfl) F_law_same_facts.1.kp F_law_same_facts.2
 have G_law_stands_ahead:Has l.prog w K mg base _ "_law_stands_ahead" _ _:=.of (ziz F_law_stands_ahead.1 B) (b2 F_law_stands_ahead.1 fun _ _ _ _ _ _ _ _=>rfl) F_law_stands_ahead.1.kp F_law_stands_ahead.2
 have G_law_fill_in:Has l.prog w K mg base _ "_law_fill_in" _ _:=.of (znd F_law_fill_in.1 B) (b2 F_law_fill_in.1 fun _ _ _ _ _ _ _ _=>rfl) F_law_fill_in.1.kp F_law_fill_in.2
 have G_law_true:Has l.prog w K mg base _ "_law_true" _ _:=.of (ztx F_law_true.1 B G_law_whole) (b2 F_law_true.1 fun _ _ _ _ _ _ _ _=>rfl) F_law_true.1.kp F_law_true.2
 have G_law_are_pairs:Has l.prog w K mg base _ "_law_are_pairs" _ _:=.of (zkx F_law_are_pairs.1 B G_law_whole) (b1 F_law_are_pairs.1 fun _ _ _ _ _ _ _=>rfl) F_law_are_pairs.1.kp F_law_are_pairs.2
 have G_law_way_kinds:Has l.prog w K mg base _ "_law_way_kinds" _ _:=.of (zkv F_law_way_kinds.1 B G_law_whole G_law_are_pairs) (b3 F_law_way_kinds.1 fun _ _ _ _ _ _ _ _ _=>rfl) F_law_way_kinds.1.kp F_law_way_kinds.2
 have G_law_choices:Has l.prog w K mg base _ "_law_choices" _ _:=.of (zne F_law_choices.1 B) (b2 F_law_choices.1 fun _ _ _ _ _ _ _ _=>rfl) F_law_choices.1.kp F_law_choices.2
 have G_law_body_by:Has l.prog w K mg base _ "_law_body_by" _ _:=.of (znf F_law_body_by.1 B G_law_blanks_in) (b2 F_law_body_by.1 fun _ _ _ _ _ _ _ _=>rfl) F_law_body_by.1.kp F_law_body_by.2
 have G_law_a_way:Has l.prog w K mg base _ "_law_a_way" _ _:=.of (zrp F_law_a_way.1 B G_law_blanks_in G_law_fill_in G_law_true) (b3 F_law_a_way.1 fun _ _ _ _ _ _ _ _ _=>rfl) F_law_a_way.1.kp F_law_a_way.2
 exact ok_law F_law B G_law_at G_law_mixed G_law_body_by G_ways G_law_same_facts G_law_way_kinds G_law_a_way G_law_stands_ahead G_law_choices G_law_blanks_in G_law_true G_law_fill_in
end
theorem cl_Step {K:PySem.W.Frag}{h:Heap}{mg:Str->Option Value}(X:K.In h)(G:h.Ns mainGlobals mg){C:Addr}{f0:Addr}{oc0 kV0 dc0 pm0 cd0 ct0:Value}{od0 an0:Option Addr}{sl0:Array (Option Value)}{f1:Addr}{oc1 kV1 dc1 pm1 cd1 ct1:Value}{od1 an1:Option Addr}{sl1:Array (Option Value)}{f2:Addr}{oc2 kV2 dc2 pm2 cd2 ct2:Value}{od2 an2:Option Addr}{sl2:Array (Option Value)}{f3:Addr}{oc3 kV3 dc3 pm3 cd3 ct3:Value}{od3 an3:Option Addr}{sl3:Array (Option Value)}
 (n:PySem.W.nsIn K mainGlobals "Step"=some (some (.ref C))) (pg:PySem.W.plainGet K C Str.empty=true) (hd:PySem.W.hasDictIn K C=true) (po:PySem.W.plainOver K C=true) (sa:PySem.W.findIn K (.ref C) "__setattr__"=some (some (.builtin "object.__setattr__"))) (mk:PySem.W.makesIn K C=true) (kc:PySem.W.keepIn K (.ref C)=true)
 (na_asker:PySem.W.findIn K (.ref C) "asker"=some none)
 (na_shared:PySem.W.findIn K (.ref C) "shared"=some none)
 (na_guards:PySem.W.findIn K (.ref C) "guards"=some none)
 (na_offers:PySem.W.findIn K (.ref C) "offers"=some none)
 (na_newest:PySem.W.findIn K (.ref C) "newest"=some none)
 (a0:PySem.W.findIn K (.ref C) "__init__"=some (some (.ref f0))) (i0:PySem.W.isFn K (.ref f0)=true) (l0:K.lookup f0=some ⟨oc0,od0,.func (PySem.W.fnOf "__init__" "Step.__init__" (zdj zee) (zcr zee) (zam zee) .none kV0 dc0 pm0 an0 cd0 ct0),sl0⟩) (c0:PySem.W.codeIn K cd0 "Step.__init__"=true) (k0:PySem.W.keepIn K (.ref f0)=true)
 (a1:PySem.W.findIn K (.ref C) "offer"=some (some (.ref f1))) (i1:PySem.W.isFn K (.ref f1)=true) (l1:K.lookup f1=some ⟨oc1,od1,.func (PySem.W.fnOf "offer" "Step.offer" (zdj zdt) (zcr zdt) (zam zdt) .none kV1 dc1 pm1 an1 cd1 ct1),sl1⟩) (c1:PySem.W.codeIn K cd1 "Step.offer"=true) (k1:PySem.W.keepIn K (.ref f1)=true)
 (a2:PySem.W.findIn K (.ref C) "allows"=some (some (.ref f2))) (i2:PySem.W.isFn K (.ref f2)=true) (l2:K.lookup f2=some ⟨oc2,od2,.func (PySem.W.fnOf "allows" "Step.allows" (zdj zdm) (zcr zdm) (zam zdm) .none kV2 dc2 pm2 an2 cd2 ct2),sl2⟩) (c2:PySem.W.codeIn K cd2 "Step.allows"=true) (k2:PySem.W.keepIn K (.ref f2)=true)
 (a3:PySem.W.findIn K (.ref C) "carry_on"=some (some (.ref f3))) (i3:PySem.W.isFn K (.ref f3)=true) (l3:K.lookup f3=some ⟨oc3,od3,.func (PySem.W.fnOf "carry_on" "Step.carry_on" (zdj zcm) (zcr zcm) (zam zcm) .none kV3 dc3 pm3 an3 cd3 ct3),sl3⟩) (c3:PySem.W.codeIn K cd3 "Step.carry_on"=true) (k3:PySem.W.keepIn K (.ref f3)=true)
 :∃C,(mg "Step"=some (.ref C)/\Cls K C/\PySem.W.makesIn K C=true/\PySem.W.keepIn K (.ref C)=true)/\NoAttr K C "asker"/\NoAttr K C "shared"/\NoAttr K C "guards"/\NoAttr K C "offers"/\NoAttr K C "newest"/\(∃f d,Fun K "__init__" "Step.__init__" zee f d/\zle K C "__init__" f)/\(∃f d,Fun K "offer" "Step.offer" zdt f d/\zle K C "offer" f)/\(∃f d,Fun K "allows" "Step.allows" zdm f d/\zle K C "allows" f)/\(∃f d,Fun K "carry_on" "Step.carry_on" zcm f d/\zle K C "carry_on" f):=
 ⟨C,ca_at X G n pg hd po sa mk kc,na_asker,na_shared,na_guards,na_offers,na_newest,zpl a0 i0 l0 c0 k0,zpl a1 i1 l1 c1 k1,zpl a2 i2 l2 c2 k2,zpl a3 i3 l3 c3 k3⟩
theorem cl_Loom {K:PySem.W.Frag}{h:Heap}{mg:Str->Option Value}(X:K.In h)(G:h.Ns mainGlobals mg){C:Addr}{f0:Addr}{oc0 kV0 dc0 pm0 cd0 ct0:Value}{od0 an0:Option Addr}{sl0:Array (Option Value)}{f1:Addr}{oc1 kV1 dc1 pm1 cd1 ct1:Value}{od1 an1:Option Addr}{sl1:Array (Option Value)}{f2:Addr}{oc2 kV2 dc2 pm2 cd2 ct2:Value}{od2 an2:Option Addr}{sl2:Array (Option Value)}{f3:Addr}{oc3 kV3 dc3 pm3 cd3 ct3:Value}{od3 an3:Option Addr}{sl3:Array (Option Value)}{f4:Addr}{oc4 kV4 dc4 pm4 cd4 ct4:Value}{od4 an4:Option Addr}{sl4:Array (Option Value)}
 (n:PySem.W.nsIn K mainGlobals "Loom"=some (some (.ref C))) (pg:PySem.W.plainGet K C Str.empty=true) (hd:PySem.W.hasDictIn K C=true) (po:PySem.W.plainOver K C=true) (sa:PySem.W.findIn K (.ref C) "__setattr__"=some (some (.builtin "object.__setattr__"))) (mk:PySem.W.makesIn K C=true) (kc:PySem.W.keepIn K (.ref C)=true)
 (na_steps:PySem.W.findIn K (.ref C) "steps"=some none)
 (na_is_barred:PySem.W.findIn K (.ref C) "is_barred"=some none)
 (na_taken_in:PySem.W.findIn K (.ref C) "taken_in"=some none)
 (na_fresh:PySem.W.findIn K (.ref C) "fresh"=some none)
 (na_last_fresh_step:PySem.W.findIn K (.ref C) "last_fresh_step"=some none)
 (a0:PySem.W.findIn K (.ref C) "__init__"=some (some (.ref f0))) (i0:PySem.W.isFn K (.ref f0)=true) (l0:K.lookup f0=some ⟨oc0,od0,.func (PySem.W.fnOf "__init__" "Loom.__init__" (zdj zef) (zcr zef) (zam zef) .none kV0 dc0 pm0 an0 cd0 ct0),sl0⟩) (c0:PySem.W.codeIn K cd0 "Loom.__init__"=true) (k0:PySem.W.keepIn K (.ref f0)=true)
 (a1:PySem.W.findIn K (.ref C) "take_in"=some (some (.ref f1))) (i1:PySem.W.isFn K (.ref f1)=true) (l1:K.lookup f1=some ⟨oc1,od1,.func (PySem.W.fnOf "take_in" "Loom.take_in" (zdj zcv) (zcr zcv) (zam zcv) .none kV1 dc1 pm1 an1 cd1 ct1),sl1⟩) (c1:PySem.W.codeIn K cd1 "Loom.take_in"=true) (k1:PySem.W.keepIn K (.ref f1)=true)
 (a2:PySem.W.findIn K (.ref C) "beginnings"=some (some (.ref f2))) (i2:PySem.W.isFn K (.ref f2)=true) (l2:K.lookup f2=some ⟨oc2,od2,.func (PySem.W.fnOf "beginnings" "Loom.beginnings" (zdj zcc) (zcr zcc) (zam zcc) .none kV2 dc2 pm2 an2 cd2 ct2),sl2⟩) (c2:PySem.W.codeIn K cd2 "Loom.beginnings"=true) (k2:PySem.W.keepIn K (.ref f2)=true)
 (a3:PySem.W.findIn K (.ref C) "is_whole"=some (some (.ref f3))) (i3:PySem.W.isFn K (.ref f3)=true) (l3:K.lookup f3=some ⟨oc3,od3,.func (PySem.W.fnOf "is_whole" "Loom.is_whole" (zdj zcn) (zcr zcn) (zam zcn) .none kV3 dc3 pm3 an3 cd3 ct3),sl3⟩) (c3:PySem.W.codeIn K cd3 "Loom.is_whole"=true) (k3:PySem.W.keepIn K (.ref f3)=true)
 (a4:PySem.W.findIn K (.ref C) "carried_on"=some (some (.ref f4))) (i4:PySem.W.isFn K (.ref f4)=true) (l4:K.lookup f4=some ⟨oc4,od4,.func (PySem.W.fnOf "carried_on" "Loom.carried_on" (zdj zcb) (zcr zcb) (zam zcb) .none kV4 dc4 pm4 an4 cd4 ct4),sl4⟩) (c4:PySem.W.codeIn K cd4 "Loom.carried_on"=true) (k4:PySem.W.keepIn K (.ref f4)=true)
 :∃C,(mg "Loom"=some (.ref C)/\Cls K C/\PySem.W.makesIn K C=true/\PySem.W.keepIn K (.ref C)=true)/\NoAttr K C "steps"/\NoAttr K C "is_barred"/\NoAttr K C "taken_in"/\NoAttr K C "fresh"/\NoAttr K C "last_fresh_step"/\(∃f d,Fun K "__init__" "Loom.__init__" zef f d/\zle K C "__init__" f)/\(∃f d,Fun K "take_in" "Loom.take_in" zcv f d/\zle K C "take_in" f)/\(∃f d,Fun K "beginnings" "Loom.beginnings" zcc f d/\zle K C "beginnings" f)/\(∃f d,Fun K "is_whole" "Loom.is_whole" zcn f d/\zle K C "is_whole" f)/\(∃f d,Fun K "carried_on" "Loom.carried_on" zcb f d/\zle K C "carried_on" f):=
 ⟨C,ca_at X G n pg hd po sa mk kc,na_steps,na_is_barred,na_taken_in,na_fresh,na_last_fresh_step,zpl a0 i0 l0 c0 k0,zpl a1 i1 l1 c1 k1,zpl a2 i2 l2 c2 k2,zpl a3 i3 l3 c3 k3,zpl a4 i4 l4 c4 k4⟩
theorem lw_at {K:PySem.W.Frag}{h:Heap}{mg:Str->Option Value}{fa f:Addr}{oc kV dc pm cd ct:Value}{od an:Option Addr}{sl:Array (Option Value)}(X:K.In h)(G:h.Ns mainGlobals mg)(hfa:mg "law"=some (.ref fa))(a:PySem.W.nsIn K mainGlobals "law"=some (some (.ref f)))(l:K.lookup f=some ⟨oc,od,.func (PySem.W.fnOf "law" "law" (zdj zts) (zcr zts) (zam zts) .none kV dc pm an cd ct),sl⟩)(c:PySem.W.codeIn K cd "law"=true)(k:PySem.W.keepIn K (.ref f)=true):∃fd:FuncData,(∀(s:Shared) (v:Value),BindsTo s fd ⟨[v],[]⟩ [("_law_script",v)])/\Fun K "law" "law" zts fa fd:=by
 have e:=hfa.symm.trans (PySem.W.mg_of X G a)
 cases e
 exact ⟨_,fun s v=>.of_eq rfl,fun_mk l c k⟩
theorem bl_at {K:PySem.W.Frag}{h:Heap}{mg:Str->Option Value}(X:K.In h)(G:h.Ns mainGlobals mg)(z_len:PySem.W.nsIn K mainGlobals "len"=some none)(z_isinstance:PySem.W.nsIn K mainGlobals "isinstance"=some none)(z_range:PySem.W.nsIn K mainGlobals "range"=some none)(z_int:PySem.W.nsIn K mainGlobals "int"=some none)(z_str:PySem.W.nsIn K mainGlobals "str"=some none)(z_bool:PySem.W.nsIn K mainGlobals "bool"=some none)(z_list:PySem.W.nsIn K mainGlobals "list"=some none)(z_tuple:PySem.W.nsIn K mainGlobals "tuple"=some none)(z_dict:PySem.W.nsIn K mainGlobals "dict"=some none)(z_zip:PySem.W.nsIn K mainGlobals "zip"=some none)(z_enumerate:PySem.W.nsIn K mainGlobals "enumerate"=some none)(z_all:PySem.W.nsIn K mainGlobals "all"=some none)(z_reversed:PySem.W.nsIn K mainGlobals "reversed"=some none):Bl mg:=⟨PySem.W.mg_none_of X G z_len,PySem.W.mg_none_of X G z_isinstance,PySem.W.mg_none_of X G z_range,PySem.W.mg_none_of X G z_int,PySem.W.mg_none_of X G z_str,PySem.W.mg_none_of X G z_bool,PySem.W.mg_none_of X G z_list,PySem.W.mg_none_of X G z_tuple,PySem.W.mg_none_of X G z_dict,PySem.W.mg_none_of X G z_zip,PySem.W.mg_none_of X G z_enumerate,PySem.W.mg_none_of X G z_all,PySem.W.mg_none_of X G z_reversed⟩
theorem walk {l:PySem.W.OpenLaw}{q:Program}{loose:List Str}{XP:(Str->Option Value)->Heap->Prop}{YP:World->Heap->Prop}{d:DefRec}{K:Params->PySem.W.Frag}(hn:l.most=some 63)(hdf:d.params.defaults=[])
  (hY:∀(w:World) (h:Heap),YP w h->(K w.params).In h)
  (F:∀(w:World) (mg:Str->Option Value) (fa:Addr) (h:Heap),(K w.params).In h->h.Ns mainGlobals mg->mg d.name=some (.ref fa)->
   ∃fd:FuncData,(∀(s:Shared) (u:Value),BindsTo s fd ⟨[u],[]⟩ [("_law_script",u)])/\∀base:Heap,(K w.params).In base->base.Ns mainGlobals mg->FnOk l.prog w (K w.params) mg base CX0 10 fa fd ["_law_script"] (spLaw (K w.params))):
  PySem.W.WalkO q loose XP YP l.row.toRowW d [] (fun f vs=>PySem.call f vs):=
 L2.walk_of (n:=63) (k:=10) (x:="_law_script") (CX:=fun _=>CX0) (sp:=fun w=>spLaw (K w.params)) hn (by decide) hdf ⟨rfl,by decide,by decide⟩ hY F (fun _ _ a ns hl _ hS=>⟨a,ns,rfl,hS,hl,fun _=>rfl⟩) fun _ _ _ _ _ z=>z
end K05
/-! no twins of the heaps: these names are taken, so the library goes on with the plain heaps (and the file stays small) -/
def PySem.W.Fast.tw6839248798589035503 : Unit := ()
def PySem.W.Fast.tw1104244130587857928 : Unit := ()
def PySem.W.Fast.tw610030269863229398 : Unit := ()
def PySem.W.Fast.tw6805139234683050539 : Unit := ()
def PySem.W.Fast.tw3095510547567116354 : Unit := ()
def PySem.W.Fast.tw17776011148392160179 : Unit := ()
def PySem.W.Fast.tw10033159988207103955 : Unit := ()
def PySem.W.Fast.tw10168332179392984272 : Unit := ()
def PySem.W.Fast.tw8954261231927236960 : Unit := ()
def PySem.W.Fast.tw5038428288643615957 : Unit := ()
def PySem.W.Fast.tw3616629633433783967 : Unit := ()
def PySem.W.Fast.tw3342473225578575840 : Unit := ()
open PySem PySem.W PyProof.Rows
set_option maxRecDepth 100000 in
set_option maxHeartbeats 0 in
theorem PySem.Challenge.cw_factloom_k05_ways_holds : PySem.Challenge.rw_factloom_k05_ways.Holds := by
  w_on; o_law; k_head; (case hw => w_witness2)
  k_fill
  refine K05.walk (l := PySem.Challenge.rw_factloom_k05_ways) rfl rfl (fun w h Y => PySem.W.kIn_of Y) ?F
  case F =>
    intro w mg fa h KX G hmg
    have F_is_blank := FL.fn_at (x := "is_blank") (st := K05.s_is_blank) KX G (by k_is) (by k_is) (by k_is) (by k_is)
    have F_filled := FL.fn_at (x := "filled") (st := K05.s_filled) KX G (by k_is) (by k_is) (by k_is) (by k_is)
    have F_matched := FL.fn_at (x := "matched") (st := K05.s_matched) KX G (by k_is) (by k_is) (by k_is) (by k_is)
    have F_is_guard := FL.fn_at (x := "is_guard") (st := K05.s_is_guard) KX G (by k_is) (by k_is) (by k_is) (by k_is)
    have F_blanks_in := FL.fn_at (x := "blanks_in") (st := K05.s_blanks_in) KX G (by k_is) (by k_is) (by k_is) (by k_is)
    have F_holds := FL.fn_at (x := "holds") (st := K05.s_holds) KX G (by k_is) (by k_is) (by k_is) (by k_is)
    have F_askers_in := FL.fn_at (x := "askers_in") (st := K05.s_askers_in) KX G (by k_is) (by k_is) (by k_is) (by k_is)
    have F_guards_in := FL.fn_at (x := "guards_in") (st := K05.s_guards_in) KX G (by k_is) (by k_is) (by k_is) (by k_is)
    have F_slots_of := FL.fn_at (x := "slots_of") (st := K05.s_slots_of) KX G (by k_is) (by k_is) (by k_is) (by k_is)
    have F_is_ready := FL.fn_at (x := "is_ready") (st := K05.s_is_ready) KX G (by k_is) (by k_is) (by k_is) (by k_is)
    have F_steps_for := FL.fn_at (x := "steps_for") (st := K05.s_steps_for) KX G (by k_is) (by k_is) (by k_is) (by k_is)
    have F_ways := FL.fn_at (x := "ways") (st := K05.s_ways) KX G (by k_is) (by k_is) (by k_is) (by k_is)
    have F_law_at := FL.fn_at (x := "_law_at") (st := K05.s_law_at) KX G (by k_is) (by k_is) (by k_is) (by k_is)
    have F_law_whole := FL.fn_at (x := "_law_whole") (st := K05.s_law_whole) KX G (by k_is) (by k_is) (by k_is) (by k_is)
    have F_law_is_fact := FL.fn_at (x := "_law_is_fact") (st := K05.s_law_is_fact) KX G (by k_is) (by k_is) (by k_is) (by k_is)
    have F_law_mixed := FL.fn_at (x := "_law_mixed") (st := K05.s_law_mixed) KX G (by k_is) (by k_is) (by k_is) (by k_is)
    have F_law_blanks_in := FL.fn_at (x := "_law_blanks_in") (st := K05.s_law_blanks_in) KX G (by k_is) (by k_is) (by k_is) (by k_is)
    have F_law_same_facts := FL.fn_at (x := "_law_same_facts") (st := K05.s_law_same_facts) KX G (by k_is) (by k_is) (by k_is) (by k_is)
    have F_law_stands_ahead := FL.fn_at (x := "_law_stands_ahead") (st := K05.s_law_stands_ahead) KX G (by k_is) (by k_is) (by k_is) (by k_is)
    have F_law_fill_in := FL.fn_at (x := "_law_fill_in") (st := K05.s_law_fill_in) KX G (by k_is) (by k_is) (by k_is) (by k_is)
    have F_law_true := FL.fn_at (x := "_law_true") (st := K05.s_law_true) KX G (by k_is) (by k_is) (by k_is) (by k_is)
    have F_law_are_pairs := FL.fn_at (x := "_law_are_pairs") (st := K05.s_law_are_pairs) KX G (by k_is) (by k_is) (by k_is) (by k_is)
    have F_law_way_kinds := FL.fn_at (x := "_law_way_kinds") (st := K05.s_law_way_kinds) KX G (by k_is) (by k_is) (by k_is) (by k_is)
    have F_law_choices := FL.fn_at (x := "_law_choices") (st := K05.s_law_choices) KX G (by k_is) (by k_is) (by k_is) (by k_is)
    have F_law_body_by := FL.fn_at (x := "_law_body_by") (st := K05.s_law_body_by) KX G (by k_is) (by k_is) (by k_is) (by k_is)
    have F_law_a_way := FL.fn_at (x := "_law_a_way") (st := K05.s_law_a_way) KX G (by k_is) (by k_is) (by k_is) (by k_is)
    have c_Step := K05.cl_Step KX G (by k_is) (by k_is) (by k_is) (by k_is) (by k_is) (by k_is) (by k_is) (by k_is) (by k_is) (by k_is) (by k_is) (by k_is) (by k_is) (by k_is) (by k_is) (by k_is) (by k_is) (by k_is) (by k_is) (by k_is) (by k_is) (by k_is) (by k_is) (by k_is) (by k_is) (by k_is) (by k_is) (by k_is) (by k_is) (by k_is) (by k_is) (by k_is)
    have c_Loom := K05.cl_Loom KX G (by k_is) (by k_is) (by k_is) (by k_is) (by k_is) (by k_is) (by k_is) (by k_is) (by k_is) (by k_is) (by k_is) (by k_is) (by k_is) (by k_is) (by k_is) (by k_is) (by k_is) (by k_is) (by k_is) (by k_is) (by k_is) (by k_is) (by k_is) (by k_is) (by k_is) (by k_is) (by k_is) (by k_is) (by k_is) (by k_is) (by k_is) (by k_is) (by k_is) (by k_is) (by k_is) (by k_is) (by k_is)
    have B := K05.bl_at KX G (by k_is) (by k_is) (by k_is) (by k_is) (by k_is) (by k_is) (by k_is) (by k_is) (by k_is) (by k_is) (by k_is) (by k_is) (by k_is)
    have W := K05.lw_at KX G hmg (by k_is) (by k_is) (by k_is) (by k_is)
    have u_LESS := K05.ct_LESS KX G (by k_is)
    have u_UNLIKE := K05.ct_UNLIKE KX G (by k_is)
    have B_max := K05.nn_max KX G (by k_is)
    obtain ⟨f_is_blank, d_is_blank, F_is_blank⟩ := F_is_blank
    obtain ⟨f_filled, d_filled, F_filled⟩ := F_filled
    obtain ⟨f_matched, d_matched, F_matched⟩ := F_matched
    obtain ⟨f_is_guard, d_is_guard, F_is_guard⟩ := F_is_guard
    obtain ⟨f_blanks_in, d_blanks_in, F_blanks_in⟩ := F_blanks_in
    obtain ⟨f_holds, d_holds, F_holds⟩ := F_holds
    obtain ⟨f_askers_in, d_askers_in, F_askers_in⟩ := F_askers_in
    obtain ⟨f_guards_in, d_guards_in, F_guards_in⟩ := F_guards_in
    obtain ⟨f_slots_of, d_slots_of, F_slots_of⟩ := F_slots_of
    obtain ⟨f_is_ready, d_is_ready, F_is_ready⟩ := F_is_ready
    obtain ⟨f_steps_for, d_steps_for, F_steps_for⟩ := F_steps_for
    obtain ⟨f_ways, d_ways, F_ways⟩ := F_ways
    obtain ⟨f_law_at, d_law_at, F_law_at⟩ := F_law_at
    obtain ⟨f_law_whole, d_law_whole, F_law_whole⟩ := F_law_whole
    obtain ⟨f_law_is_fact, d_law_is_fact, F_law_is_fact⟩ := F_law_is_fact
    obtain ⟨f_law_mixed, d_law_mixed, F_law_mixed⟩ := F_law_mixed
    obtain ⟨f_law_blanks_in, d_law_blanks_in, F_law_blanks_in⟩ := F_law_blanks_in
    obtain ⟨f_law_same_facts, d_law_same_facts, F_law_same_facts⟩ := F_law_same_facts
    obtain ⟨f_law_stands_ahead, d_law_stands_ahead, F_law_stands_ahead⟩ := F_law_stands_ahead
    obtain ⟨f_law_fill_in, d_law_fill_in, F_law_fill_in⟩ := F_law_fill_in
    obtain ⟨f_law_true, d_law_true, F_law_true⟩ := F_law_true
    obtain ⟨f_law_are_pairs, d_law_are_pairs, F_law_are_pairs⟩ := F_law_are_pairs
    obtain ⟨f_law_way_kinds, d_law_way_kinds, F_law_way_kinds⟩ := F_law_way_kinds
    obtain ⟨f_law_choices, d_law_choices, F_law_choices⟩ := F_law_choices
    obtain ⟨f_law_body_by, d_law_body_by, F_law_body_by⟩ := F_law_body_by
    obtain ⟨f_law_a_way, d_law_a_way, F_law_a_way⟩ := F_law_a_way
    obtain ⟨A_Step, c_Step, T_asker, T_shared, T_guards, T_offers, T_newest, ⟨f_Step_init, d_Step_init, F_Step_init⟩, ⟨f_Step_offer, d_Step_offer, F_Step_offer⟩, ⟨f_Step_allows, d_Step_allows, F_Step_allows⟩, ⟨f_Step_carry_on, d_Step_carry_on, F_Step_carry_on⟩⟩ := c_Step
    obtain ⟨A_Loom, c_Loom, TL_steps, TL_is_barred, TL_taken_in, TL_fresh, TL_last_fresh_step, ⟨f_Loom_init, d_Loom_init, F_Loom_init⟩, ⟨f_Loom_take_in, d_Loom_take_in, F_Loom_take_in⟩, ⟨f_Loom_beginnings, d_Loom_beginnings, F_Loom_beginnings⟩, ⟨f_Loom_is_whole, d_Loom_is_whole, F_Loom_is_whole⟩, ⟨f_Loom_carried_on, d_Loom_carried_on, F_Loom_carried_on⟩⟩ := c_Loom
    obtain ⟨t_LESS, c_LESS⟩ := u_LESS
    obtain ⟨t_UNLIKE, c_UNLIKE⟩ := u_UNLIKE
    obtain ⟨fd, hb, F_law⟩ := W
    exact ⟨fd, hb, fun base _ _ => K05.all_mk B F_law F_is_blank F_filled F_matched F_is_guard F_blanks_in F_holds F_askers_in F_guards_in F_slots_of F_is_ready F_steps_for F_ways F_law_at F_law_whole F_law_is_fact F_law_mixed F_law_blanks_in F_law_same_facts F_law_stands_ahead F_law_fill_in F_law_true F_law_are_pairs F_law_way_kinds F_law_choices F_law_body_by F_law_a_way F_Step_init F_Step_offer F_Step_allows F_Step_carry_on F_Loom_init F_Loom_take_in F_Loom_beginnings F_Loom_is_whole F_Loom_carried_on c_Step T_asker T_shared T_guards T_offers T_newest c_Loom TL_steps TL_is_barred TL_taken_in TL_fresh TL_last_fresh_step c_LESS c_UNLIKE B_max⟩
