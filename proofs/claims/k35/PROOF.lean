import PyProof.Rows.All
import Wide.All
import OpenK.AllK
import Wide.FinOn
import Lean
import PyProof.EqAt
import PyProof.EqKinds
import PyProof.TupleCall
import PyProof.NeKinds
import PyProof.IsInstanceH
import PyProof.SumWalkG
import PyProof.ConsumeWalk
import PyProof.IsiNone
import PyProof.WalksMore
import PyProof.PlainList
import PyProof.CompFree
import KE.KIntText
import PyProof.DictTable
import PySem.Challenge.RW_sluiceway_k35_rights_of_a_turn
set_option Elab.async false
set_option linter.all false
set_option maxRecDepth 100000
open List renaming getElem?_eq_getElem→zQ,mem_cons_of_mem→zZ,mem_cons_self→zX,replicate→zV,mem_cons→zK,size_toArray→zY,range→zj,getElem?_map→zw,getD_eq_getElem?_getD→zy,getElem?_eq_none→z5,map_cons→zA,getElem?_eq_some_iff→zF,mem_map→zG,idxOf_lt_length_of_mem→zH,getElem?_append_left→zI,drop_eq_getElem_cons→zL,getElem?_append_right→zM,drop_of_length_le→zN,getElem?_range→zO,mem_append_right→zR,mem_range→zS,map_congr_left→zT,length_append→zU,filterMap_map→qQ,replicate_succ→qZ,length_cons→qV,length_map→qW,nodup_cons→qK,set→qY,getElem_mem→qz,filterMap_eq_map'→qj,getElem_idxOf→qx,filterMap_cons→qw,all_eq_true→qk,pairwise_iff_getElem→qy,ext_getElem→q8,mem_singleton→qB,flatten_cons→qC,getElem_of_mem→qD,mem_append→qG,range_succ_eq_map→qH,all_cons→qL,drop_zero→qN,getElem?_set_ne→qP,append_assoc→qR,eq_nil_of_length_eq_zero→qS,getElem?_replicate→qT,map_map→qU,getElem?_set_self→jQ,lookup_cons→jZ,append_nil→jX,foldl_cons→jV,getElem?_set→jK,getElem?_eq_none_iff→jY,mem_of_find?_eq_some→jq,getLast?_eq_getElem?→jz,getElem?_take_of_lt→jv,lookup→jw,getElem?_cons_succ→jk,mem_filter→j0,nil_append→j1,find?_cons→j2,length_singleton→j4,ext_getElem?→j5,map_nil→j7,mem_append_left→j8,length_take→j9,cons_append→jA,length_set→jB,range_succ→jD,length_nil→jE,getElem?_cons_zero→jF,length_pos_of_mem→jH,length_replicate→jL,length_drop→jM,set_append_right→jO,take_length→jP,zipIdx_cons→jR,forIn_cons→jT,length→jU
open Nat renaming le_refl→zW,lt_of_lt_of_le→zq,le_trans→zD,ne_of_lt→zE,lt_irrefl→qX,lt_succ_self→qq,lt_succ_of_lt→qF,lt_or_ge→qI,ne_of_gt→jJ,le_succ→j3,zero_le→jI,le_add_right→jS
open Int renaming le_refl→qJ,emod_nonneg→jW,emod_lt_of_pos→jy,mul_nonneg→j6,toNat_natCast→jG
open Option renaming map_eq_some_iff→zP,isSome_iff_exists→qO
open Bool renaming false_ne_true→zx,and_eq_true→zC,and_eq_true_iff→jx,or_eq_true→jC
open Array renaming length_toList→q9,getElem?_toList→qM
open PySem.Heap renaming get?_push_of_some→zJ,lt_size→zk,get?_push_size→zB,SameBut→qA,size_push→qE,get?_update_self→jN
open PySem renaming Addr→xQ,Around→xZ,Expr→xJ,FuncData→xX,NameKind→xV,Program→xW,Scope→xK,Shared→xY,Stmt→xq,Value→xz,World→xj,assignEach→xw,attributeBase→xk,backTo→xy,behindInMarks→x0,binaryOp→xA,bootBuiltins→xB,call_isinstance→xC,compareOp→xD,importedModules→xE,isSubtype→xF,isinstance_false_int→xG,isinstance_false_list→xH,isinstance_false_none→xI,isinstance_false_str→xL,isinstance_false_tuple→xM,keywordEach→xN,letOwnedTupleGo→xO,mainGlobals→xP,model→xR,rawInt→xS,sizeLine_eq→xT,sliceBounds→xU,starEach→vQ,treeTable→vZ,wpAny→vJ,wpAny_Call_Name_kw→vX,wpAny_bind→vV,wpAny_callSpecial?_slot→vW,wpAny_call_entry→vK,wpAny_field→vY,wpAny_holding→vq,wpAny_mono→vz,wpAny_newObj_type→vj,wpAny_passesOwn→vx,wpAny_pure→vv,wpAny_setField_rec→vk,wpAny_truthy_bool→v4
open PySem.W renaming Frag→v5,boot_heap→v6,kas_rev→v7
set_option maxHeartbeats 0
noncomputable section
namespace L2
open PySem PySem.Spec PyProof.Rows
variable {us:List xz} {u:xz} {a b C:xQ} {P:xW} {w:xj} {h base:Heap} {t' i k:Nat} {ch fp:List xQ} {x:Str} {Q:Unit->xY->Prop} {e c tg:xJ} {A:xZ} {E:xz->xY->Prop} {s:xY} {v8:List (xQ×Obj)} {K:PySem.W.Frag} {body:List xq} {f:xz->xz->Sem xz} {op:CmpOp} {kw:List (Str×xz)} {mg:Str->Option xz} {kindOf:Str->Option xV}
abbrev Key:=Sum Int Str
noncomputable def ZJ1:Key->xz->Bool
 | .inl k,v=>Value.isInt k v
 | .inr x,v=>Value.isStrOf x v
def keyH (w:xj):Key->Int
 | .inl k=>hashInt k
 | .inr x=>hashStr w x
theorem Lw:∀{k:Key} {v:xz},ZJ1 k v=true->(∃i t,k=Sum.inl i/\v=Value.int i t)∨(∃x t,k=Sum.inr x/\v=Value.str x t)
 | .inl i,v,h=>by obtain ⟨t,e⟩:=Value.isInt_shape (k:=i) (v:=v) h;exact .inl ⟨i,t,rfl,e⟩
 | .inr x,v,h=>by obtain ⟨t,e⟩:=Value.isStrOf_shape (x:=x) (v:=v) h;exact .inr ⟨x,t,rfl,e⟩
theorem ZOn (a b:Int):decide ((Sum.inl a:Key)=Sum.inl b)=(a == b):=by
 by_cases e:a=b
 ·subst e;simp
 ·have h:¬(Sum.inl a:Key)=Sum.inl b:=λq=>e (Sum.inl.inj q)
  rw [decide_eq_false h];exact (beq_eq_false_iff_ne.mpr e).symm
theorem ZMr (a b:Str):decide ((Sum.inr a:Key)=Sum.inr b)=decide (a=b):=by
 by_cases e:a=b
 ·subst e;simp
 ·have h:¬(Sum.inr a:Key)=Sum.inr b:=λq=>e (Sum.inr.inj q)
  rw [decide_eq_false h,decide_eq_false e]
theorem ZNS (a:Int) (b:Str):decide ((Sum.inl a:Key)=Sum.inr b)=false:=decide_eq_false (λq=>nomatch q)
theorem ZLm (a:Str) (b:Int):decide ((Sum.inr a:Key)=Sum.inl b)=false:=decide_eq_false (λq=>nomatch q)
noncomputable def ZHi (prog:xW) (w:xj):PySem.KeyKind prog w Key where
 is:=ZJ1
 hash:=keyH w
 inj:=λv a b ha hb=>by
  rcases Lw ha with ⟨i,t,rfl,rfl⟩ | ⟨x,t,rfl,rfl⟩
  ·rcases Lw hb with ⟨j,u,rfl,e⟩ | ⟨y,u,rfl,e⟩
   ·injection e with e1 _;rw [e1]
   ·exact nomatch e
  ·rcases Lw hb with ⟨j,u,rfl,e⟩ | ⟨y,u,rfl,e⟩
   ·exact nomatch e
   ·injection e with e1 _;rw [e1]
 byValue:=λk v h=>by rcases Lw h with ⟨i,t,rfl,rfl⟩ | ⟨x,t,rfl,rfl⟩ <;> rfl
 pyHash:=λhv h=>by
  rcases Lw hv with ⟨i,t,rfl,rfl⟩ | ⟨x,t,rfl,rfl⟩
  ·exact wpAny_pyHash_int h
  ·exact wpAny_pyHash_str h
 eqBool:=λhu hv h=>by
  rcases Lw hu with ⟨i,t,rfl,rfl⟩ | ⟨x,t,rfl,rfl⟩
  ·rcases Lw hv with ⟨j,u,rfl,rfl⟩ | ⟨y,u,rfl,rfl⟩
   ·rw [ZOn] at h;exact wpAny_eqBool_int h
   ·rw [ZNS] at h;exact SeqAt.EqAt.int_str i t y u _ _ _ _ h
  ·rcases Lw hv with ⟨j,u,rfl,rfl⟩ | ⟨y,u,rfl,rfl⟩
   ·rw [ZLm] at h;exact SeqAt.EqAt.str_int x t j u _ _ _ _ h
   ·rw [ZMr] at h;exact wpAny_eqBool_str h
 «strs»:=λk x t v h=>by
  rcases Lw h with ⟨i,u,rfl,e⟩ | ⟨y,u,rfl,e⟩
  ·exact nomatch e
  ·injection e with e1 _
   subst e1
   cases v <;> rfl
inductive V where
 | non | bl (b:Bool) | int (i:Int) | str (x:Str) | byt (b:Array UInt8) | flt (b:UInt64) | ref (a:xQ) | ty (n:String)
 deriving DecidableEq
variable {v y:V} {vs:List V}
noncomputable def RelV:V->xz->Prop
 | .non,u=>u=Value.none
 | .bl b,u=>u=Value.bool b
 | .int i,u=>∃t,u=Value.int i t
 | .str x,u=>∃t,u=Value.str x t
 | .byt b,u=>∃t,u=Value.bytes b t
 | .flt b,u=>∃t,u=Value.float b t
 | .ref a,u=>u=Value.ref a
 | .ty n,u=>u=Value.type n
abbrev Vals:List V->List xz->Prop:=Paired RelV
theorem Vals.length {xs:List V} (r:Vals xs us):xs.length=us.length:=Paired.length r
theorem Vals.get:∀{xs:List V} {us:List xz} {i:Nat} {x:V},Vals xs us->xs[i]? =some x->∃u,us[i]? =some u/\RelV x u
 | _,_,_,_,.nil,e=>by simp at e
 | _,_,0,_,.cons r _,e=>by simp at e;subst e;exact ⟨_,rfl,r⟩
 | _,_,i + 1,x,.cons _ t,e=>by obtain ⟨u,h1,h2⟩:=Vals.get (i:=i) (x:=x) t (by simpa using e);exact ⟨u,by simpa using h1,h2⟩
theorem Vals.set {x:V} (r:RelV x u):∀{xs:List V} {us:List xz} (i:Nat),Vals xs us->Vals (xs.set i x) (us.set i u)
 | _,_,_,.nil=>.nil
 | _,_,0,.cons _ t=>.cons r t
 | _,_,i + 1,.cons q t=>.cons q (Vals.set r i t)
theorem Vals.append:∀{xs ys:List V} {us ws:List xz},Vals xs us->Vals ys ws->Vals (xs++ys) (us++ws)
 | _,_,_,_,.nil,s=>s
 | _,_,_,_,.cons r t,s=>.cons r (Vals.append t s)
theorem Vals.take:∀{xs:List V} {us:List xz} (n:Nat),Vals xs us->Vals (xs.take n) (us.take n)
 | _,_,0,_=>.nil
 | _,_,_ + 1,.nil=>.nil
 | _,_,n + 1,.cons r t=>.cons r (Vals.take n t)
theorem Vals.drop:∀{xs:List V} {us:List xz} (n:Nat),Vals xs us->Vals (xs.drop n) (us.drop n)
 | _,_,0,r=>r
 | _,_,_ + 1,.nil=>.nil
 | _,_,n + 1,.cons _ t=>Vals.drop n t
noncomputable def RelO:Option V->Option xz->Prop
 | some v,some u=>RelV v u
 | none,none=>True
 | _,_=>False
noncomputable def KV {κ:Type}:List (κ×V)->List (κ×xz)->Prop:=Paired λ(p:κ×V) (q:κ×xz)=>p.1=q.1/\RelV p.2 q.2
def kV:Key->V
 | .inl i=>.int i
 | .inr x=>.str x
inductive HO where
 | lst (xs:List V)
 | tup (xs:List V)
 | dK (kvs:List (Key×V)) | dT (kvs:List (List Key×V))
 | set (S:Int->Bool) (n:Nat)
 | ins (C dx:xQ) (fs:List (Str×V))
 | own (x:xQ)
 | xd (fs:List (Str×V))
 | met (f x:xQ)
 | rng (lo hi:Int)
 | frz (o:Obj) (u:HO)
 | tbl (ps:Array xz)
 | ext (φ:Heap->Prop)
variable {o:HO}
abbrev Hp:=xQ->Option HO
variable {H:Hp}
def upd (H:Hp) (a:xQ) (o:HO):Hp:=λb=>if b=a then some o else H b
theorem Ha:upd H a o a=some o:=by unfold upd;rw [if_pos rfl]
theorem Bd (h:b≠a):upd H a o b=H b:=by unfold upd;rw [if_neg h]
theorem Il (h:H a=some o) (h':H b=none):a≠b:=by intro e;subst e;rw [h] at h';cases h'
section
variable (P:xW) (w:xj)
noncomputable def ObjOk (H:Hp) (h:Heap) (a:xQ):HO->Prop
 | .lst xs=>xs.length<=sizeLine/\∃(its:List xz) (n:Nat),Vals xs its/\h.get? a=some {cls:=.type "list",data:=.seq its.toArray n}
 | .tup xs=>xs.length<=sizeLine/\∃its:List xz,Vals xs its/\IsTup h a its.toArray
 | .dK kvs=>kvs.length<=sizeLine/\(a == sysModules)=false/\∃vs,KV kvs vs/\h.DictOf (ZHi P w) a vs
 | .dT kvs=>kvs.length<=sizeLine/\(a == sysModules)=false/\∃xs:List (List Key×xQ×xz),
   Paired (λ(p:List Key×V) (q:List Key×xQ×xz)=>p.1=q.1/\H q.2.1=some (.tup (p.1.map kV))/\RelV p.2 q.2.2) kvs xs/\
   ∃o es ep,h.get? a=some o/\o.ExactDict/\o.data=.dict es ep/\es.toList=xs.map (entryOfKey (tupleKind (ZHi P w)))/\(xs.map (·.1)).Nodup
 | .set S n=>h.SetOf (intKind P w) a S n
 | .ins C dx fs=>H dx=some (.own a)/\fs.length<=1000/\dx≠a/\h.get? a=some (PySem.W.instObj C dx)/\
   ∃mA,h.Ns1 dx mA/\(∀f,RelO (fs.lookup f) (mA f))/\PySem.Within mA (fs.map (·.1))
 | .own _=>∃o,h.get? a=some o
 | .xd fs=>∃mA,h.Ns1 a mA/\∀f,RelO (fs.lookup f) (mA f)
 | .rng lo hi=>∃t u v,h.get? a=some {cls:=.type "range",data:=.fields #[.int lo t,.int hi u,.int 1 v]}
 | .frz o u=>h.get? a=some o/\ObjOk H h a u
 | .tbl ps=>h.get? a=some {cls:=.none,data:=.fields ps}
 | .met f x=>h.get? a=some (PySem.W.methodObj (.ref f) (.ref x))
 | .ext φ=>φ h/\(∃o,h.get? a=some o)/\∀h1 h2:Heap,φ h1->(∀o,h1.get? a=some o->h2.get? a=some o)->φ h2
def HOk (H:Hp) (h:Heap):Prop:=∀a o,H a=some o->ObjOk P w H h a o
end
section
variable {P:xW} {w:xj} {H H':Hp} {h h':Heap} {a:xQ} {o:HO}
theorem ObjOk.lt (x:ObjOk P w H h a o):a < h.objs.size:=by
 cases o with
 | lst xs=>obtain ⟨_,_,_,_,e⟩:=x;exact zk e
 | tup xs=>obtain ⟨_,_,_,p⟩:=x;exact p.lt
 | dK kvs=>obtain ⟨_,_,_,_,o,_,_,e,_⟩:=x;exact zk e
 | dT kvs=>obtain ⟨_,_,_,_,o,_,_,e,_⟩:=x;exact zk e
 | set S n=>obtain ⟨o,_,_,_,e,_⟩:=x;exact zk e
 | ins C dx fs=>obtain ⟨_,_,_,e,_⟩:=x;exact zk e
 | own y=>obtain ⟨_,e⟩:=x;exact zk e
 | xd fs=>obtain ⟨_,⟨_,_,_,e,_⟩,_⟩:=x;exact zk e
 | rng lo hi=>obtain ⟨_,_,_,e⟩:=x;exact zk e
 | frz ob u=>obtain ⟨e,_⟩:=x;exact zk e
 | tbl ps=>exact zk (show h.get? a=some _ from x)
 | met f y=>exact zk (show h.get? a=some _ from x)
 | ext φ=>obtain ⟨_,⟨_,e⟩,_⟩:=x;exact zk e
theorem Paired.mapP {α β:Type} {F G:α->β->Prop}:∀{l₁:List α} {l₂:List β},Paired F l₁ l₂->(∀a b,F a b->G a b)->Paired G l₁ l₂
 | _,_,.nil,_=>.nil
 | _,_,.cons r t,f=>.cons (f _ _ r) (Paired.mapP t f)
theorem ObjOk.stay (x:ObjOk P w H h a o) (k:∀b u,(b=a∨H b=some (.own a))->h.get? b=some u->h'.get? b=some u)
  (ho:∀b,H b=some (.own a)->H' b=some (.own a)) (ht:∀b xs,H b=some (.tup xs)->H' b=some (.tup xs)):ObjOk P w H' h' a o:=by
 induction o with
 | lst xs=>obtain ⟨z,its,n,r,e⟩:=x;exact ⟨z,its,n,r,k _ _ (.inl rfl) e⟩
 | tup xs=>obtain ⟨z,its,r,ob,e,c⟩:=x;exact ⟨z,its,r,ob,k _ _ (.inl rfl) e,c⟩
 | dK kvs=>obtain ⟨z,y,vs,r,ob,es,ep,e,c⟩:=x;exact ⟨z,y,vs,r,ob,es,ep,k _ _ (.inl rfl) e,c⟩
 | dT kvs=>
  obtain ⟨z,y,xs,r,ob,es,ep,e,c⟩:=x;exact ⟨z,y,xs,Paired.mapP r λp q z=>⟨z.1,ht _ _ z.2.1,z.2.2⟩,ob,es,ep,k _ _ (.inl rfl) e,c⟩
 | set S n=>obtain ⟨ob,es,ep,t,e,c⟩:=x;exact ⟨ob,es,ep,t,k _ _ (.inl rfl) e,c⟩
 | ins C dx fs=>
  obtain ⟨d,z,ne,e,mA,⟨od,es,ep,e2,c⟩,r⟩:=x;exact ⟨ho _ d,z,ne,k _ _ (.inl rfl) e,mA,⟨od,es,ep,k _ _ (.inr d) e2,c⟩,r⟩
 | own y=>obtain ⟨ob,e⟩:=x;exact ⟨ob,k _ _ (.inl rfl) e⟩
 | xd fs=>obtain ⟨mA,⟨od,es,ep,e,c⟩,r⟩:=x;exact ⟨mA,⟨od,es,ep,k _ _ (.inl rfl) e,c⟩,r⟩
 | rng lo hi=>obtain ⟨t,u,v,e⟩:=x;exact ⟨t,u,v,k _ _ (.inl rfl) e⟩
 | frz ob u ih=>obtain ⟨e,q⟩:=x;exact ⟨k _ _ (.inl rfl) e,ih q⟩
 | tbl ps=>
  have e:h.get? a=some {cls:=.none,data:=.fields ps}:=x;show h'.get? a=some {cls:=.none,data:=.fields ps};exact k a _ (.inl rfl) e
 | met f y=>
  have e:h.get? a=some (PySem.W.methodObj (.ref f) (.ref y)):=x;show h'.get? a=some (PySem.W.methodObj (.ref f) (.ref y));exact k a _ (.inl rfl) e
 | ext φ=>obtain ⟨p,⟨o,e⟩,st⟩:=x;exact ⟨st _ _ p λo q=>k _ _ (.inl rfl) q,⟨o,k _ _ (.inl rfl) e⟩,st⟩
theorem HOk.lt (x:HOk P w H h) (e:H a=some o):a < h.objs.size:=(x a o e).lt
theorem HOk.fresh (x:HOk P w H h) (e:h.objs.size<=a):H a=none:=by
 cases q:H a with
 | none=>rfl
 | some u=>exact absurd (zq (x.lt q) e) (qX _)
theorem HOk.kept (x:HOk P w H h) (k:∀b u,h.get? b=some u->h'.get? b=some u):HOk P w H h':=λa o e=>
 (x a o e).stay (λb u _ q=>k b u q) (λ_ q=>q) λ_ _ q=>q
theorem HOk.laid (x:HOk P w H h) (k:∀b u,h.get? b=some u->h'.get? b=some u) (hp:h.objs.size<=a) (new:ObjOk P w (upd H a o) h' a o):HOk P w (upd H a o) h':=λb u e=>by
 have hn:=x.fresh hp;by_cases hb:b=a
 ·subst hb;rw [Ha] at e;cases e;exact new
 ·rw [Bd hb] at e;exact (x b u e).stay (λc v _ q=>k c v q) (λc q=>by rw [Bd (Il q hn)];exact q) λc xs q=>by rw [Bd (Il q hn)];exact q
end
def Rd (H:Hp) (a:xQ) (u:HO):Prop:=H a=some u∨∃o,H a=some (.frz o u)
theorem Rd.ok {u:HO} (r:Rd H a u) (x:HOk P w H h):ObjOk P w H h a u:=by
 rcases r with r | ⟨o,r⟩
 ·exact x a u r
 ·obtain ⟨_,q⟩:=x a _ r;exact q
noncomputable def Mut:Option HO->Prop
 | some (.lst _)=>True
 | some (.dK _)=>True
 | some (.dT _)=>True
 | some (.set _ _)=>True
 | some (.ins _ _ _)=>True
 | some (.ext _)=>True
 | _=>False
section
variable {P:xW} {w:xj} {H:Hp} {h h':Heap} {x e:xQ} {o':HO}
theorem HOk.write (ok:HOk P w H h) (mu:Mut (H x)) (he:e=x∨H e=some (.own x)) (k:∀b u,b≠e->h.get? b=some u->h'.get? b=some u) (heo:∃u,h'.get? e=some u)
  (new:ObjOk P w (upd H x o') h' x o'):HOk P w (upd H x o') h':=λb u q=>by
 have nown:∀c y,H c=some (.own y)->c≠x:=λc y r z=>by subst z;rw [r] at mu;exact mu
 have ntup:∀c xs,H c=some (.tup xs)->c≠x:=λc xs r z=>by subst z;rw [r] at mu;exact mu
 by_cases hb:b=x
 ·subst hb;rw [Ha] at q;cases q;exact new
 ·rw [Bd hb] at q;by_cases hbe:b=e
  ·have q':H b=some (.own x):=by
    rcases he with z | z
    ·exact absurd (hbe.trans z) hb
    ·rw [hbe];exact z
   rw [q] at q';cases q';obtain ⟨v,hv⟩:=heo;exact ⟨v,by rw [hbe];exact hv⟩
  ·refine (ok b u q).stay (λc v hc r=>k c v ?_ r) (λc r=>by rw [Bd (nown c b r)];exact r) λc xs r=>by rw [Bd (ntup c xs r)];exact r
   rcases hc with rfl | hc
   ·exact hbe
   ·rintro rfl;rcases he with z | z
    ·exact nown c b hc z
    ·rw [hc] at z;cases z;exact hb rfl
end
structure Un (fs ex:List xQ) (H H':Hp) (h h':Heap):Prop where
 keep:∀b o,h.get? b=some o->H b=none->b ∉ fs->b ∉ ex->h'.get? b=some o
 slot:∀b o,h.get? b=some o->H b=none->b∈fs->b ∉ ex->∃sl,h'.get? b=some {o with slots:=sl}
 free:∀b o,h.get? b=some o->H b=none->b ∉ ex->H' b=none
 there:∀b o,h.get? b=some o->b ∉ ex->∃o',h'.get? b=some o'
 tups:∀b xs,H b=some (.tup xs)->H' b=some (.tup xs)
 frzs:∀b o u,H b=some (.frz o u)->H' b=some (.frz o u)
 tbls:∀b ps,H b=some (.tbl ps)->∃more,H' b=some (.tbl (ps++more))
section
variable {fs fs' ex ex':List xQ} {H H1 H2:Hp} {h h1 h2 h':Heap} {a x e:xQ} {o:HO}
theorem Un.any (u:Un fs ex H H1 h h1) {ob:Obj} (q:h.get? b=some ob) (n:H b=none) (hx:b ∉ ex):∃sl,h1.get? b=some {ob with slots:=sl}:=by
 by_cases hb:b∈fs
 ·exact u.slot b ob q n hb hx
 ·exact ⟨ob.slots,u.keep b ob q n hb hx⟩
theorem Un.kept (k:∀b u,h.get? b=some u->h'.get? b=some u):Un fs ex H H h h':=
 ⟨λb ob q _ _ _=>k b ob q,λb ob q _ _ _=>⟨ob.slots,k b ob q⟩,λ_ _ _ n _=>n,λb ob q _=>⟨ob,k b ob q⟩,λ_ _ q=>q,λ_ _ _ q=>q,λ_ ps q=>⟨#[],by rw [q];simp⟩⟩
theorem Un.refl:Un fs ex H H h h:=Un.kept λ_ _ q=>q
theorem Un.laid (k:∀b u,h.get? b=some u->h'.get? b=some u) (hp:h.objs.size<=a) (hn:H a=none):Un fs ex H (upd H a o) h h' where
 keep:=λb u q _ _ _=>k b u q
 slot:=λb u q _ _ _=>⟨u.slots,k b u q⟩
 free:=λb u q n _=>by rw [Bd (zE (zq (zk q) hp))];exact n
 there:=λb u q _=>⟨u,k b u q⟩
 tups:=λb xs q=>by rw [Bd (Il q hn)];exact q
 frzs:=λb u xs q=>by rw [Bd (Il q hn)];exact q
 tbls:=λb ps q=>⟨#[],by rw [Bd (Il q hn),q];simp⟩
theorem Un.write (mu:Mut (H x)) (he:e=x∨H e=some (.own x)) (k:∀b u,b≠e->h.get? b=some u->h'.get? b=some u) (heo:∃u,h'.get? e=some u):Un fs ex H (upd H x o) h h':=by
 have hx:∀b,H b=none->b≠x:=λb n z=>by subst z;rw [n] at mu;exact mu
 have hb:∀b,H b=none->b≠e:=λb n z=>by
  subst z;rcases he with r | r
  ·exact hx b n r
  ·rw [n] at r;cases r
 have hm:∀b u,H b=some u->¬Mut (some u)->b≠x:=λb u q nm z=>by subst z;rw [q] at mu;exact nm mu
 refine ⟨λb u q n _ _=>k b u (hb b n) q,λb u q n _ _=>⟨u.slots,k b u (hb b n) q⟩,λb u q n _=>by rw [Bd (hx b n)];exact n,λb u q _=> ?_,
  λb xs q=>by rw [Bd (hm b _ q λz=>z)];exact q,λb u xs q=>by rw [Bd (hm b _ q λz=>z)];exact q,λb ps q=>⟨#[],by rw [Bd (hm b _ q λz=>z),q];simp⟩⟩
 by_cases hbe:b=e
 ·subst hbe;exact heo
 ·exact ⟨u,k b u hbe q⟩
end
noncomputable def trk (h:Heap) (H:Hp):List xQ:=(zj h.objs.size).filter λa=>(H a).isSome
def Ld (h:Heap) (H:Hp):Heap:=PySem.W.hideAll h (trk h H)
theorem ZRP (h:Heap) (H:Hp):(Ld h H).objs.size=h.objs.size:=PySem.W.hideAll_size _ _
theorem ZPm {o:Obj} (e:h.get? b=some o) (n:H b=none):(Ld h H).get? b=some o:=
 PySem.W.hideAll_get _ e λhm=>by have q:(H b).isSome=true:=(j0.mp hm).2;rw [n] at q;simp at q
theorem ZPR {o:Obj} (e:(Ld h H).get? b=some o):h.get? b=some o/\H b=none:=by
 have e':h.get? b=some o:=PySem.W.of_hideAll (trk h H) e;refine ⟨e',?_⟩;cases q:H b with
 | none=>rfl
 | some x=>
  have hm:b∈trk h H:=j0.mpr ⟨zS.mpr (zk e'),by simp [q]⟩;have z:(Ld h H).get? b=none:=PySem.W.hideAll_none (trk h H) hm;rw [z] at e;cases e
noncomputable def ZKG (g h:Heap) (L:xQ):List (xQ×Obj):=(zj h.objs.size).filterMap λa=>if a=L∨(g.get? a).isSome=true then none else (h.get? a).map λo=>(a,o)
noncomputable def rest (g h:Heap) (L d:xQ):List (xQ×Obj):=(ZKG g h L).filter λp=>decide (p.1≠d)
structure Mod (K:PySem.W.Frag) (mg:Str->Option xz) (base:Heap):Prop where
 kin:K.In base
 glob:base.Ns xP mg
 blt:∃mb,base.Ns builtinsNs mb/\∀x:Str,x≠"__name__"->mb x=xB x
 nolimit:base.NoLimit
structure Cx where
 prog:xW
 w:xj
 K:PySem.W.Frag
 mg:Str->Option xz
 base:Heap
 A:xZ
 N:List Str
 s₀:xY
 H₀:Hp
 env:Env
 outer:List Env
 stack:List Env
 ex:List xQ
 fn:Str->Bool
 calm:Bool
 pn:List (xQ×Obj)
 xe:xz->xY->Prop
variable {X:Cx}
def frs (l:List Env):List xQ:=l.filterMap (·.frame)
abbrev Cx.fs (X:Cx):List xQ:=frs X.outer
noncomputable def Vis (sc:xK) (x:Str):Prop:=sc.names.lookup x=some .local∨sc.names.lookup x=some .cell∨sc.names.lookup x=some .free
noncomputable def Loc (sc:xK) (x:Str):Prop:=sc.names.lookup x=some .local∨sc.names.lookup x=some .cell
noncomputable def Look (env:Env) (h:Heap) (m:Str->Option xz) (x:Str) (u:xz):Prop:=
 (env.kindOf x=some .local/\m x=some u)∨((env.kindOf x=some .cell∨env.kindOf x=some .free)/\∃c,env.cells.lookup x=some c/\h.IsCell c (some u))
structure Cx.Ok (X:Cx):Prop where
 mod:Mod X.K X.mg X.base
 kind:X.env.scope.kind=.function
 glob:X.env.globals=xP
 blt:X.env.builtins=builtinsNs
 above:X.s₀.heap.objs.size<=X.env.locals
 inj:∀x y c,X.env.cells.lookup x=some c->X.env.cells.lookup y=some c->x=y
 has:∀x,(X.env.kindOf x=some .cell∨X.env.kindOf x=some .free)->∃c,X.env.cells.lookup x=some c
 cab:∀x c,X.fn x=true->X.env.cells.lookup x=some c->X.s₀.heap.objs.size<=c
 hd:X.calm=true->X.A.handled=none
 frames:X.A.frames=some X.stack
 stk:X.stack=X.outer∨(X.stack=X.env::X.outer/\X.env.frame=some X.env.locals)
 exf:∀b∈X.ex,b≠X.env.locals/\∀x c,X.env.cells.lookup x=some c->c≠b
 bs:∀b o,X.base.get? b=some o->X.s₀.heap.get? b=some o/\X.H₀ b=none
 bsz:X.base.objs.size<=X.s₀.heap.objs.size
 noex:∀b o,X.base.get? b=some o->b ∉ X.ex
 exfs:∀b∈X.ex,b ∉ X.fs
 funs:X.s₀.heap.FunFrames X.base X.outer
 frf:∀b∈X.fs,X.H₀ b=none
structure Inv (X:Cx) (v8:List (xQ×Obj)) (σ:List (Option V)) (H:Hp) (s:xY):Prop where
 ok:X.Ok
 os:s.os=X.s₀.os
 bare:AllBare s.gens
 base:Un X.fs X.ex X.H₀ H X.s₀.heap s.heap
 loc:∃m,s.heap.Ns X.env.locals m/\∀(i:Nat) (x:Str) (v:V),X.N[i]? =some x->σ[i]? =some (some v)->Vis X.env.scope x->∃u,RelV v u/\Look X.env s.heap m x u
 cell:∀x c,X.env.cells.lookup x=some c->∃v,s.heap.IsCell c v
 free:H X.env.locals=none
 Jm:∀x c,X.env.cells.lookup x=some c->H c=none
 pin:∀p∈X.pn++v8,s.heap.get? p.1=some p.2/\H p.1=none/\p.1≠X.env.locals/\p.1 ∉ X.fs/\∀v,p.2.data≠ .cell v
 hok:HOk X.prog X.w H s.heap
 len:σ.length=X.N.length
section
variable {X:Cx} {v8:List (xQ×Obj)} {σ:List (Option V)} {H H':Hp} {s:xY} {h':Heap}
theorem Cx.Ok.nofr (ok:X.Ok) {o:Obj} (e:X.base.get? b=some o):b ∉ X.fs:=λhb=>by have:=(ok.funs.mem hb).1;rw [e] at this;cases this
theorem Inv.bs (I:Inv X v8 σ H s):∀b o,X.base.get? b=some o->s.heap.get? b=some o/\H b=none:=λb o e=>
 ⟨I.base.keep b o (I.ok.bs b o e).1 (I.ok.bs b o e).2 (I.ok.nofr e) (I.ok.noex b o e),I.base.free b o (I.ok.bs b o e).1 (I.ok.bs b o e).2 (I.ok.noex b o e)⟩
theorem Inv.bk (I:Inv X v8 σ H s):∀b o,X.base.get? b=some o->s.heap.get? b=some o:=λb o e=>(I.bs b o e).1
theorem Inv.mod (I:Inv X v8 σ H s):Mod X.K X.mg X.base:=I.ok.mod
theorem Inv.kIn (I:Inv X v8 σ H s):X.K.In s.heap:=I.ok.mod.kin.keeps I.bk
theorem Inv.lt (I:Inv X v8 σ H s):X.env.locals < s.heap.objs.size:=let ⟨_,hn,_⟩:=I.loc;hn.lt
theorem Inv.sz (I:Inv X v8 σ H s):X.s₀.heap.objs.size<=s.heap.objs.size:=zD I.ok.above (Nat.le_of_lt I.lt)
theorem Inv.nofs (I:Inv X v8 σ H s) (h:s.heap.objs.size<=a):a ∉ X.fs:=λhb=>by obtain ⟨_,o,ho,_⟩:=I.ok.funs.mem hb;exact absurd (zq (zk ho) (zD I.sz h)) (qX _)
theorem Inv.cne (I:Inv X v8 σ H s):∀x c,X.env.cells.lookup x=some c->c≠X.env.locals:=λx c e z=>by obtain ⟨v,o,ho,hd⟩:=I.cell x c e;obtain ⟨m,⟨o',es,ep,ho',hd',_⟩,_⟩:=I.loc;rw [z,ho'] at ho;cases ho;rw [hd'] at hd;cases hd
theorem Inv.funs (I:Inv X v8 σ H s):s.heap.FunFrames X.base X.outer:=by
 have all:∀(l:List Env),(∀b∈frs l,b∈X.fs)->X.s₀.heap.FunFrames X.base l->s.heap.FunFrames X.base l:=by
  intro l
  induction l with
  | nil=>intro _ _;trivial
  | cons env r ih=>
   intro hs hl;obtain ⟨hk,⟨L,o,hf,hn,ho,hd⟩,hr⟩:=hl;have hL:L∈X.fs:=hs L (by unfold frs;rw [qw,hf];exact zX);obtain ⟨sl,e⟩:=I.base.slot L o ho (I.ok.frf L hL) hL λz=>I.ok.exfs L z hL
   exact ⟨hk,⟨L,_,hf,hn,e,hd⟩,ih (λb hb=>hs b (by unfold frs;rw [qw,hf];exact zZ _ hb)) hr⟩
 exact all X.outer (λ_ hb=>hb) I.ok.funs
theorem Inv.stack (I:Inv X v8 σ H s):s.heap.FunFrames X.base X.stack:=by
 rcases I.ok.stk with e | ⟨e,hf⟩
 ·rw [e];exact I.funs
 ·rw [e];obtain ⟨m,hn,_⟩:=I.loc;refine .cons (by rw [I.ok.kind];decide) hf hn ?_ I.funs;exact Heap.get?_none_of_le (zD I.ok.bsz I.ok.above)
theorem Inv.Wj (I:Inv X v8 σ H s):∀b∈frs X.stack,b∈X.env.locals::X.fs:=λb hb=>by
 rcases I.ok.stk with e | ⟨e,hf⟩
 ·rw [e] at hb;exact zZ _ hb
 ·rw [e] at hb;unfold frs at hb;rw [qw,hf] at hb;exact hb
theorem Inv.ZEA (I:Inv X v8 σ H s):∀b∈frs X.stack,H b=none:=λb hb=>by
 rcases zK.mp (I.Wj b hb) with e | hb
 ·rw [e];exact I.free
 ·obtain ⟨_,o,ho,_⟩:=I.ok.funs.mem hb;exact I.base.free b o ho (I.ok.frf b hb) λz=>I.ok.exfs b z hb
theorem Inv.step {g':Array GenState} {d':Drawn} (I:Inv X v8 σ H s)
  (hch:∀b∈ch,(b∈X.ex∨X.s₀.heap.objs.size<=b)/\b≠X.env.locals/\(∀x c,X.env.cells.lookup x=some c->c≠b)/\∀p∈X.pn++v8,p.1≠b)
  (keep:∀b o,b≠X.env.locals->b ∉ X.fs->b ∉ ch->s.heap.get? b=some o->H b=none->h'.get? b=some o)
  (slot:∀b o,b≠X.env.locals->b∈X.fs->b ∉ ch->s.heap.get? b=some o->H b=none->∃sl,h'.get? b=some {o with slots:=sl}) (free:∀b o,b ∉ ch->s.heap.get? b=some o->H b=none->H' b=none)
  (there:∀b o,b ∉ ch->s.heap.get? b=some o->∃o',h'.get? b=some o')
  (tups:∀b xs,H b=some (.tup xs)->H' b=some (.tup xs)) (frzs:∀b o u,H b=some (.frz o u)->H' b=some (.frz o u)) (tbls:∀b ps,H b=some (.tbl ps)->∃more,H' b=some (.tbl (ps++more)))
  (ns:∀m,s.heap.Ns X.env.locals m->h'.Ns X.env.locals m) (hok:HOk X.prog X.w H' h') (hg:AllBare g'):
  Inv X v8 σ H' {s with heap:=h',gens:=g',drawn:=d',toks:=t'}:=by
 have neL:∀b o,X.s₀.heap.get? b=some o->b≠X.env.locals:=λb o e=>zE (zq (zk e) I.ok.above)
 have neC:∀b o,X.s₀.heap.get? b=some o->b ∉ X.ex->b ∉ ch:=λb o e hx hb=>by
  rcases (hch b hb).1 with z | z
  ·exact hx z
  ·exact absurd (zq (zk e) z) (qX _)
 have cellK:∀x c,X.env.cells.lookup x=some c->∀v,s.heap.IsCell c v->h'.IsCell c v:=λx c e v ⟨o,ho,hd⟩=>by
  have nch:c ∉ ch:=λz=>(hch c z).2.2.1 x c e rfl
  by_cases hc:c∈X.fs
  ·obtain ⟨sl,q⟩:=slot c o (I.cne x c e) hc nch ho (I.Jm x c e);exact ⟨_,q,hd⟩
  ·exact ⟨o,keep c o (I.cne x c e) hc nch ho (I.Jm x c e),hd⟩
 refine ⟨I.ok,I.os,hg,⟨λb o e n hb hx=> ?_,λb o e n hb hx=> ?_,λb o e n hx=> ?_,λb o e hx=> ?_,λb xs e=>tups b xs (I.base.tups b xs e),λb o xs e=>frzs b o xs (I.base.frzs b o xs e),λb ps e=> ?_⟩,?_,λx c e=> ?_,?_,λx c e=> ?_,λp hp=> ?_,hok,I.len⟩
 ·exact keep b o (neL b o e) hb (neC b o e hx) (I.base.keep b o e n hb hx) (I.base.free b o e n hx)
 ·obtain ⟨sl,e1⟩:=I.base.slot b o e n hb hx;obtain ⟨sl',e2⟩:=slot b _ (neL b o e) hb (neC b o e hx) e1 (I.base.free b o e n hx);exact ⟨sl',e2⟩
 ·obtain ⟨o',e1⟩:=I.base.there b o e hx;exact free b o' (neC b o e hx) e1 (I.base.free b o e n hx)
 ·obtain ⟨o',e1⟩:=I.base.there b o e hx;exact there b o' (neC b o e hx) e1
 ·obtain ⟨m1,e1⟩:=I.base.tbls b ps e;obtain ⟨m2,e2⟩:=tbls b _ e1;exact ⟨m1++m2,by rw [e2,Array.append_assoc]⟩
 ·obtain ⟨m,hn,hl⟩:=I.loc;refine ⟨m,ns m hn,λi x v e1 e2 e3=> ?_⟩;obtain ⟨u,r,l⟩:=hl i x v e1 e2 e3;refine ⟨u,r,?_⟩;rcases l with l | ⟨k,c,e,z⟩
  ·exact .inl l
  ·exact .inr ⟨k,c,e,cellK x c e _ z⟩
 ·obtain ⟨v,z⟩:=I.cell x c e;exact ⟨v,cellK x c e v z⟩
 ·obtain ⟨m,⟨o,_,_,ho,_⟩,_⟩:=I.loc;exact free _ o (λz=>(hch _ z).2.1 rfl) ho I.free
 ·obtain ⟨v,o,ho,hd⟩:=I.cell x c e;exact free c o (λz=>(hch c z).2.2.1 x c e rfl) ho (I.Jm x c e)
 ·obtain ⟨e,n,ne,nf,d⟩:=I.pin p hp;have nch:p.1 ∉ ch:=λz=>(hch p.1 z).2.2.2 p hp rfl
  exact ⟨keep p.1 p.2 ne nf nch e n,free p.1 p.2 nch e n,ne,nf,d⟩
theorem Inv.un (I:Inv X v8 σ H s) (u:Un X.fs [] H H' s.heap h') (hok:HOk X.prog X.w H' h'):Inv X v8 σ H' {s with heap:=h',toks:=t'}:=by
 obtain ⟨m,⟨o,es,ep,ho,r⟩,_⟩:=id I.loc;obtain ⟨sl,hL⟩:=u.any ho I.free (by simp)
 exact I.step (g':=s.gens) (d':=s.drawn) (ch:= []) (λ_ z=>nomatch z) (λb o _ hb _ e n=>u.keep b o e n hb (by simp)) (λb o _ hb _ e n=>u.slot b o e n hb (by simp)) (λb o _ e n=>u.free b o e n (by simp)) (λb o _ e=>u.there b o e (by simp)) u.tups u.frzs u.tbls (λm' hm=>by obtain ⟨o',es',ep',ho',r'⟩:=hm;rw [ho] at ho';cases ho';exact ⟨_,es',ep',hL,r'⟩) hok I.bare
theorem Inv.call {g':Array GenState} {d':Drawn} (I:Inv X v8 σ H s) (u:Un (frs X.stack) ch H H' s.heap h') (hok:HOk X.prog X.w H' h') (hg:AllBare g')
  (hch:∀b∈ch,(b∈X.ex∨X.s₀.heap.objs.size<=b)/\b≠X.env.locals/\(∀x c,X.env.cells.lookup x=some c->c≠b)/\∀p∈X.pn++v8,p.1≠b):
  Inv X v8 σ H' {s with heap:=h',gens:=g',drawn:=d',toks:=t'}:=by
 obtain ⟨m,⟨o,es,ep,ho,r⟩,_⟩:=id I.loc;obtain ⟨sl,hL⟩:=u.any ho I.free λz=>(hch _ z).2.1 rfl
 exact I.step (ch:=ch) hch (λb o hL hb hc e n=>u.keep b o e n (λz=>(zK.mp (I.Wj b z)).elim hL hb) hc) (λb o _ _ hc e n=>u.any e n hc) (λb o hc e n=>u.free b o e n hc) (λb o hc e=>u.there b o e hc) u.tups u.frzs u.tbls (λm' hm=>by obtain ⟨o',es',ep',ho',r'⟩:=hm;rw [ho] at ho';cases ho';exact ⟨_,es',ep',hL,r'⟩) hok hg
theorem Inv.turned {it:xQ} (I:Inv X v8 σ H s) (k:∀b o,b≠it->s.heap.get? b=some o->h'.get? b=some o) (hn:H it=none) (hL:it≠X.env.locals)
  (h1:it∈X.ex∨X.s₀.heap.objs.size<=it) (h2:∀x c,X.env.cells.lookup x=some c->c≠it) (h3:∀p∈X.pn++v8,p.1≠it):Inv X v8 σ H {s with heap:=h',toks:=t'}:=by
 have nit:∀b u,H b=some u->b≠it:=λb u e z=>by rw [z,hn] at e;cases e
 refine I.step (g':=s.gens) (d':=s.drawn) (ch:= [it]) (λb hb=> ?_) (λb o _ _ hc e _=>k b o (λz=>hc (by simp [z])) e) (λb o _ _ hc e _=>⟨o.slots,k b o (λz=>hc (by simp [z])) e⟩) (λ_ _ _ _ n=>n)
  (λb o hc e=>⟨o,k b o (λz=>hc (by simp [z])) e⟩) (λ_ _ e=>e) (λ_ _ _ e=>e) (λb ps e=>⟨#[],by rw [e];simp⟩) (λm hm=> ?_) (λb u e=> ?_) I.bare
 ·have e:b=it:=by simpa using hb
  subst e;exact ⟨h1,hL,h2,h3⟩
 ·obtain ⟨o,es,ep,ho,r⟩:=hm;exact ⟨o,es,ep,k _ o (Ne.symm hL) ho,r⟩
 ·refine (I.hok b u e).stay (λc v hc q=>k c v ?_ q) (λ_ q=>q) λ_ _ q=>q
  rcases hc with z | z
  ·rw [z];exact nit b u e
  ·exact nit c _ z
theorem Inv.tok (I:Inv X v8 σ H s) (t:Nat):Inv X v8 σ H {s with toks:=t}:=I.un (h':=s.heap) (t':=t) Un.refl I.hok
theorem Inv.kept (I:Inv X v8 σ H s) (k:∀b u,s.heap.get? b=some u->h'.get? b=some u):Inv X v8 σ H {s with heap:=h',toks:=t'}:=I.un (Un.kept k) (I.hok.kept k)
theorem Inv.laid (I:Inv X v8 σ H s) (k:∀b u,s.heap.get? b=some u->h'.get? b=some u) (hp:s.heap.objs.size<=a) (new:ObjOk X.prog X.w (upd H a o) h' a o):
  Inv X v8 σ (upd H a o) {s with heap:=h',toks:=t'}:=I.un (Un.laid k hp (I.hok.fresh hp)) (I.hok.laid k hp new)
theorem Inv.write {x e:xQ} (I:Inv X v8 σ H s) (mu:Mut (H x)) (he:e=x∨H e=some (.own x)) (k:∀b u,b≠e->s.heap.get? b=some u->h'.get? b=some u) (heo:∃u,h'.get? e=some u)
  (new:ObjOk X.prog X.w (upd H x o) h' x o):Inv X v8 σ (upd H x o) {s with heap:=h',toks:=t'}:=I.un (Un.write mu he k heo) (I.hok.write mu he k heo new)
theorem Inv.M9 {pins':List (xQ×Obj)} (I:Inv X v8 σ H s) (h:∀p∈pins',s.heap.get? p.1=some p.2/\H p.1=none/\p.1≠X.env.locals/\p.1 ∉ X.fs/\∀v,p.2.data≠ .cell v):Inv X pins' σ H s:=
 ⟨I.ok,I.os,I.bare,I.base,I.loc,I.cell,I.free,I.Jm,λp hp=>(qG.mp hp).elim (λz=>I.pin p (j8 _ z)) (h p),I.hok,I.len⟩
theorem ZEe {N:List Str} (hN:N.Nodup) {j:Nat} (a:N[i]? =some x) (b:N[j]? =some x):i=j:=by obtain ⟨h1,e1⟩:=zF.mp a;obtain ⟨h2,e2⟩:=zF.mp b;exact (List.getElem_inj hN).mp (e1.trans e2.symm)
theorem ZHr {M:Model} {A:xZ} {E:xz->xY->Prop} (I:Inv X v8 σ H s) (hN:X.N.Nodup) (hi:X.N[i]? =some x) (hx:Loc X.env.scope x) (r:RelV v u)
  (h:∀s',Inv X v8 (σ.set i (some v)) H s'->(∃a,qA a s.heap s'.heap/\(a=X.env.locals∨X.env.cells.lookup x=some a))->Q () s') (hf:X.fn x=true∨X.env.scope.names.lookup x=some .local:=by first | exact .inl rfl | exact .inr rfl | assumption):vJ M A (storeName X.env x u) Q E s:=by
 obtain ⟨m,hn,hl⟩:=id I.loc;have hcls:(X.env.scope.kind == .class || (X.env.scope.kind == .module && X.env.locals != X.env.globals))=false:=by rw [I.ok.kind];rfl
 have hiσ:i < σ.length:=by rw [I.len];exact (zF.mp hi).1
 have cne:=I.cne;have tracked:∀{a:xQ} {h':Heap},(∃o,s.heap.get? a=some o/\H a=none)->qA a s.heap h'->HOk X.prog X.w H h':=λ{a h'} ha hs b ob e=>by
  obtain ⟨_,_,hfree⟩:=ha;refine (I.hok b ob e).stay (λc w' hc q=>(hs.2 c ?_).trans q) (λ_ q=>q) λ_ _ q=>q
  rintro rfl;rcases hc with rfl | hc
  ·rw [hfree] at e;cases e
  ·rw [hfree] at hc;cases hc
 rcases hx with hk | hk
 ·refine wpAny_storeName_local hk hn (λh' hn' hs=> ?_) hcls;obtain ⟨oL,_,_,hoL,_⟩:=id hn;refine h _ ⟨I.ok,I.os,I.bare,⟨λb o e n hb hx=> ?_,λb o e n hb hx=> ?_,I.base.free,λb o e hx=> ?_,I.base.tups,I.base.frzs,I.base.tbls⟩,⟨_,hn',λj y v' e1 e2 e3=> ?_⟩,λy c e=> ?_,I.free,I.Jm,λp hp=> ?_,tracked ⟨oL,hoL,I.free⟩ hs,by simpa using I.len⟩ ⟨_,hs,.inl rfl⟩
  ·exact (hs.2 b (zE (zq (zk e) I.ok.above))).trans (I.base.keep b o e n hb hx)
  ·obtain ⟨sl,e1⟩:=I.base.slot b o e n hb hx;exact ⟨sl,(hs.2 b (zE (zq (zk e) I.ok.above))).trans e1⟩
  ·obtain ⟨o',e1⟩:=I.base.there b o e hx;exact ⟨o',(hs.2 b (zE (zq (zk e) I.ok.above))).trans e1⟩
  ·by_cases hj:j=i
   ·subst hj;rw [hi] at e1;cases e1;rw [jQ hiσ] at e2;cases e2;exact ⟨u,r,.inl ⟨hk,by simp⟩⟩
   ·rw [qP (Ne.symm hj)] at e2;obtain ⟨u',r',q⟩:=hl j y v' e1 e2 e3;refine ⟨u',r',?_⟩;rcases q with ⟨k,e⟩ | ⟨k,c,e,z⟩
    ·refine .inl ⟨k,?_⟩;have:y≠x:=λe=>hj (ZEe hN e1 (e ▸ hi))
     simp [this,e]
    ·exact .inr ⟨k,c,e,z.sameBut hs (cne y c e)⟩
  ·obtain ⟨w',z⟩:=I.cell y c e;exact ⟨w',z.sameBut hs (cne y c e)⟩
  ·obtain ⟨e,n,ne,nf,d⟩:=I.pin p hp;exact ⟨(hs.2 p.1 ne).trans e,n,ne,nf,d⟩
 ·have hfn:X.fn x=true:=by
   rcases hf with z | z
   ·exact z
   ·rw [z] at hk;cases hk
  obtain ⟨c,hc⟩:=I.ok.has x (.inl hk);obtain ⟨w',z⟩:=I.cell x c hc;refine wpAny_storeName_cell I.ok.kind hk hc z (λh' hc' hs=> ?_);obtain ⟨oc,hoc,hocd⟩:=id z;refine h {s with heap:=h'} ⟨I.ok,I.os,I.bare,⟨λb o e n hb hx=> ?_,λb o e n hb hx=> ?_,I.base.free,λb o e hx=> ?_,I.base.tups,I.base.frzs,I.base.tbls⟩,⟨m,hn.sameBut hs (Ne.symm (cne x c hc)),λj y v' e1 e2 e3=> ?_⟩,λy c' e=> ?_,I.free,I.Jm,λp hp=> ?_,tracked ⟨oc,hoc,I.Jm x c hc⟩ hs,by simpa using I.len⟩ ⟨c,hs,.inr hc⟩
  ·exact (hs.2 b (zE (zq (zk e) (I.ok.cab x c hfn hc)))).trans (I.base.keep b o e n hb hx)
  ·obtain ⟨sl,e1⟩:=I.base.slot b o e n hb hx;exact ⟨sl,(hs.2 b (zE (zq (zk e) (I.ok.cab x c hfn hc)))).trans e1⟩
  ·obtain ⟨o',e1⟩:=I.base.there b o e hx;exact ⟨o',(hs.2 b (zE (zq (zk e) (I.ok.cab x c hfn hc)))).trans e1⟩
  ·by_cases hj:j=i
   ·subst hj;rw [hi] at e1;cases e1;rw [jQ hiσ] at e2;cases e2;exact ⟨u,r,.inr ⟨.inl hk,c,hc,hc'⟩⟩
   ·rw [qP (Ne.symm hj)] at e2;obtain ⟨u',r',q⟩:=hl j y v' e1 e2 e3;refine ⟨u',r',?_⟩;rcases q with q | ⟨k,c',e,z'⟩
    ·exact .inl q
    ·refine .inr ⟨k,c',e,z'.sameBut hs ?_⟩;rintro rfl;exact hj (ZEe hN e1 (I.ok.inj _ _ _ e hc ▸ hi))
  ·by_cases hcc:c'=c
   ·subst hcc;exact ⟨_,hc'⟩
   ·obtain ⟨w2,z2⟩:=I.cell y c' e;exact ⟨w2,z2.sameBut hs hcc⟩
  ·obtain ⟨e,n,ne,nf,d⟩:=I.pin p hp;refine ⟨(hs.2 p.1 ?_).trans e,n,ne,nf,d⟩;intro q;rw [q,hoc] at e;have q':oc=p.2:=Option.some.inj e;exact d w' (by rw [<-q'];exact hocd)
theorem ZBP {M:Model} {A:xZ} {E:xz->xY->Prop} (I:Inv X v8 σ H s) (hN:X.N.Nodup) (hi:X.N[i]? =some x) (hx:Loc X.env.scope x) (r:RelV v u)
  (h:∀s',Inv X v8 (σ.set i (some v)) H s'->Q () s') (hf:X.fn x=true∨X.env.scope.names.lookup x=some .local:=by first | exact .inl rfl | exact .inr rfl | assumption):vJ M A (storeName X.env x u) Q E s:=
 ZHr I hN hi hx r (λs' I' _=>h s' I') hf
theorem Inv.call' {s':xY} (I:Inv X v8 σ H s) (ho:s'.os=s.os) (u:Un (frs X.stack) ch H H' s.heap s'.heap) (hok:HOk X.prog X.w H' s'.heap) (hg:AllBare s'.gens)
  (hch:∀b∈ch,(b∈X.ex∨X.s₀.heap.objs.size<=b)/\b≠X.env.locals/\(∀x c,X.env.cells.lookup x=some c->c≠b)/\∀p∈X.pn++v8,p.1≠b):Inv X v8 σ H' s':=by
 obtain ⟨h',g',d',t',o'⟩:=s';have e:o'=s.os:=ho;subst e;exact I.call (g':=g') (t':=t') (d':=d') u hok hg hch
end
abbrev XK:=xz->Option xQ->Hp->Prop
abbrev St:=List (Option V)
variable {σ:St}
abbrev VK:=V->Hp->Prop
abbrev TE:=St->Hp->VK->Prop
variable {te:TE}
abbrev TT:=St->Hp->(Bool->Hp->Prop)->Prop
abbrev TA:=St->Hp->(List V->Hp->Prop)->Prop
structure Ends where
 nx:St->Hp->Prop
 rt:VK
 bk:St->Hp->Prop:=λ_ _=>False
 ct:St->Hp->Prop:=λ_ _=>False
abbrev TS:=Ends->St->Hp->Prop
noncomputable def EP (X:Cx) (v8:List (xQ×Obj)) (σ:St) (Q:VK) (u:xz) (s':xY):Prop:=∃v H',Inv X v8 σ H' s'/\RelV v u/\Q v H'
noncomputable def TP (X:Cx) (v8:List (xQ×Obj)) (σ:St) (Q:Bool->Hp->Prop) (b:Bool) (s':xY):Prop:=∃H',Inv X v8 σ H' s'/\Q b H'
noncomputable def AP (X:Cx) (v8:List (xQ×Obj)) (σ:St) (Q:List V->Hp->Prop) (us:List xz) (s':xY):Prop:=∃vs H',Inv X v8 σ H' s'/\Vals vs us/\Q vs H'
noncomputable def SP (X:Cx) (v8:List (xQ×Obj)) (D:Ends) (f:Flow) (s':xY):Prop:=
 match f with
 | .next=>∃σ' H',Inv X v8 σ' H' s'/\D.nx σ' H'
 | .brk=>∃σ' H',Inv X v8 σ' H' s'/\D.bk σ' H'
 | .cont=>∃σ' H',Inv X v8 σ' H' s'/\D.ct σ' H'
 | .ret u=>∃v σ' H',Inv X v8 σ' H' s'/\RelV v u/\D.rt v H'
noncomputable def PE (X:Cx) (e:xJ) (t:TE):Prop:=
 ∀(v8:List (xQ×Obj)) (s:xY) (σ:St) (H:Hp) (Q:VK),Inv X v8 σ H s->t σ H Q->vJ (xR X.prog X.w) X.A (eval e X.env) (EP X v8 σ Q) X.xe s
noncomputable def PT (X:Cx) (e:xJ) (t:TT):Prop:=
 ∀(v8:List (xQ×Obj)) (s:xY) (σ:St) (H:Hp) (Q:Bool->Hp->Prop),Inv X v8 σ H s->t σ H Q->vJ (xR X.prog X.w) X.A (isTrue e X.env (eval e X.env)) (TP X v8 σ Q) X.xe s
noncomputable def PW (X:Cx) (e:xJ) (t:TT):Prop:=
 ∀(whole:Sem xz) (v8:List (xQ×Obj)) (s:xY) (σ:St) (H:Hp) (Q:Bool->Hp->Prop),Inv X v8 σ H s->t σ H Q->vJ (xR X.prog X.w) X.A (isTrue e X.env whole) (TP X v8 σ Q) X.xe s
theorem PW.pt {t:TT} (h:PW X e t):PT X e t:=h _
noncomputable def PA (X:Cx) (es:List xJ) (t:TA):Prop:=
 ∀(pos:Pos) (v8:List (xQ×Obj)) (s:xY) (σ:St) (H:Hp) (Q:List V->Hp->Prop),Inv X v8 σ H s->t σ H Q->vJ (xR X.prog X.w) X.A (spliced (xy pos (vQ es X.env))) (AP X v8 σ Q) X.xe s
noncomputable def PS (X:Cx) (st:xq) (t:TS):Prop:=
 ∀(v8:List (xQ×Obj)) (s:xY) (σ:St) (H:Hp) (D:Ends),Inv X v8 σ H s->t D σ H->vJ (xR X.prog X.w) X.A (exec st X.env) (SP X v8 D) X.xe s
noncomputable def PSs (X:Cx) (st:List xq) (t:TS):Prop:=
 ∀(v8:List (xQ×Obj)) (s:xY) (σ:St) (H:Hp) (D:Ends),Inv X v8 σ H s->t D σ H->vJ (xR X.prog X.w) X.A (execs st X.env) (SP X v8 D) X.xe s
theorem thn {α:Type} {t:Sem α} {Q Q':α->xY->Prop} {M:Model} (h:vJ M A t Q E s) (hQ:∀a s,Q a s->Q' a s):vJ M A t Q' E s:=vz h hQ λ_ _ x=>x
section
variable {X:Cx}
def tVar (i:Nat):TE:=λσ H Q=>∃v,σ[i]? =some (some v)/\Q v H
def tC (v:V):TE:=λ_ H Q=>Q v H
theorem ZQy {pos:Pos} (hN:X.N[i]? =some x) (hv:Vis X.env.scope x) (hd:(x == ("__debug__":Str))=false:=by decide) (hcd:(x == ("__classdict__":Str))=false:=by decide):PE X (.Name x pos) (tVar i):=by
 intro v8 s σ H Q I h;obtain ⟨v,e,h⟩:=h;obtain ⟨m,hn,hl⟩:=I.loc;obtain ⟨u,r,l⟩:=hl i x v hN e hv;have fin:EP X v8 σ Q u s:=⟨v,H,I,r,h⟩;rcases l with ⟨hk,hm⟩ | ⟨hk,c,hc,hcell⟩
 ·exact wpAny_Name (wpAny_loadName_local I.ok.kind hk hn hm fin) hd
 ·rcases hk with hk | hk
  ·exact wpAny_Name (wpAny_loadName_cell I.ok.kind hk hc hcell fin) hd
  ·exact wpAny_Name (wpAny_loadName_free I.ok.kind hk hc hcell fin hcd) hd
theorem ZPE {i j pos}:PE X (.Constant (.int i) j pos) (tC (.int i)):=λ_ _ _ H _ I h=>wpAny_Constant_int ⟨.int i,H,I.tok _,⟨_,rfl⟩,h⟩
theorem ZK6 {b j pos}:PE X (.Constant (.bool b) j pos) (tC (.bl b)):=λ_ _ _ H _ I h=>Constant_bool ⟨.bl b,H,I,rfl,h⟩
theorem ZLb {j pos}:PE X (.Constant .none j pos) (tC .non):=λ_ _ _ H _ I h=>Constant_none ⟨.non,H,I,rfl,h⟩
theorem ZNJ {x j pos}:PE X (.Constant (.str x) j pos) (tC (.str x)):=λ_ _ _ H _ I h=>Calls.Constant_str ⟨.str x,H,I.tok _,⟨_,rfl⟩,h⟩
def Gl (X:Cx) (x:Str):Prop:=X.env.kindOf x=some .globalImplicit
theorem ZA0 {E:xz->xY->Prop} {pos:Pos} {Q:xz->xY->Prop} (I:Inv X v8 σ H s) (hg:Gl X x) (hm:X.mg x=some u) (h:Q u s)
  (hd:(x == ("__debug__":Str))=false:=by decide):vJ (xR X.prog X.w) X.A (eval (.Name x pos) X.env) Q E s:=
 Calls.Name_function_global I.ok.kind hg (Calls.loadGlobal_global (by rw [I.ok.glob];exact I.mod.glob.keeps I.bk) hm h) hd
theorem Kg {E:xz->xY->Prop} {pos:Pos} {Q:xz->xY->Prop} (I:Inv X v8 σ H s) (hg:Gl X x) (hm:X.mg x=none) (hv:xB x=some u) (h:Q u s)
  (hn:x≠"__name__":=by decide) (hd:(x == ("__debug__":Str))=false:=by decide):vJ (xR X.prog X.w) X.A (eval (.Name x pos) X.env) Q E s:=by
 obtain ⟨mb,h1,h2⟩:=I.mod.blt;exact Calls.Name_function_global I.ok.kind hg (Calls.loadGlobal_builtin (by rw [I.ok.glob];exact I.mod.glob.keeps I.bk) hm (by rw [I.ok.blt];exact h1.keeps I.bk) ((h2 x hn).trans hv) h) hd
theorem ZLc {pos:Pos} (hg:Gl X x) (hm:X.mg x=some u) (r:RelV v u) (hd:(x == ("__debug__":Str))=false:=by decide):PE X (.Name x pos) (tC v):=
 λ_ _ _ H _ I h=>ZA0 I hg hm ⟨v,H,I,r,h⟩ hd
theorem ZKe {pos:Pos} (hg:Gl X x) (hm:X.mg x=none) (hv:xB x=some u) (r:RelV v u) (hn:x≠"__name__":=by decide) (hd:(x == ("__debug__":Str))=false:=by decide):PE X (.Name x pos) (tC v):=
 λ_ _ _ H _ I h=>Kg I hg hm hv ⟨v,H,I,r,h⟩ hn hd
variable {a b:xJ} {ta tb:TE} {pos:Pos}
def tB (t:TE):TT:=λσ H Q=>t σ H λx H1=>∃c,x=.bl c/\Q c H1
theorem ZLB {t:TE} (h:PE X e t) (he:∀whole,isTrue e X.env whole=(do let v<-whole;standAt e.pos;holding [v] (truthy v)):=by intro _;rfl):PT X e (tB t):=by intro v8 s σ H Q I hw;refine isTrue_plain (thn (h v8 s σ H _ I hw) λv s1 ⟨x,H1,I1,r1,q1⟩=> ?_) (he _);obtain ⟨d,rfl,q⟩:=q1;cases r1;exact v4 ⟨H1,I1,q⟩
variable {tA tB':TT} {rest:List xJ}
noncomputable def tAnd (t u:TT):TT:=λσ H Q=>t σ H λc H1=>if c=true then u σ H1 Q else Q false H1
noncomputable def tOr (t u:TT):TT:=λσ H Q=>t σ H λc H1=>if c=true then Q true H1 else u σ H1 Q
def tNot (t:TT):TT:=λσ H Q=>t σ H λc H1=>Q (!c) H1
theorem pw_and1 (ha:PT X a tA):PW X (.BoolOp .And [a] pos) tA:=by
 intro wh v8 s σ H Q I h;refine isTrue_and (thn (ha v8 s σ H Q I h) λc s1 e=> ?_);cases c with
 | true=>exact isTrue_and_nil e
 | false=>exact e
theorem pw_or1 (ha:PT X a tA):PW X (.BoolOp .Or [a] pos) tA:=by
 intro wh v8 s σ H Q I h;refine isTrue_or (thn (ha v8 s σ H Q I h) λc s1 e=> ?_);cases c with
 | false=>exact isTrue_or_nil e
 | true=>exact e
theorem pw_and (ha:PT X a tA) (hb:PW X (.BoolOp .And (b::rest) pos) tB'):PW X (.BoolOp .And (a::b::rest) pos) (tAnd tA tB'):=by
 intro wh v8 s σ H Q I h;refine isTrue_and (thn (ha v8 s σ H _ I h) λc s1 ⟨H1,I1,q1⟩=> ?_);cases c with
 | true=>exact hb wh v8 s1 σ H1 Q I1 q1
 | false=>exact ⟨H1,I1,q1⟩
theorem pw_or (ha:PT X a tA) (hb:PW X (.BoolOp .Or (b::rest) pos) tB'):PW X (.BoolOp .Or (a::b::rest) pos) (tOr tA tB'):=by
 intro wh v8 s σ H Q I h;refine isTrue_or (thn (ha v8 s σ H _ I h) λc s1 ⟨H1,I1,q1⟩=> ?_);cases c with
 | true=>exact ⟨H1,I1,q1⟩
 | false=>exact hb wh v8 s1 σ H1 Q I1 q1
theorem ZQ3 (ha:PT X a tA):PT X (.UnaryOp .Not a pos) (tNot tA):=by intro v8 s σ H Q I h;exact isTrue_not (ha v8 s σ H (λc H1=>Q (!c) H1) I h)
noncomputable def ZMd (ta tb:TE):TE:=λσ H Q=>ta σ H λx H1=>∃c,x=.bl c/\if c=true then tb σ H1 Q else Q (.bl false) H1
noncomputable def tOrV (ta tb:TE):TE:=λσ H Q=>ta σ H λx H1=>∃c,x=.bl c/\if c=true then Q (.bl true) H1 else tb σ H1 Q
def ZKq (ta:TE):TE:=λσ H Q=>ta σ H λx H1=>∃c,x=.bl c/\Q (.bl (!c)) H1
theorem ZKM {op} {t:TE} (h:PE X a t):PE X (.BoolOp op [a] pos) t:=λv8 s σ H Q I hw=>BoolOp_one (h v8 s σ H Q I hw)
theorem ZMR (ha:PE X a ta) (hb:PE X (.BoolOp .And (b::rest) pos) tb):PE X (.BoolOp .And (a::b::rest) pos) (ZMd ta tb):=by
 intro v8 s σ H Q I h;refine BoolOp_and (thn (ha v8 s σ H _ I h) λv s1 ⟨x,H1,I1,r1,q1⟩=> ?_);obtain ⟨c,rfl,q1⟩:=q1;cases r1;refine v4 ?_;cases c with
 | true=>exact hb v8 s1 σ H1 Q I1 q1
 | false=>exact ⟨.bl false,H1,I1,rfl,q1⟩
theorem ZKv (ha:PE X a ta) (hb:PE X (.BoolOp .Or (b::rest) pos) tb):PE X (.BoolOp .Or (a::b::rest) pos) (tOrV ta tb):=by
 intro v8 s σ H Q I h;refine BoolOp_or (thn (ha v8 s σ H _ I h) λv s1 ⟨x,H1,I1,r1,q1⟩=> ?_);obtain ⟨c,rfl,q1⟩:=q1;cases r1;refine v4 ?_;cases c with
 | false=>exact hb v8 s1 σ H1 Q I1 q1
 | true=>exact ⟨.bl true,H1,I1,rfl,q1⟩
theorem ZMg (ha:PE X a ta):PE X (.UnaryOp .Not a pos) (ZKq ta):=by intro v8 s σ H Q I h;refine UnaryOp_ (thn (ha v8 s σ H _ I h) λv s1 ⟨x,H1,I1,r1,q1⟩=> ?_);obtain ⟨c,rfl,q1⟩:=q1;cases r1;exact not_of (v4 ⟨.bl (!c),H1,I1,rfl,q1⟩)
noncomputable def tIf (t:TT) (ta tb:TE):TE:=λσ H Q=>t σ H λc H1=>if c=true then ta σ H1 Q else tb σ H1 Q
theorem ZNn (hc:PT X c tA) (ha:PE X a ta) (hb:PE X b tb):PE X (.IfExp c a b pos) (tIf tA ta tb):=by
 intro v8 s σ H Q I h;refine wpAny_IfExp (thn (hc v8 s σ H _ I h) λd s1 ⟨H1,I1,q1⟩=> ?_);cases d with
 | true=>exact ha v8 s1 σ H1 Q I1 q1
 | false=>exact hb v8 s1 σ H1 Q I1 q1
end
noncomputable def SqL (K:PySem.W.Frag) (H:Hp) (a:xQ) (xs:List V):Prop:=
 Rd H a (.lst xs)∨
  ∃(o:Obj) (its:Array xz) (n:Nat),K.lookup a=some o/\o.cls=.type "list"/\o.dict=none/\o.data=.seq its n/\its.size<=sizeLine/\Vals xs its.toList
noncomputable def SqT (K:PySem.W.Frag) (H:Hp) (a:xQ) (xs:List V):Prop:=
 Rd H a (.tup xs)∨
  ∃(o:Obj) (its:Array xz) (n:Nat),K.lookup a=some o/\o.cls=.type "tuple"/\o.data=.seq its n/\its.size<=sizeLine/\Vals xs its.toList
noncomputable def absV:xz->Option V
 | .none=>some .non
 | .bool b=>some (.bl b)
 | .int i _=>some (.int i)
 | .str x _=>some (.str x)
 | .bytes b _=>some (.byt b)
 | .float b _=>some (.flt b)
 | .ref a=>some (.ref a)
 | .type n=>some (.ty n)
 | _=>none
theorem RelV.abs {x:V} (r:RelV x u):absV u=some x:=by
 cases x with
 | non=>cases r;rfl
 | bl _=>cases r;rfl
 | int _=>obtain ⟨t,rfl⟩:=r;rfl
 | str _=>obtain ⟨t,rfl⟩:=r;rfl
 | byt _=>obtain ⟨t,rfl⟩:=r;rfl
 | flt _=>obtain ⟨t,rfl⟩:=r;rfl
 | ref _=>cases r;rfl
 | ty _=>cases r;rfl
theorem RelV.inj {x:V} (r:RelV x u) (q:RelV y u):x=y:=Option.some.inj (r.abs.symm.trans q.abs)
theorem Vals.inj:∀{xs ys:List V} {us:List xz},Vals xs us->Vals ys us->xs=ys
 | _,_,_,.nil,.nil=>rfl
 | _,_,_,.cons r t,.cons r' t'=>by rw [r.inj r',Vals.inj t t']
section
variable {X:Cx} {v8:List (xQ×Obj)} {σ:St} {H:Hp} {s:xY} {a:xQ} {xs ys:List V}
theorem SqL.of (h:H a=some (.lst xs)):SqL K H a xs:=.inl (.inl h)
theorem SqT.of (h:H a=some (.tup xs)):SqT K H a xs:=.inl (.inl h)
theorem Inv.list (I:Inv X v8 σ H s) (h:SqL X.K H a xs):∃its:List xz,Vals xs its/\PlainL s.heap a its.toArray/\xs.length<=sizeLine:=by
 rcases h with h | ⟨o,its,n,hk,hc,hd,hs,hz,r⟩
 ·obtain ⟨z,its,n,r,e⟩:=h.ok I.hok;exact ⟨its,r,⟨_,n,e,rfl,rfl,rfl⟩,z⟩
 ·refine ⟨its.toList,r,⟨o,n,I.kIn a o hk,hc,hd,by simpa using hs⟩,?_⟩;have e:=r.length;simp only [q9] at e;lia
theorem Inv.tuple (I:Inv X v8 σ H s) (h:SqT X.K H a xs):∃its:List xz,Vals xs its/\IsTup s.heap a its.toArray/\xs.length<=sizeLine:=by
 rcases h with h | ⟨o,its,n,hk,hc,hs,hz,r⟩
 ·obtain ⟨z,its,r,p⟩:=h.ok I.hok;exact ⟨its,r,p,z⟩
 ·refine ⟨its.toList,r,⟨o,I.kIn a o hk,hc,n,by simpa using hs⟩,?_⟩;have e:=r.length;simp only [q9] at e;lia
theorem Inv.ZCV (I:Inv X v8 σ H s) (h:SqL X.K H a xs) (h':SqL X.K H a ys):xs=ys:=by
 obtain ⟨its,r,⟨o,n,e,_,_,d⟩,_⟩:=I.list h;obtain ⟨its',r',⟨o',n',e',_,_,d'⟩,_⟩:=I.list h';rw [e] at e';cases e';rw [d] at d';injection d' with d1 _
 have:its=its':=by simpa using congrArg Array.toList d1
 subst this;exact r.inj r'
theorem Inv.ZAf (I:Inv X v8 σ H s) (h:SqT X.K H a xs) (h':SqT X.K H a ys):xs=ys:=by
 obtain ⟨its,r,⟨o,e,_,n,d⟩,_⟩:=I.tuple h;obtain ⟨its',r',⟨o',e',_,n',d'⟩,_⟩:=I.tuple h';rw [e] at e';cases e';rw [d] at d';injection d' with d1 _
 have:its=its':=by simpa using congrArg Array.toList d1
 subst this;exact r.inj r'
end
abbrev Cx.wish (X:Cx) (E:xz->xY->Prop):Cx:={X with xe:=E}
abbrev Cx.nox (X:Cx):Cx:=X.wish λ_ _=>False
theorem Cx.Ok.wish (ok:X.Ok) (E:xz->xY->Prop):(X.wish E).Ok:=
 ⟨ok.mod,ok.kind,ok.glob,ok.blt,ok.above,ok.inj,ok.has,ok.cab,ok.hd,ok.frames,ok.stk,ok.exf,ok.bs,ok.bsz,ok.noex,ok.exfs,ok.funs,ok.frf⟩
theorem Cx.Ok.unwish (ok:(X.wish E).Ok):X.Ok:=
 ⟨ok.mod,ok.kind,ok.glob,ok.blt,ok.above,ok.inj,ok.has,ok.cab,ok.hd,ok.frames,ok.stk,ok.exf,ok.bs,ok.bsz,ok.noex,ok.exfs,ok.funs,ok.frf⟩
section
variable {X:Cx} {v8:List (xQ×Obj)} {σ:St} {H:Hp} {s:xY} {E:xz->xY->Prop}
theorem Inv.wish (I:Inv X v8 σ H s) (E:xz->xY->Prop):Inv (X.wish E) v8 σ H s:=⟨I.ok.wish E,I.os,I.bare,I.base,I.loc,I.cell,I.free,I.Jm,I.pin,I.hok,I.len⟩
theorem Inv.unwish (I:Inv (X.wish E) v8 σ H s):Inv X v8 σ H s:=⟨I.ok.unwish,I.os,I.bare,I.base,I.loc,I.cell,I.free,I.Jm,I.pin,I.hok,I.len⟩
theorem SP.unwish {D:Ends} {f:Flow} {s':xY} (h:SP (X.wish E) v8 D f s'):SP X v8 D f s':=by
 cases f with
 | next=>obtain ⟨σ',H',I,q⟩:=h;exact ⟨σ',H',I.unwish,q⟩
 | brk=>obtain ⟨σ',H',I,q⟩:=h;exact ⟨σ',H',I.unwish,q⟩
 | cont=>obtain ⟨σ',H',I,q⟩:=h;exact ⟨σ',H',I.unwish,q⟩
 | ret u=>obtain ⟨v,σ',H',I,r,q⟩:=h;exact ⟨v,σ',H',I.unwish,r,q⟩
theorem PSs.nox {st:List xq} {t:TS} (h:PSs X.nox st t):PSs X st t:=λv8 s σ H D I hw=>
 vz (h v8 s σ H D (I.wish _) hw) (λ_ _ q=>q.unwish) λ_ _ z=>False.elim z
end
section
variable {X:Cx} {st:xq} {rest:List xq} {t u:TS} {e:xJ} {te:TE} {pos:Pos}
def ZOc:TS:=λD σ H=>D.nx σ H
def tSeq (t u:TS):TS:=λD σ H=>t {D with nx:=u D} σ H
theorem ZLf:PSs X [] ZOc:=λ_ _ σ H _ I h=>wpAny_execs_nil ⟨σ,H,I,h⟩
theorem ZOL (h1:PS X st t) (h2:PSs X rest u):PSs X (st::rest) (tSeq t u):=by
 intro v8 s σ H D I h;refine wpAny_execs_cons (thn (h1 v8 s σ H {D with nx:=u D} I h) λf s1 q=> ?_);cases f with
 | next=>
  obtain ⟨σ',H',I',q⟩:=q;exact h2 v8 s1 σ' H' D I' q
 | ret v=>exact q
 | brk=>exact q
 | cont=>exact q
theorem ZPQ (h1:PS X st t):PSs X [st] t:=by
 intro v8 s σ H D I h;refine wpAny_execs_cons (thn (h1 v8 s σ H D I h) λf s1 q=> ?_);cases f with
 | next=>exact wpAny_execs_nil q
 | ret v=>exact q
 | brk=>exact q
 | cont=>exact q
theorem Inv.quiet (I:Inv X v8 σ H s):interactive X.env=false:=by simp [interactive,I.ok.kind]
def ZQ0 (te:TE):TS:=λD σ H=>te σ H λ_ H1=>D.nx σ H1
theorem ZL9 (he:PE X e te) (hs:swapsWith e none pos.line X.env=pure false:=by rfl):PS X (.Expr e pos) (ZQ0 te):=by intro v8 s σ H D I h;exact wpAny_Expr_any (thn (he v8 s σ H _ I h) λv s1 ⟨x,H1,I1,r1,q1⟩=>⟨σ,H1,I1,q1⟩) I.quiet hs
def tRet (te:TE):TS:=λD σ H=>te σ H D.rt
theorem ZPp (he:PE X e te):PS X (.Return (some e) pos) (tRet te):=by intro v8 s σ H D I h;exact wpAny_Return_some (thn (he v8 s σ H _ I h) λv s1 ⟨x,H1,I1,r1,q1⟩=>⟨x,σ,H1,I1,r1,q1⟩)
noncomputable def tIfS (c:TT) (t u:TS):TS:=λD σ H=>c σ H λb H1=>if b=true then t D σ H1 else u D σ H1
theorem ZOi {a b:List xq} {tc:TT} (hc:PT X c tc) (ha:PSs X a t) (hb:PSs X b u):PS X (.If c a b pos) (tIfS tc t u):=by
 intro v8 s σ H D I h;refine wpAny_If (thn (hc v8 s σ H _ I h) λd s1 ⟨H1,I1,q1⟩=> ?_);cases d with
 | true=>exact ha v8 s1 σ H1 D I1 q1
 | false=>exact hb v8 s1 σ H1 D I1 q1
end
abbrev TG:=V->St->Hp->(St->Hp->Prop)->Prop
abbrev TGs:=List V->St->Hp->(St->Hp->Prop)->Prop
noncomputable def PG (X:Cx) (target:xJ) (t:TG):Prop:=
 ∀(v8:List (xQ×Obj)) (s:xY) (σ:St) (H:Hp) (v:V) (u:xz) (Q:St->Hp->Prop),Inv X v8 σ H s->RelV v u->t v σ H Q->
  vJ (xR X.prog X.w) X.A (assign target X.env u) (λ_ s'=>∃σ' H',Inv X v8 σ' H' s'/\Q σ' H') X.xe s
noncomputable def PGs (X:Cx) (ts:List xJ) (t:TGs):Prop:=
 ∀(v8:List (xQ×Obj)) (s:xY) (σ:St) (H:Hp) (vs:List V) (us:List xz) (Q:St->Hp->Prop),Inv X v8 σ H s->Vals vs us->t vs σ H Q->
  vJ (xR X.prog X.w) X.A (assignInOrder ((xw ts X.env).map (·.2)) us) (λ_ s'=>∃σ' H',Inv X v8 σ' H' s'/\Q σ' H') X.xe s
abbrev TSet:=V->V->V->Hp->(Hp->Prop)->Prop
noncomputable def PSet (X:Cx) (t:TSet):Prop:=
 ∀(v8:List (xQ×Obj)) (s:xY) (σ:St) (H:Hp) (o i v:V) (ov iv u:xz) (Q:Hp->Prop),Inv X v8 σ H s->RelV o ov->RelV i iv->RelV v u->t o i v H Q->
  vJ (xR X.prog X.w) X.A (setItem ov iv u) (λ_ s'=>∃H',Inv X v8 σ H' s'/\Q H') X.xe s
abbrev TIp:=V->V->Hp->VK->Prop
noncomputable def PIp (X:Cx) (op:Operator) (t:TIp):Prop:=
 ∀(v8:List (xQ×Obj)) (s:xY) (σ:St) (H:Hp) (x y:V) (v u:xz) (Q:VK),Inv X v8 σ H s->RelV x v->RelV y u->t x y H Q->
  vJ (xR X.prog X.w) X.A (inplaceOp op v u) (EP X v8 σ Q) X.xe s
section
variable {X:Cx} {pos:Pos}
def ZE5 (i:Nat):TG:=λv σ H Q=>Q (σ.set i (some v)) H
theorem ZQM (hN:X.N.Nodup) (hi:X.N[i]? =some x) (hx:Loc X.env.scope x) (hf:X.fn x=true∨X.env.scope.names.lookup x=some .local:=by first | exact .inl rfl | exact .inr rfl | assumption):PG X (.Name x pos) (ZE5 i):=by intro v8 s σ H v u Q I r h;exact wpAny_assign_Name (ZBP I hN hi hx r (λs' I'=>⟨_,H,I',h⟩) hf)
def gNil:TGs:=λvs σ H Q=>vs= []/\Q σ H
noncomputable def ZKY (t:TG) (u:TGs):TGs:=λvs σ H Q=>∃v r,vs=v::r/\t v σ H λσ' H'=>u r σ' H' Q
theorem ZKb:PGs X [] gNil:=by intro v8 s σ H vs us Q I r h;obtain ⟨e,h⟩:=h;subst e;cases r;exact assignInOrder_nil ⟨σ,H,I,h⟩
theorem ZKy {es:List xJ} {t:TG} {u:TGs} (h1:PG X e t) (h2:PGs X es u)
  (hs:(xw (e::es) X.env).map (·.2)=assign e X.env::(xw es X.env).map (·.2):=by rfl):PGs X (e::es) (ZKY t u):=by
 intro v8 s σ H vs us Q I r h;obtain ⟨v,vr,e1,h⟩:=h;subst e1;cases r with
 | cons r rr=>
  rw [hs];refine assignInOrder_cons (thn (h1 v8 s σ H _ _ _ I r h) λ_ s1 ⟨σ1,H1,I1,q1⟩=> ?_);exact h2 v8 s1 σ1 H1 _ _ Q I1 rr q1
noncomputable def gTup (K:PySem.W.Frag) (n:Nat) (t:TGs):TG:=λv σ H Q=>∃a xs,v=.ref a/\SqT K H a xs/\xs.length=n/\t xs σ H Q
theorem ZQq {es:List xJ} {k:Nat} {t:TGs} {n:Nat} (hc:X.calm=true) (h:PGs X es t)
  (hn:(xw es X.env).length=n:=by rfl) (hst:(xw es X.env).findIdx? (·.1)=none:=by rfl):PG X (.Tuple es k pos) (gTup X.K n t):=by
 intro v8 s σ H v u Q I r hw;obtain ⟨a,xs,e1,hq,hl,hw⟩:=hw;subst e1;cases r;obtain ⟨its,rv,ht,hz⟩:=I.tuple hq;refine assign_Tuple_tuple (I.ok.hd hc) ht (by simp [hn,<-hl,rv.length]) hst λh' hx=> ?_
 have I1:Inv X v8 σ H {s with heap:=h'}:=I.kept (t':=s.toks) λb o e=>hx b o (zE (zk e)) e
 exact h v8 _ σ H xs _ Q I1 (by simpa using rv) hw
noncomputable def gSub (to ti:TE) (t:TSet):TG:=λv σ H Q=>to σ H λo H1=>ti σ H1 λi H2=>t o i v H2 λH3=>Q σ H3
theorem ZQr {o i:xJ} {to ti:TE} {t:TSet} (ho:PE X o to) (hi:PE X i ti) (hs:PSet X t)
  (ha:∀v,assign (.Subscript o i pos) X.env v=(do
   let ov<-holding [v] (eval o X.env);let iv<-holding [v,ov] (eval i X.env)
   standAt pos
   holding [v,ov,iv] (setItem ov iv v)
   release [v,ov,iv] []):=by intro _;rfl):PG X (.Subscript o i pos) (gSub to ti t):=by
 intro v8 s σ H v u Q I r h;rw [ha];refine vV (vq (thn (ho v8 s σ H _ I h) λov s1 ⟨x,H1,I1,r1,q1⟩=> ?_));refine vV (vq (thn (hi v8 s1 σ H1 _ I1 q1) λiv s2 ⟨y,H2,I2,r2,q2⟩=> ?_));refine vV (wpAny_standAt (vV (vq (thn (hs v8 s2 σ H2 x y v ov iv u _ I2 r1 r2 r q2) λ_ s3 ⟨H3,I3,q3⟩=> ?_))));exact wpAny_release ⟨σ,H3,I3,q3⟩
def ZC2 (te:TE) (g:TG):TS:=λD σ H=>te σ H λx H1=>g x σ H1 D.nx
theorem ZQs {g:TG} (he:PE X e te) (hg:PG X tg g) (hs:swapsWithSole [tg] e pos.line X.env=pure false:=by rfl) (hw:swappedStores [tg] e X.env=pure none:=by rfl)
  (h1:(xw [tg] X.env).map (·.2)= [assign tg X.env]:=by rfl):PS X (.Assign [tg] e pos) (ZC2 te g):=by
 intro v8 s σ H D I h;refine wpAny_Assign_stores (thn (he v8 s σ H _ I h) λv s1 ⟨x,H1,I1,r1,q1⟩=> ?_) hs hw;rw [h1];exact thn (hg v8 s1 σ H1 x v _ I1 r1 q1) λ_ s2 q=>q
theorem ZPu {pos':Pos} (hN:X.N.Nodup) (hi:X.N[i]? =some x) (hx:Loc X.env.scope x) (he:PE X e te) (hs:swapsWith e (some (.Name x pos')) pos.line X.env=pure false:=by rfl) (hf:X.fn x=true∨X.env.scope.names.lookup x=some .local:=by first | exact .inl rfl | exact .inr rfl | assumption):
  PS X (.Assign [.Name x pos'] e pos) (ZC2 te (ZE5 i)):=by
 intro v8 s σ H D I h;refine wpAny_Assign_Name (thn (he v8 s σ H _ I h) λv s1 ⟨y,H1,I1,r1,q1⟩=> ?_) hs;exact ZBP I1 hN hi hx r1 (λs2 I2=>⟨_,H1,I2,q1⟩) hf
noncomputable def tAug (i:Nat) (te:TE) (ti:TIp):TS:=λD σ H=>∃x,σ[i]? =some (some x)/\te σ H λy H1=>ti x y H1 λz H2=>D.nx (σ.set i (some z)) H2
theorem ZLW {op:Operator} {ti:TIp} {pos':Pos} (hN:X.N.Nodup) (hi:X.N[i]? =some x) (hx:Loc X.env.scope x) (he:PE X e te) (ho:PIp X op ti) (hf:X.fn x=true∨X.env.scope.names.lookup x=some .local:=by first | exact .inl rfl | exact .inr rfl | assumption):
  PS X (.AugAssign (.Name x pos') op e pos) (tAug i te ti):=by
 intro v8 s σ H D I h;obtain ⟨v,e1,h⟩:=h;obtain ⟨m,hn,hl⟩:=I.loc;have vis:Vis X.env.scope x:=by rcases hx with k | k;exact .inl k;exact .inr (.inl k)
 obtain ⟨u,r,l⟩:=hl i x v hi e1 vis;refine wpAny_AugAssign_Name ?_
 have go:vJ (xR X.prog X.w) X.A (eval e X.env) (λw s₂=>vJ (xR X.prog X.w) X.A (inplaceOp op u w) (λr s₃=>vJ (xR X.prog X.w) X.A (storeName X.env x r) (λ_=>SP X v8 D .next) X.xe s₃) X.xe s₂) X.xe s:=by
  refine thn (he v8 s σ H _ I h) λw s1 ⟨y,H1,I1,r1,q1⟩=> ?_
  refine thn (ho v8 s1 σ H1 v y u w _ I1 r r1 q1) λz s2 ⟨zv,H2,I2,r2,q2⟩=> ?_
  exact ZBP I2 hN hi hx r2 (λs3 I3=>⟨_,H2,I3,q2⟩) hf
 rcases l with ⟨hk,hm⟩ | ⟨hk,c,hc,hcell⟩
 ·exact wpAny_loadName_local I.ok.kind hk hn hm go
 ·rcases hk with hk | hk
  ·exact wpAny_loadName_cell I.ok.kind hk hc hcell go
  ·rcases hx with k | k
   ·have:X.env.scope.names.lookup x=some .free:=hk;rw [k] at this;cases this
   ·have:X.env.scope.names.lookup x=some .free:=hk;rw [k] at this;cases this
noncomputable def ipI (f:Int->Int->Int):TIp:=λx y H Q=>∃i j,x=.int i/\y=.int j/\Q (.int (f i j)) H
theorem ZQP:PIp X .Add (ipI λi j=>i + j):=by intro v8 s σ H x y v u Q I r1 r2 h;obtain ⟨i,j,e1,e2,q⟩:=h;subst e1;subst e2;obtain ⟨t,rfl⟩:=r1;obtain ⟨t',rfl⟩:=r2;exact iadd_int ⟨.int _,H,I.tok _,⟨_,rfl⟩,q⟩
theorem ZOE:PIp X .Sub (ipI λi j=>i - j):=by intro v8 s σ H x y v u Q I r1 r2 h;obtain ⟨i,j,e1,e2,q⟩:=h;subst e1;subst e2;obtain ⟨t,rfl⟩:=r1;obtain ⟨t',rfl⟩:=r2;exact isub_int ⟨.int _,H,I.tok _,⟨_,rfl⟩,q⟩
end
section
variable {X:Cx} {pos:Pos}
noncomputable def ZQC (c:TT) (tb:TS):TS:=λD σ H=>∃W:Nat->St->Hp->Prop,(∃m,W m σ H)/\∀m σ H,W m σ H->
 c σ H λb H1=>if b=true then∃N:St->Hp->Prop,(∀σ' H',N σ' H'->∃m',m' < m/\W m' σ' H')/\tb {D with nx:=N,ct:=N,bk:=D.nx} σ H1 else D.nx σ H1
theorem ZMx {tc:TT} {tb:TS} (hp:PassesOwn (xR X.prog X.w) X.A X.env X.xe) (hc:PT X c tc) (hb:PSs X body tb):PS X (.While c body [] pos) (ZQC tc tb):=by
 intro v8 s σ H D I h;obtain ⟨W,⟨m0,w0⟩,turn⟩:=h;refine wpAny_While (codeAny_whileLoop (λn s'=>∃σ' H',Inv X v8 σ' H' s'/\W n σ' H') ?_ m0 ⟨σ,H,I,w0⟩);rintro n s1 ⟨σ1,H1,I1,w1⟩;refine vx hp (thn (hc v8 s1 σ1 H1 _ I1 (turn n σ1 H1 w1)) λb s2 ⟨H2,I2,q2⟩=> ?_);cases b with
 | true=>
  obtain ⟨N,hN,q2⟩:=q2;rw [if_pos rfl];refine vx hp (thn (hb v8 s2 σ1 H2 _ I2 q2) λf s3 q3=> ?_);cases f with
  | next=>
   obtain ⟨σ3,H3,I3,n3⟩:=q3;obtain ⟨m',hm,w3⟩:=hN σ3 H3 n3;exact ⟨m',hm,σ3,H3,I3,w3⟩
  | cont=>
   obtain ⟨σ3,H3,I3,n3⟩:=q3;obtain ⟨m',hm,w3⟩:=hN σ3 H3 n3;exact ⟨m',hm,σ3,H3,I3,w3⟩
  | brk=>exact q3
  | ret v=>exact q3
 | false=>
  rw [if_neg zx];exact wpAny_execs_nil ⟨σ1,H2,I2,q2⟩
end
structure It where
 go:Nat->Hp->Prop
 yld:Nat->Hp->V->Hp->Prop
 stop:Nat->Hp->Prop
noncomputable def FpOk (X:Cx) (v8:List (xQ×Obj)) (H:Hp) (b:xQ):Prop:=
 H b=none/\b≠X.env.locals/\b ∉ X.fs/\(b∈X.ex∨X.s₀.heap.objs.size<=b)/\(∀x c,X.env.cells.lookup x=some c->c≠b)/\∀p∈X.pn++v8,p.1≠b
theorem Inv.Lh {H':Hp} (I:Inv X v8 σ H s) (hb:s.heap.objs.size<=b) (hn:H' b=none):FpOk X v8 H' b:=by
 refine ⟨hn,jJ (zq I.lt hb),I.nofs hb,.inr (zD I.sz hb),λx c e z=> ?_,λp hp z=> ?_⟩
 ·obtain ⟨v,q⟩:=I.cell x c e;exact absurd (zq q.lt (by rw [z];exact hb)) (qX _)
 ·exact absurd (zq (zk (I.pin p hp).1) (by rw [z];exact hb)) (qX _)
structure Turn (P:xW) (w:xj) (K:PySem.W.Frag) (tg:xJ) (J:It) (fp:List xQ) (it:xQ) (tn:Nat->Heap->Prop):Prop where
 mem:it∈fp
 obj:∀i h,tn i h->∀b∈fp,∃o,h.get? b=some o/\∀v,o.data≠ .cell v
 keep:∀i h h',tn i h->(∀b∈fp,∀o,h.get? b=some o->h'.get? b=some o)->tn i h'
 item:∀(X:Cx),X.prog=P->X.w=w->X.K=K->X.calm=true->∀(i:Nat) (v8:List (xQ×Obj)) (s:xY) (σ:St) (H:Hp) (E:xz->xY->Prop),Inv X v8 σ H s->(∀b∈fp,FpOk X v8 H b)->tn i s.heap->J.go i H->
  vJ (xR P w) X.A (pyNext (.ref it)) (λr s1=>∃u,r=some u/\
   vJ (xR P w) X.A (xO tg (.ref it) u) (λ_ s2=>∃x H',Inv X v8 σ H' s2/\RelV x u/\J.yld i H x H'/\tn (i + 1) s2.heap/\∀b∈fp,H' b=none) E s1) E s
 done:∀(X:Cx),X.prog=P->X.w=w->X.K=K->X.calm=true->∀(i:Nat) (v8:List (xQ×Obj)) (s:xY) (σ:St) (H:Hp) (E:xz->xY->Prop),Inv X v8 σ H s->(∀b∈fp,FpOk X v8 H b)->tn i s.heap->J.stop i H->
  vJ (xR P w) X.A (pyNext (.ref it)) (λr s1=>r=none/\Inv X v8 σ H s1) E s
 self:∀(A:xZ) (i:Nat) (s:xY) (Q:xz->xY->Prop) (E:xz->xY->Prop),tn i s.heap->Q (.ref it) s->vJ (xR P w) A (pyIter (.ref it)) Q E s
abbrev TI:=St->Hp->(It->Hp->Prop)->Prop
noncomputable def PIE (X:Cx) (v8:List (xQ×Obj)) (σ:St) (tg:xJ) (R:It->Hp->Prop) (itv:xz) (s2:xY):Prop:=
 ∃(it:xQ) (fp:List xQ) (tn:Nat->Heap->Prop) (J:It) (H':Hp),itv=.ref it/\Inv X v8 σ H' s2/\Turn X.prog X.w X.K tg J fp it tn/\tn 0 s2.heap/\(∀b∈fp,FpOk X v8 H' b)/\R J H'
noncomputable def PI (X:Cx) (tg iter:xJ) (wi:TI):Prop:=
 ∀(v8:List (xQ×Obj)) (s:xY) (σ:St) (H:Hp) (R:It->Hp->Prop),Inv X v8 σ H s->wi σ H R->
  vJ (xR X.prog X.w) X.A (eval iter X.env) (λv s1=>vJ (xR X.prog X.w) X.A (pyIter v) (PIE X v8 σ tg R) X.xe s1) X.xe s
theorem Sg {M:Model} {it:xQ} {o:Obj} {n:String} {vs:Array xz} (ho:s.heap.get? it=some o) (hc:o.cls=.type n) (hd:o.data=.fields vs)
  (hn: ["enumerate","zip","dict_itemiterator","dict_reverseitemiterator","odict_iterator","itertools.zip_longest","itertools.pairwise"].contains n=false) (hQ:Q () s):vJ M A (xO tg (.ref it) u) Q E s:=by
 unfold xO
 cases tg <;> first
  | exact vv hQ
  | (cases u <;> first
    | exact vv hQ
    | (
      refine vV (wpAny_load ho ?_);rw [hc,hd];show vJ M A (if (["enumerate","zip","dict_itemiterator","dict_reverseitemiterator","odict_iterator","itertools.zip_longest","itertools.pairwise"].contains n && vs[0]? == some (xS _))=true then _ else _) Q E s;rw [if_neg (by intro h;rw [hn,Bool.false_and] at h;cases h)];exact vv hQ))
noncomputable def Itl (K:PySem.W.Frag) (a:xQ):It:=
 ⟨λi H=>∃xs x,SqL K H a xs/\xs[i]? =some x,λi H x H'=>H'=H/\∀xs,SqL K H a xs->xs[i]? =some x,λi H=>∃xs,SqL K H a xs/\xs.length<=i⟩
noncomputable def Itt (K:PySem.W.Frag) (a:xQ):It:=
 ⟨λi H=>∃xs x,SqT K H a xs/\xs[i]? =some x,λi H x H'=>H'=H/\∀xs,SqT K H a xs->xs[i]? =some x,λi H=>∃xs,SqT K H a xs/\xs.length<=i⟩
noncomputable def Itr (lo:Int) (n:Nat):It:=⟨λi _=>i < n,λi H x H'=>H'=H/\x=.int (lo + i),λi _=>n<=i⟩
theorem ZL4 (a it:xQ):Turn P w K tg (Itl K a) [it] it (λi h=>h.IsListIter it a i) where
 mem:=by simp
 obj:=λi h st b hb=>by
  have e:b=it:=by simpa using hb
  subst e;obtain ⟨o,e,c,d⟩:=st;exact ⟨o,e,λv z=>by rw [d] at z;cases z⟩
 keep:=λi h h' st k=>st.at λo e=>k it (by simp) o e
 item:=by
  intro X hP hw hK hc i v8 s σ H E I hf st hg;subst hP hw hK;obtain ⟨xs,x,hq,hx⟩:=hg;obtain ⟨its,rv,p,hz⟩:=I.list hq;obtain ⟨u,hu,ru⟩:=rv.get hx;obtain ⟨f0,f1,f2,f3,f4,f5⟩:=hf it (by simp);refine wpAny_pyNext_list_item st p.isList (x:=u) (by simpa using hu) λh' st' sb=> ?_
  have I1:Inv X v8 σ H {s with heap:=h'}:=I.turned (t':=s.toks) (λb o hb e=>(sb.2 b hb).trans e) f0 f1 f3 f4 f5;obtain ⟨o,e,c,d⟩:=id st';exact ⟨u,rfl,Sg (s:={s with heap:=h'}) e c d (by decide) ⟨x,H,I1,ru,⟨rfl,λys hy=>by rw [I.ZCV hy hq];exact hx⟩,st',λb hb=>(hf b hb).1⟩⟩
 done:=by intro X hP hw hK hc i v8 s σ H E I hf st hg;subst hP hw hK;obtain ⟨xs,hq,hx⟩:=hg;obtain ⟨its,rv,p,hz⟩:=I.list hq;obtain ⟨f0,f1,f2,f3,f4,f5⟩:=hf it (by simp);have hl:=rv.length;exact wpAny_pyNext_list_end (I.ok.hd hc) st p.isList (by simp;lia) λh' eb=>⟨rfl,I.turned (t':=s.toks) (λb o hb e=>eb b o hb e) f0 f1 f3 f4 f5⟩
 self:=λ_ _ _ _ _ st h=>wpAny_pyIter_listiter st h
theorem ZQX (a it:xQ):Turn P w K tg (Itt K a) [it] it (λi h=>h.IsTupleIter it a i) where
 mem:=by simp
 obj:=λi h st b hb=>by
  have e:b=it:=by simpa using hb
  subst e;obtain ⟨o,e,c,d⟩:=st;exact ⟨o,e,λv z=>by rw [d] at z;cases z⟩
 keep:=λi h h' st k=>st.at λo e=>k it (by simp) o e
 item:=by
  intro X hP hw hK hc i v8 s σ H E I hf st hg;subst hP hw hK;obtain ⟨xs,x,hq,hx⟩:=hg;obtain ⟨its,rv,p,hz⟩:=I.tuple hq;obtain ⟨u,hu,ru⟩:=rv.get hx;obtain ⟨f0,f1,f2,f3,f4,f5⟩:=hf it (by simp)
  refine wpAny_pyNext_tuple_item st (show s.heap.IsTuple a its.toArray from p) (x:=u) (by simpa using hu) λh' st' sb=> ?_
  have I1:Inv X v8 σ H {s with heap:=h'}:=I.turned (t':=s.toks) (λb o hb e=>(sb.2 b hb).trans e) f0 f1 f3 f4 f5;obtain ⟨o,e,c,d⟩:=id st';exact ⟨u,rfl,Sg (s:={s with heap:=h'}) e c d (by decide) ⟨x,H,I1,ru,⟨rfl,λys hy=>by rw [I.ZAf hy hq];exact hx⟩,st',λb hb=>(hf b hb).1⟩⟩
 done:=by
  intro X hP hw hK hc i v8 s σ H E I hf st hg;subst hP hw hK;obtain ⟨xs,hq,hx⟩:=hg;obtain ⟨its,rv,p,hz⟩:=I.tuple hq;obtain ⟨f0,f1,f2,f3,f4,f5⟩:=hf it (by simp);have hl:=rv.length
  exact wpAny_pyNext_tuple_end (I.ok.hd hc) st (show s.heap.IsTuple a its.toArray from p) (by simp;lia) λh' eb=>⟨rfl,I.turned (t':=s.toks) (λb o hb e=>eb b o hb e) f0 f1 f3 f4 f5⟩
 self:=λ_ _ _ _ _ st h=>wpAny_pyIter_tupleiter st h
theorem ZOa (it:xQ) (lo:Int) (n:Nat):Turn P w K tg (Itr lo n) [it] it (λi h=>IsRangeIter h it (lo + (i:Nat) * 1) ((n:Int) - (i:Nat)) 1) where
 mem:=by simp
 obj:=λi h st b hb=>by
  have e:b=it:=by simpa using hb
  subst e;exact ⟨_,st,λv z=>by have z':Data.fields _=Data.cell v:=z;cases z'⟩
 keep:=λi h h' st k=>k it (by simp) _ st
 item:=by
  intro X hP hw hK hc i v8 s σ H E I hf st hg;subst hP hw hK;obtain ⟨f0,f1,f2,f3,f4,f5⟩:=hf it (by simp);have W:=Walks.range (prog:=X.prog) (w:=X.w) (I.ok.hd hc) it lo 1 n;refine W.item i s _ _ hg st λv h' tk hv st' kk=> ?_
  obtain ⟨t,rfl⟩:=hv;have I1:Inv X v8 σ H {s with heap:=h',toks:=tk}:=I.turned (λb o hb e=>kk b o (by simpa using hb) e) f0 f1 f3 f4 f5;refine ⟨_,rfl,Sg (s:={s with heap:=h',toks:=tk}) (n:="range_iterator") st' rfl rfl (by decide) ⟨.int (lo + i),H,I1,⟨t,?_⟩,⟨rfl,rfl⟩,st',λb hb=>(hf b hb).1⟩⟩;rw [Int.mul_one]
 done:=by intro X hP hw hK hc i v8 s σ H E I hf st hg;subst hP hw hK;obtain ⟨f0,f1,f2,f3,f4,f5⟩:=hf it (by simp);exact wpAny_pyNext_range_end (I.ok.hd hc) st (by have:n<=i:=hg;lia) λh' eb=>⟨rfl,I.turned (t':=s.toks) (λb o hb e=>eb b o hb e) f0 f1 f3 f4 f5⟩
 self:=λ_ _ _ _ _ st h=>wpAny_pyIter_rangeiter st h
section
variable {X:Cx} {tg:xJ}
noncomputable def ZJ8 (K:PySem.W.Frag) (tl:TE):TI:=λσ H R=>tl σ H λx H1=>∃a,x=.ref a/\(∃xs,SqL K H1 a xs)/\R (Itl K a) H1
noncomputable def iTup (K:PySem.W.Frag) (tl:TE):TI:=λσ H R=>tl σ H λx H1=>∃a,x=.ref a/\(∃xs,SqT K H1 a xs)/\R (Itt K a) H1
theorem ZAc {l:xJ} {tl:TE} (hl:PE X l tl):PI X tg l (ZJ8 X.K tl):=by
 intro v8 s σ H R I h;refine thn (hl v8 s σ H _ I h) λv s1 ⟨x,H1,I1,r1,q1⟩=> ?_
 obtain ⟨a,e,⟨xs,hq⟩,q⟩:=q1;subst e;cases r1;obtain ⟨its,rv,p,hz⟩:=I1.list hq;refine wpAny_pyIter_list p.isList ?_;refine ⟨s1.heap.objs.size,[s1.heap.objs.size],_,_,H1,rfl,I1.kept (t':=s1.toks) λb o e=>zJ _ e,ZL4 a _,⟨_,zB _ rfl,rfl,rfl⟩,λb hb=> ?_,q⟩;have e:b=s1.heap.objs.size:=by simpa using hb
 subst e;exact I1.Lh (zW _) (I1.hok.fresh (zW _))
theorem ZNL {l:xJ} {tl:TE} (hl:PE X l tl):PI X tg l (iTup X.K tl):=by
 intro v8 s σ H R I h;refine thn (hl v8 s σ H _ I h) λv s1 ⟨x,H1,I1,r1,q1⟩=> ?_
 obtain ⟨a,e,⟨xs,hq⟩,q⟩:=q1;subst e;cases r1;obtain ⟨its,rv,p,hz⟩:=I1.tuple hq
 refine wpAny_pyIter_tuple (show s1.heap.IsTuple a its.toArray from p) ?_
 refine ⟨s1.heap.objs.size,[s1.heap.objs.size],_,_,H1,rfl,I1.kept (t':=s1.toks) λb o e=>zJ _ e,ZQX a _,⟨_,zB _ rfl,rfl,rfl⟩,λb hb=> ?_,q⟩;have e:b=s1.heap.objs.size:=by simpa using hb
 subst e;exact I1.Lh (zW _) (I1.hok.fresh (zW _))
theorem ZJ6 {R:It->Hp->Prop} {lo hi:Int} {t u v:Tok} {tk:Nat} (I:Inv X v8 σ H s) (h1: -(2 ^ 62)<=lo) (h2:lo < 2 ^ 62) (h3: -(2 ^ 62)<=hi) (h4:hi < 2 ^ 62)
  (q:R (Itr lo (hi - lo).toNat) H):vJ (xR X.prog X.w) X.A (pyIter (.ref s.heap.objs.size)) (PIE X v8 σ tg R) E {s with heap:=s.heap.push {cls:=.type "range",data:=.fields #[.int lo t,.int hi u,.int 1 v]},toks:=tk}:=by
 refine wpAny_pyIter_range (IsRange.new ..) (small_one h1 h2 h3 h4) ?_;have I1:Inv X v8 σ H {s with heap:=s.heap.push {cls:=.type "range",data:=.fields #[.int lo t,.int hi u,.int 1 v]},toks:=tk}:=I.kept λb o e=>zJ _ e
 refine ⟨(s.heap.push {cls:=.type "range",data:=.fields #[.int lo t,.int hi u,.int 1 v]}).objs.size,[(s.heap.push {cls:=.type "range",data:=.fields #[.int lo t,.int hi u,.int 1 v]}).objs.size],_,_,H,rfl,
  I1.kept (t':=tk) λb o e=>zJ _ e,ZOa _ lo (hi - lo).toNat,?_,λb hb=> ?_,q⟩
 ·have e1:lo + ((0:Nat):Int) * 1=lo:=by simp
  have e2:(((hi - lo).toNat:Nat):Int) - ((0:Nat):Int)=Builtin.Range.rangeSize lo hi 1:=by rw [rangeSize_one];split <;> lia
  show IsRangeIter _ _ (lo + ((0:Nat):Int) * 1) ((((hi - lo).toNat:Nat):Int) - ((0:Nat):Int)) 1;rw [e1,e2];exact zB _ rfl
 ·have e:b=(s.heap.push {cls:=.type "range",data:=.fields #[.int lo t,.int hi u,.int 1 v]}).objs.size:=by simpa using hb
  subst e;exact I1.Lh (zW _) (I1.hok.fresh (zW _))
noncomputable def ZLK (ta:TA):TI:=λσ H R=>ta σ H λvs H1=>∃j:Int,vs= [.int j]/\ -(2 ^ 62)<=j/\j < 2 ^ 62/\R (Itr 0 j.toNat) H1
theorem ZLT {a:xJ} {ta:TA} {p pos:Pos} (hg:Gl X "range") (hm:X.mg "range"=none) (ha:PA X [a] ta) (hs:vQ [a] X.env= [(false,eval a X.env)]:=by rfl):PI X tg (.Call (.Name "range" p) [a] [] pos) (ZLK ta):=by
 intro v8 s σ H R I h;refine Call_ (Kg I hg hm boot_range (PyProof.Rows.callWith_type1 (thn (ha pos v8 s σ H _ I h) λus s1 ⟨vs,H1,I1,r1,q1⟩=> ?_) hs rfl));obtain ⟨j,e,q1,q2,q⟩:=q1;subst e;cases r1 with
 | cons r rr=>
  cases rr;obtain ⟨t,rfl⟩:=r;exact call_range_1 (ZJ6 I1 (by lia) (by lia) q1 q2 (by simpa using q))
noncomputable def tFor (wi:TI) (g:TG) (tb:TS):TS:=λD σ H=>wi σ H λJ H1=>∃W:Nat->Nat->St->Hp->Prop,(∃m,W 0 m σ H1)/\∀i m σ H,W i m σ H->
 (J.stop i H/\D.nx σ H)∨(J.go i H/\∃N:St->Hp->Prop,(∀σ' H',N σ' H'->∃m',m' < m/\W (i + 1) m' σ' H')/\∀x H',J.yld i H x H'->g x σ H' λσ2 H2=>tb {D with nx:=N,ct:=N,bk:=D.nx} σ2 H2)
noncomputable def Qe (fp:List xQ) (h:Heap):List (xQ×Obj):=fp.filterMap λb=>(h.get? b).map λo=>(b,o)
theorem X6 {o:Obj} (hb:b∈fp) (e:h.get? b=some o):(b,o)∈Qe fp h:=List.mem_filterMap.mpr ⟨b,hb,by rw [e];rfl⟩
theorem ZGf {p:xQ×Obj} (hp:p∈Qe fp h):p.1∈fp/\h.get? p.1=some p.2:=by
 obtain ⟨b,hb,e⟩:=List.mem_filterMap.mp hp;cases q:h.get? b with
 | none=>rw [q] at e;cases e
 | some o=>
  rw [q] at e;have e':(b,o)=p:=Option.some.inj e;subst e';exact ⟨hb,q⟩
theorem Inv.pinned (I:Inv X v8 σ H s) (hf:∀b∈fp,FpOk X v8 H b) (ho:∀b∈fp,∃o,s.heap.get? b=some o/\∀v,o.data≠ .cell v):Inv X (v8++Qe fp s.heap) σ H s:=
 I.M9 λp hp=>(qG.mp hp).elim (λz=>I.pin p (zR _ z)) λz=>by obtain ⟨hb,e⟩:=ZGf z;obtain ⟨f0,f1,f2,_⟩:=hf p.1 hb;obtain ⟨o,e',d⟩:=ho p.1 hb;rw [e] at e';cases e';exact ⟨e,f0,f1,f2,d⟩
theorem Inv.unpinned {pl:List (xQ×Obj)} (I:Inv X (v8++pl) σ H s):Inv X v8 σ H s:=I.M9 λp hp=>I.pin p (zR _ (j8 _ hp))
theorem ZRT {iter:xJ} {wi:TI} {g:TG} {tb:TS} {pos:Pos} (hp:PassesOwn (xR X.prog X.w) X.A X.env X.xe) (hc:X.calm=true) (hi:PI X tg iter wi) (hg:PG X tg g) (hb:PSs X body tb)
  (hs:∀x,foldedSetIterable iter X.env x=pure x:=by intro _;rfl):PS X (.For tg iter body [] pos) (tFor wi g tb):=by
 intro v8 s σ H D I h;refine wpAny_For (thn (hi v8 s σ H _ I h) λv s1 h1=>thn h1 λitv s2 h2=> ?_) hs;obtain ⟨it,fp,tn,J,H2,e,I2,T,st2,f2,W,⟨m0,w0⟩,turn⟩:=h2;subst e;have stat:∀{H':Hp},(∀b∈fp,H' b=none)->∀b∈fp,FpOk X v8 H' b:=λhn b hb=>⟨hn b hb,(f2 b hb).2⟩
 refine codeAny_forLoop_any (λn s'=>∃i σ' H',Inv X v8 σ' H' s'/\tn i s'.heap/\(∀b∈fp,H' b=none)/\W i n σ' H') ?_ m0 ⟨0,σ,H2,I2,st2,λb hb=>(f2 b hb).1,w0⟩;rintro n s3 ⟨i,σ3,H3,I3,st3,fr3,w3⟩;rcases turn i n σ3 H3 w3 with ⟨stop,qn⟩ | ⟨go,N,hN,step⟩
 ·refine vx hp (thn (T.done X rfl rfl rfl hc i v8 s3 σ3 H3 X.xe I3 (stat fr3) st3 stop) λr s4 ⟨hr,I4⟩=> ?_);subst hr;exact wpAny_execs_nil ⟨σ3,H3,I4,qn⟩
 ·refine vx hp (thn (T.item X rfl rfl rfl hc i v8 s3 σ3 H3 X.xe I3 (stat fr3) st3 go) λr s4 ⟨u,hr,h4⟩=> ?_);subst hr;refine vx hp (thn h4 λ_ s5 ⟨x,H5,I5,r5,y5,st5,fr5⟩=> ?_);have I5':=I5.pinned (stat fr5) (T.obj _ _ st5);refine vx hp (thn (hg _ s5 σ3 H5 x u _ I5' r5 (step x H5 y5)) λ_ s6 ⟨σ6,H6,I6,q6⟩=> ?_);refine vx hp (thn (hb _ s6 σ6 H6 _ I6 q6) λf s7 q7=> ?_)
  have again:∀{σ7:St} {H7:Hp},Inv X (v8++Qe fp s5.heap) σ7 H7 s7->N σ7 H7->∃m,m < n/\∃i σ' H',Inv X v8 σ' H' s7/\tn i s7.heap/\(∀b∈fp,H' b=none)/\W i m σ' H':=λ{σ7 H7} I7 n7=>by obtain ⟨m',hm,w7⟩:=hN σ7 H7 n7;refine ⟨m',hm,i + 1,σ7,H7,I7.unpinned,T.keep _ _ _ st5 λb hb o e=>(I7.pin (b,o) (zR _ (zR _ (X6 hb e)))).1,λb hb=> ?_,w7⟩;obtain ⟨o,e,d⟩:=T.obj _ _ st5 b hb;exact (I7.pin (b,o) (zR _ (zR _ (X6 hb e)))).2.1
  cases f with
  | next=>obtain ⟨σ7,H7,I7,n7⟩:=q7;exact again I7 n7
  | cont=>obtain ⟨σ7,H7,I7,n7⟩:=q7;exact again I7 n7
  | brk=>obtain ⟨σ7,H7,I7,q7⟩:=q7;exact ⟨σ7,H7,I7.unpinned,q7⟩
  | ret v=>obtain ⟨x7,σ7,H7,I7,r7,q7⟩:=q7;exact ⟨x7,σ7,H7,I7.unpinned,r7,q7⟩
end
abbrev R2:=V->V->Hp->VK->Prop
variable {r:R2}
noncomputable def OpR (X:Cx) (f:xz->xz->Sem xz) (r:R2):Prop:=
 ∀(v8:List (xQ×Obj)) (s:xY) (σ:St) (H:Hp) (x y:V) (v u:xz) (Q:VK),Inv X v8 σ H s->RelV x v->RelV y u->r x y H Q->
  vJ (xR X.prog X.w) X.A (f v u) (EP X v8 σ Q) X.xe s
noncomputable def UnR (X:Cx) (f:xz->Sem xz) (r:V->Hp->VK->Prop):Prop:=
 ∀(v8:List (xQ×Obj)) (s:xY) (σ:St) (H:Hp) (x:V) (v:xz) (Q:VK),Inv X v8 σ H s->RelV x v->r x H Q->
  vJ (xR X.prog X.w) X.A (f v) (EP X v8 σ Q) X.xe s
noncomputable def CallR (X:Cx) (f:xz) (r:List V->Hp->VK->Prop):Prop:=
 ∀(v8:List (xQ×Obj)) (s:xY) (σ:St) (H:Hp) (xs:List V) (us:List xz) (Q:VK),Inv X v8 σ H s->Vals xs us->r xs H Q->
  vJ (xR X.prog X.w) X.A (call f us) (EP X v8 σ Q) X.xe s
def tOp (r:R2) (ta tb:TE):TE:=λσ H Q=>ta σ H λx H1=>tb σ H1 λy H2=>r x y H2 Q
def tUn (r:V->Hp->VK->Prop) (ta:TE):TE:=λσ H Q=>ta σ H λx H1=>r x H1 Q
noncomputable def rI (C:Int->Int->Prop) (g:Int->Int->V):R2:=λx y H Q=>∃i j,x=.int i/\y=.int j/\C i j/\Q (g i j) H
def rI0 (g:Int->Int->V):R2:=λx y H Q=>∃i j,x=.int i/\y=.int j/\Q (g i j) H
def rU (g:Int->V):V->Hp->VK->Prop:=λx H Q=>∃i,x=.int i/\Q (g i) H
section
variable {X:Cx} {a b c:xJ} {ta tb tc:TE} {pos:Pos}
theorem ZDu (ha:PE X a ta) (hb:PE X b tb) {R:V->V->Hp->Prop} (I:Inv X v8 σ H s)
  (h:ta σ H λx H1=>tb σ H1 λy H2=>R x y H2) {Q:xz->xY->Prop} {f:xz->xz->Sem xz}
  (hf:∀v u s2 x y H2,Inv X v8 σ H2 s2->RelV x v->RelV y u->R x y H2->vJ (xR X.prog X.w) X.A (f v u) Q X.xe s2):
  vJ (xR X.prog X.w) X.A (eval a X.env) (λv s₁=>vJ (xR X.prog X.w) X.A (eval b X.env) (λu s₂=>vJ (xR X.prog X.w) X.A (f v u) Q X.xe s₂) X.xe s₁) X.xe s:=by
 refine thn (ha v8 s σ H _ I h) λv s1 ⟨x,H1,I1,r1,q1⟩=> ?_
 refine thn (hb v8 s1 σ H1 _ I1 q1) λu s2 ⟨y,H2,I2,r2,q2⟩=> ?_
 exact hf v u s2 x y H2 I2 r1 r2 q2
theorem ZOJ {op:Operator} (ho:OpR X (xA op) r) (ha:PE X a ta) (hb:PE X b tb):PE X (.BinOp a op b pos) (tOp r ta tb):=by intro v8 s σ H Q I h;exact wpAny_BinOp (ZDu ha hb I h λv u s2 x y H2 I2 rx ry q=>ho v8 s2 σ H2 x y v u Q I2 rx ry q)
theorem ZMs {op:UnaryOp} {r:V->Hp->VK->Prop} (ho:UnR X (unaryOp op) r) (ha:PE X a ta):PE X (.UnaryOp op a pos) (tUn r ta):=by intro v8 s σ H Q I h;exact UnaryOp_ (thn (ha v8 s σ H _ I h) λv s1 ⟨x,H1,I1,r1,q1⟩=>ho v8 s1 σ H1 x v Q I1 r1 q1)
theorem opI {C:Int->Int->Prop} {g:Int->Int->Int}
  (rule:∀(i j:Int) (t u:Tok) (s:xY) (Q:xz->xY->Prop) (E:xz->xY->Prop),C i j->Q (.int (g i j) s.toks) {s with toks:=s.toks + 1}->vJ (xR X.prog X.w) X.A (f (.int i t) (.int j u)) Q E s):
  OpR X f (rI C λi j=>.int (g i j)):=by
 intro v8 s σ H x y v u Q I rx ry h;obtain ⟨i,j,rfl,rfl,hc,q⟩:=h;obtain ⟨t,rfl⟩:=rx;obtain ⟨t',rfl⟩:=ry;exact rule i j t t' s _ _ hc ⟨.int (g i j),H,I.tok _,⟨_,rfl⟩,q⟩
theorem opI0 {g:Int->Int->Int}
  (rule:∀(i j:Int) (t u:Tok) (s:xY) (Q:xz->xY->Prop) (E:xz->xY->Prop),Q (.int (g i j) s.toks) {s with toks:=s.toks + 1}->vJ (xR X.prog X.w) X.A (f (.int i t) (.int j u)) Q E s):
  OpR X f (rI0 λi j=>.int (g i j)):=by
 intro v8 s σ H x y v u Q I rx ry h;obtain ⟨i,j,rfl,rfl,q⟩:=h;obtain ⟨t,rfl⟩:=rx;obtain ⟨t',rfl⟩:=ry;exact rule i j t t' s _ _ ⟨.int (g i j),H,I.tok _,⟨_,rfl⟩,q⟩
theorem Xy {g:Int->Int->Bool}
  (rule:∀(i j:Int) (t u:Tok) (s:xY) (Q:xz->xY->Prop) (E:xz->xY->Prop),Q (.bool (g i j)) s->vJ (xR X.prog X.w) X.A (f (.int i t) (.int j u)) Q E s):
  OpR X f (rI0 λi j=>.bl (g i j)):=by
 intro v8 s σ H x y v u Q I rx ry h;obtain ⟨i,j,rfl,rfl,q⟩:=h;obtain ⟨t,rfl⟩:=rx;obtain ⟨t',rfl⟩:=ry;exact rule i j t t' s _ _ ⟨.bl (g i j),H,I,rfl,q⟩
def CPow (i j:Int):Prop:=0<=j/\j<=1000000/\i.natAbs < 2 ^ 64
noncomputable def CMul (i j:Int):Prop:=(-(2 ^ 64) < i/\i < 2 ^ 64)∨(-(2 ^ 64) < j/\j < 2 ^ 64)
theorem CMul.ok {i j:Int} (h:CMul i j):IntMulOk i j:=by
 rcases h with ⟨h1,h2⟩ | ⟨h1,h2⟩
 ·exact .of_left (intBits_le_64 h1 h2)
 ·exact .of_right (intBits_le_64 h1 h2)
theorem ZMV:OpR X (xA .Add) (rI0 λi j=>.int (i + j)):=opI0 λ_ _ _ _ _ _ _ q=>add_int q
theorem ZOV:OpR X (xA .Sub) (rI0 λi j=>.int (i - j)):=opI0 λ_ _ _ _ _ _ _ q=>sub_int q
theorem ZOl:OpR X (xA .Mod) (rI (λ_ j=>0 < j) λi j=>.int (i % j)):=opI λi j _ _ _ _ _ hc q=>by have h1:(0:Int) < j:=hc;exact mod_int' (by lia) (by rw [Int.fmod_eq_emod_of_nonneg i (by lia)];exact q)
theorem ZMB:OpR X (xA .Pow) (rI CPow λi j=>.int (i ^ j.toNat)):=opI λ_ _ _ _ _ _ _ hc q=>pow_int_small hc.1 hc.2.1 hc.2.2 q
theorem unI {f:xz->Sem xz} {g:Int->Int}
  (rule:∀(i:Int) (t:Tok) (s:xY) (Q:xz->xY->Prop) (E:xz->xY->Prop),Q (.int (g i) s.toks) {s with toks:=s.toks + 1}->vJ (xR X.prog X.w) X.A (f (.int i t)) Q E s):
  UnR X f (rU λi=>.int (g i)):=by
 intro v8 s σ H x v Q I rx h;obtain ⟨i,rfl,q⟩:=h;obtain ⟨t,rfl⟩:=rx;exact rule i t s _ _ ⟨.int (g i),H,I.tok _,⟨_,rfl⟩,q⟩
theorem ZMf:UnR X (unaryOp .USub) (rU λi=>.int (-i)):=unI λ_ _ _ _ _ q=>neg_int q
end
section
variable {X:Cx} {a b c:xJ} {ta tb tc:TE} {pos:Pos}
theorem Y7 {Q:VK} {k k':Bool} (I:Inv X v8 σ H s) (q:Q (.bl k) H) (e:k=k'):EP X v8 σ Q (.bool k') s:=by subst e;exact ⟨.bl k,H,I,rfl,q⟩
theorem ZOg:OpR X (xD .Lt) (rI0 λi j=>.bl (decide (i < j))):=Xy λ_ _ _ _ _ _ _ q=>lt_int q
theorem ZRD:OpR X (xD .LtE) (rI0 λi j=>.bl (decide (i<=j))):=Xy λ_ _ _ _ _ _ _ q=>le_int q
theorem ZPn:OpR X (xD .Gt) (rI0 λi j=>.bl (decide (j < i))):=Xy λ_ _ _ _ _ _ _ q=>gt_int q
theorem ZLd:OpR X (xD .GtE) (rI0 λi j=>.bl (decide (j<=i))):=Xy λ_ _ _ _ _ _ _ q=>ge_int q
theorem ZMH:OpR X (xD .Lt) (λx y H Q=>∃i j,x=.str i/\y=.str j/\Q (.bl (decide (i.cps.toList < j.cps.toList))) H):=by intro v8 s σ H x y v u Q I rx ry h;obtain ⟨i,j,rfl,rfl,q⟩:=h;obtain ⟨t,rfl⟩:=rx;obtain ⟨t',rfl⟩:=ry;exact lt_str (Y7 I q rfl)
theorem ZNu:OpR X (xD .In) (λx y H Q=>∃i j,x=.str i/\y=.str j/\Q (.bl (!(Builtin.Str.occurrences j i 0 j.length 1).isEmpty)) H):=by intro v8 s σ H x y v u Q I rx ry h;obtain ⟨i,j,rfl,rfl,q⟩:=h;obtain ⟨t,rfl⟩:=rx;obtain ⟨t',rfl⟩:=ry;exact in_str (Y7 I q rfl)
theorem ZRZ:OpR X (xD .Is) (λx y H Q=>y=.non/\Q (.bl (decide (x=.non))) H):=by
 intro v8 s σ H x y v u Q I rx ry h;obtain ⟨rfl,q⟩:=h;cases ry;refine is_none_gen (Y7 I q ?_)
 cases x <;> first
  | (cases rx;rfl)
  | (obtain ⟨t,rfl⟩:=rx;rfl)
theorem ZM6:OpR X (xD .IsNot) (λx y H Q=>y=.non/\Q (.bl (!decide (x=.non))) H):=by
 intro v8 s σ H x y v u Q I rx ry h;obtain ⟨rfl,q⟩:=h;cases ry;refine isnot_none_gen (Y7 I q ?_)
 cases x <;> first
  | (cases rx;rfl)
  | (obtain ⟨t,rfl⟩:=rx;rfl)
theorem OpR.or {r':R2} (h:OpR X f r) (h':OpR X f r'):OpR X f (λx y H Q=>r x y H Q∨r' x y H Q):=by
 intro v8 s σ H x y v u Q I rx ry q;rcases q with q | q
 ·exact h v8 s σ H x y v u Q I rx ry q
 ·exact h' v8 s σ H x y v u Q I rx ry q
theorem nomark (b:xJ) (h:op≠ .In:=by decide) (h2:op≠ .NotIn:=by decide):x0 op b=false:=by
 have e1:(op == CmpOp.In)=false:=by cases op <;> first | rfl | exact absurd rfl h
 have e2:(op == CmpOp.NotIn)=false:=by cases op <;> first | rfl | exact absurd rfl h2
 cases b <;> simp [x0,e1,e2]
theorem ZOw (ho:OpR X (xD op) r) (ha:PE X a ta) (hb:PE X b tb) (hm:x0 op b=false):PE X (.Compare a [op] [b] pos) (tOp r ta tb):=by intro v8 s σ H Q I h;exact wpAny_Compare1 (ZDu ha hb I h λv u s2 x y H2 I2 rx ry q=>ho v8 s2 σ H2 x y v u Q I2 rx ry q) hm
def Sy (t:TE):TT:=λσ H Q=>t σ H λx H'=>∃k,x=.bl k/\Q k H'
theorem ZLR (ho:OpR X (xD op) r) (ha:PE X a ta) (hb:PE X b tb) (hm:x0 op b=false):PT X (.Compare a [op] [b] pos) (Sy (tOp r ta tb)):=by
 intro v8 s σ H Q I h;refine wpAny_isTrue_Compare1 (thn (ha v8 s σ H _ I h) λv s1 ⟨x,H1,I1,r1,q1⟩=>thn (hb v8 s1 σ H1 _ I1 q1) λu s2 ⟨y,H2,I2,r2,q2⟩=>
  thn (ho v8 s2 σ H2 x y v u _ I2 r1 r2 q2) λc s3 ⟨z,H3,I3,r3,k,e,q3⟩=> ?_) hm
 subst e;cases r3;exact v4 ⟨H3,I3,q3⟩
noncomputable def ZIp (r r':R2) (ta tb tc:TE):TE:=λσ H Q=>ta σ H λx H1=>tb σ H1 λy H2=>r x y H2 λz H3=>∃k,z=.bl k/\
 (if k=true then tc σ H3 λw' H4=>r' y w' H4 Q else Q (.bl false) H3)
theorem ZL6 {op':CmpOp} {r':R2} (ho:OpR X (xD op) r) (ho':OpR X (xD op') r') (ha:PE X a ta) (hb:PE X b tb) (hc:PE X c tc)
  (hm:lastMarks [op,op'] [b,c]=false:=by with_unfolding_all rfl):PT X (.Compare a [op,op'] [b,c] pos) (Sy (ZIp r r' ta tb tc)):=by
 intro v8 s σ H Q I h;refine isTrue_chain (thn (ha v8 s σ H _ I h) λv s1 ⟨x,H1,I1,r1,q1⟩=>test_link (thn (hb v8 s1 σ H1 _ I1 q1) λu s2 ⟨y,H2,I2,r2,q2⟩=>
  thn (ho v8 s2 σ H2 x y v u _ I2 r1 r2 q2) λd s3 ⟨z,H3,I3,r3,k,e,q3⟩=> ?_)) hm
 subst e;cases r3;refine v4 ?_;cases k with
 | false=>
  obtain ⟨k',e',q'⟩:=q3;cases e';exact ite_ff ⟨H3,I3,q'⟩
 | true=>
  refine ite_tt (test_last (thn (hc v8 s3 σ H3 _ I3 q3) λw' s4 ⟨z',H4,I4,r4,q4⟩=>thn (ho' v8 s4 σ H4 y z' u w' _ I4 r2 r4 q4) λd' s5 ⟨z2,H5,I5,r5,k2,e2,q5⟩=> ?_));subst e2;cases r5;exact v4 ⟨H5,I5,q5⟩
theorem line63:(sizeLine:Nat) < 2 ^ 63:=by rw [xT];decide
theorem ZMK:OpR X (xA .Add) (λx y H Q=>∃i j,x=.str i/\y=.str j/\i.length + j.length<=sizeLine/\Q (.str (i++j)) H):=by intro v8 s σ H x y v u Q I rx ry h;obtain ⟨i,j,rfl,rfl,hz,q⟩:=h;obtain ⟨t,rfl⟩:=rx;obtain ⟨t',rfl⟩:=ry;exact add_str (λt' tk=>⟨.str (i++j),H,I.tok _,⟨_,rfl⟩,q⟩) hz
theorem ZNQ:OpR X (inplaceOp .Add) (λx y H Q=>∃i j,x=.str i/\y=.str j/\i.length + j.length<=sizeLine/\Q (.str (i++j)) H):=by intro v8 s σ H x y v u Q I rx ry h;obtain ⟨i,j,rfl,rfl,hz,q⟩:=h;obtain ⟨t,rfl⟩:=rx;obtain ⟨t',rfl⟩:=ry;exact iadd_str (λt' tk=>⟨.str (i++j),H,I.tok _,⟨_,rfl⟩,q⟩) hz
theorem vals1 {x:V} (r:Vals [x] us):∃u,us= [u]/\RelV x u:=by
 cases r with
 | cons r1 r2=>cases r2;exact ⟨_,rfl,r1⟩
theorem vals2 {x:V} (r:Vals [x,y] us):∃u w',us= [u,w']/\RelV x u/\RelV y w':=by
 cases r with
 | cons r1 r2=>
  cases r2 with
  | cons r3 r4=>cases r4;exact ⟨_,_,rfl,r1,r3⟩
theorem ZP5 (hc:X.calm=true):CallR X (.builtin "max") (λxs H Q=>∃i j,xs= [.int i,.int j]/\Q (.int (if j > i then j else i)) H):=by
 intro v8 s σ H xs us Q I r h;obtain ⟨i,j,rfl,q⟩:=h;obtain ⟨u,w',rfl,⟨t,rfl⟩,⟨t',rfl⟩⟩:=vals2 r;refine max_two_ints (I.ok.hd hc) λh' tk k=>⟨_,H,I.kept k,?_,q⟩
 by_cases hj:j > i
 ·rw [if_pos hj,if_pos hj];exact ⟨_,rfl⟩
 ·rw [if_neg hj,if_neg hj];exact ⟨_,rfl⟩
theorem ZK1 (hc:X.calm=true):CallR X (.builtin "min") (λxs H Q=>∃i j,xs= [.int i,.int j]/\Q (.int (if j < i then j else i)) H):=by
 intro v8 s σ H xs us Q I r h;obtain ⟨i,j,rfl,q⟩:=h;obtain ⟨u,w',rfl,⟨t,rfl⟩,⟨t',rfl⟩⟩:=vals2 r;refine min_two_ints (I.ok.hd hc) λh' tk k=>⟨_,H,I.kept k,?_,q⟩
 by_cases hj:j < i
 ·rw [if_pos hj,if_pos hj];exact ⟨_,rfl⟩
 ·rw [if_neg hj,if_neg hj];exact ⟨_,rfl⟩
theorem ZMe:CallR X (.type "int") (λxs H Q=>(∃i,xs= [.int i]/\Q (.int i) H)∨∃k,xs= [.bl k]/\Q (.int (if k then 1 else 0)) H):=by
 intro v8 s σ H xs us Q I r h;rcases h with ⟨i,rfl,q⟩ | ⟨k,rfl,q⟩
 ·obtain ⟨u,rfl,t,rfl⟩:=vals1 r;exact call_int_int ⟨.int i,H,I,⟨_,rfl⟩,q⟩
 ·obtain ⟨u,rfl,r1⟩:=vals1 r;cases r1;exact call_int_bool ⟨.int (if k then 1 else 0),H,I.tok _,⟨_,rfl⟩,q⟩
end
structure ObjM (h:Heap) (x dx C:xQ) (mA:Str->Option xz):Prop where
 obj:h.get? x=some (PySem.W.instObj C dx)
 ns:h.Ns1 dx mA
 ne:dx≠x
theorem ZPv {dx:xQ} {mA:Str->Option xz} (n:h.Ns1 dx mA):∃od,h.get? dx=some od/\∀name,PySem.W.lookIn name od=some (mA name):=by
 obtain ⟨o,es,ep,ho,hd,hk,_,hm⟩:=n;refine ⟨o,ho,λname=> ?_⟩;have e:=hm name;unfold nsFind findBy at e;rw [<-Array.find?_toList] at e;unfold PySem.W.lookIn;rw [hd];dsimp only;split
 ·rename_i y q;rw [q] at e;exact congrArg some e
 ·rename_i q;rw [q] at e
  have a:es.toList.any (·.refKey)=false:=by rw [List.any_eq_false];intro y hy;obtain ⟨z,t,hkey⟩:=hk y (Array.mem_toList_iff.mp hy);simp [DictEntry.refKey,hkey]
  have a':¬es.toList.any (·.refKey)=true:=by rw [a];exact zx
  rw [if_neg a'];exact congrArg some e
theorem ObjM.look {x dx:xQ} {mA:Str->Option xz} (I:ObjM h x dx C mA):∃od,PySem.W.InstAt h x (PySem.W.instObj C dx) C (some od)/\∀name,PySem.W.lookIn name od=some (mA name):=
 let ⟨od,ho,hl⟩:=ZPv I.ns
 ⟨od,⟨I.obj,rfl,rfl,ho⟩,hl⟩
section
variable {prog:xW} {w:xj} {A:xZ} {E:xz->xY->Prop} {s:xY} {K:PySem.W.Frag} {x dx C f:xQ} {mA:Str->Option xz} {name:Str} {v:xz}
theorem ZNR {expr:Bool} {Q:xz->xY->Prop} (X:K.In s.heap) (I:ObjM s.heap x dx C mA) (hg:PySem.W.plainGet K C name=true) (hh:PySem.W.hasDictIn K C=true)
  (ha:PySem.W.findIn K (.ref C) name=some none) (hv:mA name=some v) (hv':PySem.W.handedIn v=true) (h:Q v {s with toks:=s.toks + 1}):
  vJ (xR prog w) A (getAttr (.ref x) name expr) Q E s:=by
 obtain ⟨od,J,hl⟩:=I.look;exact PySem.W.get_value X J (PySem.W.plainGet_of hg).1 (PySem.W.findObj_own hh ha rfl (by rw [hl,hv])) hv' h
theorem ZRK {pl:Sem Bool} {Q:xz×List xz->xY->Prop} (X:K.In s.heap) (I:ObjM s.heap x dx C mA) (hg:PySem.W.plainGet K C name=true)
  (hf:PySem.W.findIn K (.ref C) name=some (some (.ref f))) (ht:PySem.W.isFn K (.ref f)=true) (hv:mA name=none) (h:Q (.ref f,[.ref x]) s):
  vJ (xR prog w) A (getMethod (.ref x) name pl) Q E s:=by
 obtain ⟨od,J,hl⟩:=I.look
 exact PySem.W.method_fn X J (PySem.W.plainGet_of hg).1 (PySem.W.plainGet_of hg).2 hf (beq_iff_eq.mp ht) (by show (PySem.W.lookIn name od).map (·.isSome)=some false;rw [hl,hv];rfl) h
theorem ZP1 {ns:List Str} (X:K.In s.heap) (I:ObjM s.heap x dx C mA)
  (hs:PySem.W.findIn K (.ref C) "__setattr__"=some (some (.builtin "object.__setattr__"))) (hp:PySem.W.plainOver K C=true) (ht:PySem.W.takerIn K C name=some none) (hh:PySem.W.hasDictIn K C=true)
  (hw:PySem.Within mA ns) (hsz:ns.length<=sizeLine)
  (h:∀h',ObjM h' x dx C (λy=>if y=name then some v else mA y)->qA dx s.heap h'->Q () {s with heap:=h',toks:=s.toks + 2}):
  vJ (xR prog w) A (setAttr (.ref x) name v) Q E s:=by
 obtain ⟨od,J,hl⟩:=I.look;refine PySem.W.set_plain X J hs (PySem.W.osa_open (s:={s with toks:=s.toks + 1}) (r:=none) X J hp ht λb=> ?_);obtain ⟨cd,hc,hd'⟩:=PySem.W.any_some hh;have hx:s.heap.get? x=some ⟨.ref C,some dx,.plain,#[]⟩:=I.obj;refine vV (vv (vV (vV (wpAny_loadPart hx (vV (PySem.W.Looks.here (s:={s with toks:=s.toks + 1}) (PySem.W.looks_clsIn X hc) ?_))))))
 rw [hd'];refine vv (a:=some dx) (vV (vv (vV ?_)));refine wpAny_nsSet1 (s:={s with toks:=s.toks + 1}) I.ns λh' hn2 hs2=> ?_
 obtain ⟨oD,esD,epD,hoD,hdD,hcD⟩:=hn2.count (PySem.Within.cons name v hw);refine vV (wpAny_lookBehind hoD (by rw [hdD];exact pastItsLine_dict (zD hcD (by rw [qV];lia))) ?_);exact vv (h _ ⟨(hs2.2 _ (Ne.symm I.ne)).trans I.obj,hn2,I.ne⟩ hs2)
theorem ZN3 {R:Result->xY->Prop} {vs:List xz} (X:K.In s.heap) (hm:PySem.W.makesIn K C=true)
  (hi:PySem.W.findIn K (.ref C) "__init__"=some (some (.ref f))) (hf:PySem.W.typeIn K (.ref f)=some (.type "function"))
  (h:codeAny (xR prog w) (A.under (.builtin "type.__call__" ⟨.ref C::vs,kw⟩)) (.call (.ref f) ⟨.ref (s.heap.objs.size + 1)::vs,kw⟩) (PySem.W.InitBack (s.heap.objs.size + 1) R)
   {s with heap:=(s.heap.push PySem.W.emptyDict).push (PySem.W.instObj C s.heap.objs.size)}):
  codeAny (xR prog w) A (.call (.ref C) ⟨vs,kw⟩) R s:=by
 obtain ⟨hh,g,d,t,os⟩:=s;exact PySem.W.make_core (PySem.W.makes_of X hm) (PySem.W.looks_findIn X hi) (λself=>PySem.W.bind_fn X self hf) (.inl rfl) h
end
noncomputable def Fx (f:Str) (v:V):List (Str×V)->List (Str×V)
 | []=> [(f,v)]
 | (g,x)::r=>if g=f then (g,v)::r else (g,x)::Fx f v r
theorem ZEa (f g:Str) (v:V):∀fs:List (Str×V),(Fx f v fs).lookup g=if g=f then some v else fs.lookup g
 | []=>by
  show jw g [(f,v)]=_;by_cases h:g=f
  ·have hb:(g == f)=true:=beq_iff_eq.mpr h;simp only [jw,hb,if_pos h]
  ·have hb:(g == f)=false:=beq_eq_false_iff_ne.mpr h;simp only [jw,hb,if_neg h]
 | (k,x)::r=>by
  have ih:=ZEa f g v r
  rw [show Fx f v ((k,x)::r)=(if k=f then (k,v)::r else (k,x)::Fx f v r) from rfl]
  by_cases hk:k=f
  ·rw [if_pos hk];by_cases h:g=k
   ·have hb:(g == k)=true:=beq_iff_eq.mpr h;simp only [jw,hb,if_pos (h.trans hk)]
   ·have hb:(g == k)=false:=beq_eq_false_iff_ne.mpr h;simp only [jw,hb,if_neg (λe:g=f=>h (e.trans hk.symm))]
  ·rw [if_neg hk];by_cases h:g=k
   ·have hb:(g == k)=true:=beq_iff_eq.mpr h;simp only [jw,hb,if_neg (λe:g=f=>hk (h.symm.trans e))]
   ·have hb:(g == k)=false:=beq_eq_false_iff_ne.mpr h;simp only [jw,hb];exact ih
theorem ZCE (f:Str) (v:V):∀fs:List (Str×V),f∈(Fx f v fs).map (·.1)/\∀g,g∈fs.map (·.1)->g∈(Fx f v fs).map (·.1)
 | []=>⟨by simp [Fx],λg h=>by simp at h⟩
 | (k,x)::r=>by
  obtain ⟨i1,i2⟩:=ZCE f v r
  rw [show Fx f v ((k,x)::r)=(if k=f then (k,v)::r else (k,x)::Fx f v r) from rfl]
  by_cases hk:k=f
  ·rw [if_pos hk];subst hk;exact ⟨by simp,λg h=>by simpa using h⟩
  ·rw [if_neg hk];refine ⟨?_,λg h=> ?_⟩
   ·rw [zA];exact zZ _ i1
   ·rw [zA] at h ⊢;rcases zK.mp h with e | e
    ·exact zK.mpr (.inl e)
    ·exact zZ _ (i2 g e)
theorem ZIV (f:Str) (v:V):∀fs:List (Str×V),(Fx f v fs).length<=fs.length + 1
 | []=>by simp [Fx]
 | (k,x)::r=>by
  have ih:=ZIV f v r
  rw [show Fx f v ((k,x)::r)=(if k=f then (k,v)::r else (k,x)::Fx f v r) from rfl]
  by_cases hk:k=f
  ·rw [if_pos hk,qV,qV];lia
  ·rw [if_neg hk,qV,qV];lia
theorem RelO.some_of {o:Option xz} (r:RelO (some v) o):∃u,o=some u/\RelV v u:=by
 cases o with
 | none=>exact (show False from r).elim
 | some u=>exact ⟨u,rfl,r⟩
theorem RelO.none_of {o:Option xz} (r:RelO none o):o=none:=by
 cases o with
 | none=>rfl
 | some u=>exact (show False from r).elim
theorem ZO4 (r:RelV v u):PySem.W.handedIn u=true:=by
 cases v with
 | non=>cases (show u=Value.none from r);rfl
 | bl b=>cases (show u=Value.bool b from r);rfl
 | int i=>obtain ⟨t,e⟩:=(show∃t,u=Value.int i t from r);cases e;rfl
 | str x=>obtain ⟨t,e⟩:=(show∃t,u=Value.str x t from r);cases e;rfl
 | byt b=>obtain ⟨t,e⟩:=(show∃t,u=Value.bytes b t from r);cases e;rfl
 | flt b=>obtain ⟨t,e⟩:=(show∃t,u=Value.float b t from r);cases e;rfl
 | ref a=>cases (show u=Value.ref a from r);rfl
 | ty n=>cases (show u=Value.type n from r);rfl
section
variable {P:xW} {w:xj} {H H':Hp} {h h':Heap} {a C dx:xQ} {fs fs':List (Str×V)}
theorem ZAC (hok:HOk P w H h) (e:H a=some (.ins C dx fs)):∃mA,ObjM h a dx C mA/\(∀f,RelO (fs.lookup f) (mA f))/\PySem.Within mA (fs.map (·.1))/\fs.length<=1000/\H dx=some (.own a):=by
 obtain ⟨d,z,ne,ob,mA,n,r,q⟩:=(show ObjOk P w H h a (.ins C dx fs) from hok a _ e)
 exact ⟨mA,⟨ob,n,ne⟩,r,q,z,d⟩
end
structure Cls (K:PySem.W.Frag) (C:xQ):Prop where
 pg:PySem.W.plainGet K C Str.empty=true
 hd:PySem.W.hasDictIn K C=true
 po:PySem.W.plainOver K C=true
 sa:PySem.W.findIn K (.ref C) "__setattr__"=some (some (.builtin "object.__setattr__"))
theorem Cls.get (c:Cls K C) (f:Str):PySem.W.plainGet K C f=true:=c.pg
noncomputable def NoAttr (K:PySem.W.Frag) (C:xQ) (f:Str):Prop:=PySem.W.findIn K (.ref C) f=some none
theorem NoAttr.taker {f:Str} (n:NoAttr K C f):PySem.W.takerIn K C f=some none:=by
 unfold PySem.W.takerIn
 rw [show PySem.W.findIn K (.ref C) f=some none from n]
 rfl
structure Meth (K:PySem.W.Frag) (C:xQ) (m:Str) (f:xQ):Prop where
 at_:PySem.W.findIn K (.ref C) m=some (some (.ref f))
 fn:PySem.W.isFn K (.ref f)=true
 kp:PySem.W.keepIn K (.ref f)=true
section
variable {X:Cx} {v8:List (xQ×Obj)} {σ:St} {H:Hp} {s:xY} {a C dx:xQ} {fs:List (Str×V)} {f:Str} {v:V} {A:xZ} {E:xz->xY->Prop}
theorem ZRk {b:Bool} {Q:xz->xY->Prop} (I:Inv X v8 σ H s) (e:H a=some (.ins C dx fs)) (c:Cls X.K C) (n:NoAttr X.K C f) (l:fs.lookup f=some v)
  (h:∀u s',Inv X v8 σ H s'->RelV v u->Q u s'):vJ (xR X.prog X.w) A (getAttr (.ref a) f b) Q E s:=by
 obtain ⟨mA,O,r,_,_,_⟩:=ZAC I.hok e;obtain ⟨u,hu,ru⟩:=RelO.some_of (v:=v) (o:=mA f) (by rw [<-l];exact r f);exact ZNR I.kIn O (c.get f) c.hd n hu (ZO4 ru) (h u _ (I.tok _) ru)
theorem ZHV {m:Str} {g:xQ} {pl:Sem Bool} {Q:xz×List xz->xY->Prop} (I:Inv X v8 σ H s) (e:H a=some (.ins C dx fs)) (c:Cls X.K C) (k:Meth X.K C m g) (l:fs.lookup m=none)
  (h:Q (.ref g,[.ref a]) s):vJ (xR X.prog X.w) A (getMethod (.ref a) m pl) Q E s:=by
 obtain ⟨mA,O,r,_,_,_⟩:=ZAC I.hok e;have hn:mA m=none:=RelO.none_of (by rw [<-l];exact r m);exact ZRK I.kIn O (c.get m) k.at_ k.fn hn h
theorem ZO1 (I:Inv X v8 σ H s) (e:H a=some (.ins C dx fs)) (c:Cls X.K C) (n:NoAttr X.K C f) (hl:fs.length < 1000) (ry:RelV y u)
  (h:∀s',Inv X v8 σ (upd H a (.ins C dx (Fx f y fs))) s'->Q () s'):vJ (xR X.prog X.w) A (setAttr (.ref a) f u) Q E s:=by
 obtain ⟨mA,O,r,wi,_,ho⟩:=ZAC I.hok e
 have hz:(fs.map (·.1)).length<=sizeLine:=by rw [qW,xT];lia
 refine ZP1 I.kIn O c.sa c.po n.taker c.hd wi hz λh' O' sb=>h _ ?_
 have hd:∃o,h'.get? dx=some o:=let ⟨o,_,_,e',_⟩:=O'.ns;⟨o,e'⟩;refine I.write (x:=a) (e:=dx) (by rw [e];exact True.intro) (.inr ho) (λb q hb z=>(sb.2 b hb).trans z) hd ?_;refine ⟨by rw [Bd O.ne];exact ho,?_,O.ne,O'.obj,_,O'.ns,λg=> ?_,λg hg=> ?_⟩
 ·have:=ZIV f y fs;lia
 ·show RelO ((Fx f y fs).lookup g) (if g=f then some u else mA g);rw [ZEa];by_cases q:g=f
  ·rw [if_pos q,if_pos q];exact ry
  ·rw [if_neg q,if_neg q];exact r g
 ·by_cases q:g=f
  ·rw [q];exact (ZCE f y fs).1
  ·refine (ZCE f y fs).2 g (wi g λz=>hg ?_);show (if g=f then some u else mA g)=none;rw [if_neg q];exact z
theorem Inv.made (I:Inv X v8 σ H s):Inv X v8 σ (upd (upd H s.heap.objs.size (.own (s.heap.objs.size + 1))) (s.heap.objs.size + 1) (.ins C s.heap.objs.size []))
  {s with heap:=(s.heap.push PySem.W.emptyDict).push (PySem.W.instObj C s.heap.objs.size)}:=by
 have e1:(s.heap.push PySem.W.emptyDict).get? s.heap.objs.size=some PySem.W.emptyDict:=zB s.heap rfl;have e2:((s.heap.push PySem.W.emptyDict).push (PySem.W.instObj C s.heap.objs.size)).get? (s.heap.objs.size + 1)=some (PySem.W.instObj C s.heap.objs.size):=by have:=zB (s.heap.push PySem.W.emptyDict) (o:=PySem.W.instObj C s.heap.objs.size) rfl;rwa [qE] at this
 have e3:(s.heap.push PySem.W.emptyDict).Ns s.heap.objs.size (λ_=>none):=⟨PySem.W.emptyDict,#[],_,e1,rfl,(λe he=>absurd he (by simp)),λ_=>rfl⟩;have I1:=I.laid (a:=s.heap.objs.size) (o:=.own (s.heap.objs.size + 1)) (h':=s.heap.push PySem.W.emptyDict) (t':=s.toks) (λb u q=>zJ _ q) (zW _) ⟨_,e1⟩;refine I1.laid (a:=s.heap.objs.size + 1) (o:=.ins C s.heap.objs.size []) (t':=s.toks) (λb u q=>zJ _ q) (Nat.le_of_eq (qE _ _)) ?_
 have ne:s.heap.objs.size≠s.heap.objs.size + 1:=zE (qq _);refine ⟨by rw [Bd ne,Ha],jI _,ne,e2,λ_=>none,(Heap.Ns1.of_empty e3).at λo q=>zJ _ q,λ_=>True.intro,λy hy=>absurd rfl hy⟩
theorem ZOC {prog:xW} {env:Env} {f:Str} {pos:Pos} {Q:xz->xY->Prop} (hb:xk e f env (eval e env)=eval e env)
  (h:vJ (xR prog w) A (eval e env) (λo s₁=>vJ (xR prog w) A (getAttr o f true) Q E s₁) E s):vJ (xR prog w) A (eval (.Attribute e f pos) env) Q E s:=
 Attribute_any_ h (by rw [arm_eval_Attribute,hb])
end
noncomputable def tFld (K:PySem.W.Frag) (ta:TE) (f:Str):TE:=λσ H Q=>ta σ H λx H1=>∃a C dx fs v,x=.ref a/\H1 a=some (.ins C dx fs)/\Cls K C/\NoAttr K C f/\fs.lookup f=some v/\Q v H1
noncomputable def sFld (K:PySem.W.Frag) (ta tv:TE) (f:Str):TS:=λD σ H=>tv σ H λy H1=>ta σ H1 λx H2=>∃a C dx fs,x=.ref a/\H2 a=some (.ins C dx fs)/\Cls K C/\NoAttr K C f/\fs.length < 1000/\
 D.nx σ (upd H2 a (.ins C dx (Fx f y fs)))
section
variable {X:Cx} {o e value:xJ} {f:Str} {pos pos' tpos:Pos} {ta tv:TE}
theorem ZQZ (he:PE X e ta) (hb:xk e f X.env (eval e X.env)=eval e X.env):PE X (.Attribute e f pos) (tFld X.K ta f):=by intro v8 s σ H Q I h;refine ZOC hb (thn (he v8 s σ H _ I h) λu s1 ⟨x,H1,I1,rx,a,C,dx,fs,v,ex,ea,c,n,l,q⟩=> ?_);subst ex;obtain rfl:u=Value.ref a:=rx;exact ZRk I1 ea c n l λu' s2 I2 ru=>⟨v,H1,I2,ru,q⟩
theorem ZP7 (ha:PE X o ta) (hv:PE X value tv) (hs:swapsWith value (some (.Attribute o f pos')) pos.line X.env=pure false):PS X (.Assign [.Attribute o f pos'] value pos) (sFld X.K ta tv f):=by intro v8 s σ H D I h;refine plainObj_wpAny_Assign_Attribute (thn (hv v8 s σ H _ I h) λu s1 ⟨y,H1,I1,ry,q⟩=>thn (ha v8 s1 σ H1 _ I1 q) λov s2 ⟨x,H2,I2,rx,a,C,dx,fs,ex,ea,c,n,l,q2⟩=> ?_) hs;subst ex;obtain rfl:ov=Value.ref a:=rx;exact ZO1 I2 ea c n l ry λs3 I3=>⟨σ,_,I3,q2⟩
end
section
variable {X:Cx} {v8:List (xQ×Obj)} {σ:St} {H:Hp} {s:xY} {A:xZ} {E:xz->xY->Prop} {Q:xz->xY->Prop} {c:xz} {b:Bool}
end
structure Room (k:Nat) (A:xZ):Prop where
 hd:A.handled=none
 dp:A.depth + 3 * k + 5 < recursionLimit
 un:A.units + 16 * k + 200 < cLine
theorem Room.mono {j:Nat} (r:Room k A) (h:j<=k):Room j A:=⟨r.hd,by have:=r.dp;lia,by have:=r.un;lia⟩
theorem Room.deeper (r:Room (k + 1) A) (env:Env):Room k (A.deeper env):=
 ⟨r.hd,by have:=r.dp;show A.depth + 1 + 3 * k + 5 < _;lia,by have:=r.un;show A.units + 3 + 16 * k + 200 < _;lia⟩
theorem ZP0:(A.under (.builtin "type.__call__" ⟨.ref C::us,kw⟩)).depth=A.depth + 1:=by
 first | rfl | simp [Around.under,Code.weight,Code.isCreation,Code.isGuard,Code.isCaller,Code.frames,Code.isFrame,guardIds]
theorem ZN0:(A.under (.builtin "type.__call__" ⟨.ref C::us,kw⟩)).units=A.units + 1:=by
 first | rfl | simp [Around.under,Code.cUnits,Code.frames,Code.isFrame]
theorem Room.make (r:Room (k + 1) A) (C:xQ) (us:List xz) (kw:List (Str×xz)):Room k (A.under (.builtin "type.__call__" ⟨.ref C::us,kw⟩)):=
 ⟨r.hd,by have:=r.dp;rw [ZP0];lia,by have:=r.un;rw [ZN0];lia⟩
theorem Room.depth (r:Room k A):A.depth < recursionLimit:=by have:=r.dp;lia
theorem Room.units (r:Room k A):A.units + 64 < cLine:=by have:=r.un;lia
def tNil:TA:=λ_ H Q=>Q [] H
def ZMp (ta:TE) (tr:TA):TA:=λσ H Q=>ta σ H λx H1=>tr σ H1 λxs H2=>Q (x::xs) H2
section
variable {X:Cx} {e:xJ} {es:List xJ} {te:TE} {t:TA} {pos:Pos}
theorem ZOD:PA X [] tNil:=λ_ _ _ _ H Q I h=>Calls.spliced_nil ⟨[],H,I,.nil,h⟩
theorem ZQn (ha:PE X e te) (hr:PA X es t) (hs:vQ (e::es) X.env=(false,eval e X.env)::vQ es X.env:=by rfl):PA X (e::es) (ZMp te t):=by intro pos v8 s σ H Q I h;rw [hs];show vJ _ _ (spliced ((false,eval e X.env)::xy pos (vQ es X.env))) _ _ s;refine Calls.spliced_cons (thn (ha v8 s σ H _ I h) λu s1 ⟨x,H1,I1,r1,q1⟩=> ?_);exact thn (hr pos v8 s1 σ H1 _ I1 q1) λus s2 ⟨xs,H2,I2,r2,q2⟩=>⟨x::xs,H2,I2,.cons r1 r2,q2⟩
noncomputable def tTup (t:TA):TE:=λσ H Q=>t σ H λxs H1=>xs.length<=sizeLine/\∀p,H1 p=none->Q (.ref p) (upd H1 p (.tup xs))
noncomputable def tLst (t:TA):TE:=λσ H Q=>t σ H λxs H1=>xs.length<=sizeLine/\∀p,H1 p=none->Q (.ref p) (upd H1 p (.lst xs))
theorem ZKJ {x1} (h:PA X es t):PE X (.Tuple es x1 pos) (tTup t):=by intro v8 s σ H Q I hq;refine wpAny_Tuple_spliced (thn (h pos v8 s σ H _ I hq) λus s1 ⟨xs,H1,I1,r,z,q⟩=>⟨by rw [<-r.length];exact z,?_⟩);have hf:H1 s1.heap.objs.size=none:=I1.hok.fresh (zW _);refine ⟨.ref s1.heap.objs.size,upd H1 s1.heap.objs.size (.tup xs),I1.laid (t':=s1.toks) (λb u e=>zJ _ e) (zW _) ?_,rfl,q _ hf⟩;exact ⟨z,us,r,⟨_,zB _ rfl,rfl,_,rfl⟩⟩
theorem ZPX (h:PA X es t):PE X (.List es pos) (tLst t):=by intro v8 s σ H Q I hq;refine wpAny_List_spliced (thn (h pos v8 s σ H _ I hq) λus s1 ⟨xs,H1,I1,r,z,q⟩=>⟨by rw [<-r.length];exact z,?_⟩);have hf:H1 s1.heap.objs.size=none:=I1.hok.fresh (zW _);refine ⟨.ref s1.heap.objs.size,upd H1 s1.heap.objs.size (.lst xs),I1.laid (t':=s1.toks) (λb u e=>zJ _ e) (zW _) ?_,rfl,q _ hf⟩;exact ⟨z,us,0,r,zB _ rfl⟩
end
abbrev Sp:=List V->Hp->VK->XK->Prop
abbrev CXT:=List Env->Hp->xY->XK->xz->xY->Prop
structure Env0 (P:xW) (w:xj) (K:PySem.W.Frag) (mg:Str->Option xz) (base:Heap) (A:xZ) (outer:List Env) (s:xY) (H:Hp):Prop where
 frames:A.frames=some outer
 mod:Mod K mg base
 bs:∀b o,base.get? b=some o->s.heap.get? b=some o/\H b=none
 bsz:base.objs.size<=s.heap.objs.size
 funs:s.heap.FunFrames base outer
 frf:∀b∈frs outer,H b=none
 hok:HOk P w H s.heap
 bare:AllBare s.gens
noncomputable def CE (outer:List Env) (P:xW) (w:xj) (H:Hp) (s:xY) (Q:VK) (u:xz) (s':xY):Prop:=
 ∃v H',s'.os=s.os/\AllBare s'.gens/\Un (frs outer) [] H H' s.heap s'.heap/\HOk P w H' s'.heap/\RelV v u/\Q v H'
noncomputable def CR (CX:CXT) (outer:List Env) (P:xW) (w:xj) (H:Hp) (s:xY) (Q:VK) (E:XK) (r:Result) (s':xY):Prop:=
 match r with
 | .ok (.ret u)=>CE outer P w H s Q u s'
 | .ok _=>False
 | .error e=>CX outer H s E e s'
structure FnOk (P:xW) (w:xj) (K:PySem.W.Frag) (mg:Str->Option xz) (base:Heap) (CX:CXT) (k:Nat) (f:xQ) (fd:xX) (ps:List Str) (sp:Sp):Prop where
 len:∀vs H Q E,sp vs H Q E->vs.length=ps.length
 run:∀(A:xZ) (outer:List Env) (s:xY) (H:Hp) (args:Args) (us:List xz) (vs:List V) (Q:VK) (E:XK),Room k A->Env0 P w K mg base A outer s H->BindsTo s fd args (ps.zip us)->Vals vs us->sp vs H Q E->
  codeAny (xR P w) A (.call (.ref f) args) (CR CX outer P w H s Q E) s
theorem Env0.make {outer:List Env} (e:Env0 P w K mg base A outer s H) (C:xQ) (us:List xz) (kw:List (Str×xz)):
  Env0 P w K mg base (A.under (.builtin "type.__call__" ⟨.ref C::us,kw⟩)) outer s H:=⟨by first | exact e.frames | (simpa [Around.under,Code.envs,Code.isFrame,pushEnvs] using e.frames),e.mod,e.bs,e.bsz,e.funs,e.frf,e.hok,e.bare⟩
section
variable {X:Cx} {v8:List (xQ×Obj)} {σ:St} {H:Hp} {s s':xY}
theorem Inv.env0 (I:Inv X v8 σ H s):Env0 X.prog X.w X.K X.mg X.base X.A X.stack s H:=
 ⟨I.ok.frames,I.ok.mod,I.bs,zD I.ok.bsz I.sz,I.stack,I.ZEA,I.hok,I.bare⟩
theorem Inv.after {Q:VK} (I:Inv X v8 σ H s) (h:CE X.stack X.prog X.w H s Q u s'):EP X v8 σ Q u s':=by obtain ⟨v,H',os,bare,un,hok,r,q⟩:=h;obtain ⟨hh,g,d,t,os'⟩:=s';obtain rfl:os'=s.os:=os;exact ⟨v,H',I.call (h':=hh) (g':=g) (d':=d) (t':=t) (ch:= []) un hok bare (λb z=>absurd z (by simp)),r,q⟩
end
noncomputable def ZQH (sp:Sp) (dvs:List V) (E:XK) (t:TA):TE:=λσ H Q=>t σ H λvs H1=>sp (vs++dvs) H1 Q E
noncomputable def ZD6 (C:xQ) (m:Str) (sp:Sp) (dvs:List V) (E:XK) (ta:TE) (t:TA):TE:=λσ H Q=>ta σ H λx H1=>∃a dx fs,x=.ref a/\H1 a=some (.ins C dx fs)/\fs.lookup m=none/\
 t σ H1 λvs H2=>sp (x::(vs++dvs)) H2 Q E
noncomputable def ZMF (C:xQ) (sp:Sp) (dvs:List V) (E:XK) (t:TA):TE:=λσ H Q=>t σ H λvs H1=>∀x dx,H1 x=none->H1 dx=none->dx≠x->
 sp (.ref x::(vs++dvs)) (upd (upd H1 dx (.own x)) x (.ins C dx [])) (λv H2=>v=.non/\Q (.ref x) H2) E
noncomputable def Binds (K:PySem.W.Frag) (fd:xX) (ps:List Str) (ds:List xz):Prop:=
 ∀(s:xY) (us:List xz),K.In s.heap->(us++ds).length=ps.length->BindsTo s fd ⟨us,[]⟩ (ps.zip (us++ds))
theorem Binds.all {fd:xX} {ps:List Str} (h:∀us:List xz,us.length=ps.length->bindArgs fd ⟨us,[]⟩=pure (ps.zip us)):Binds K fd ps []:=λs us _ hl=>by rw [jX] at hl ⊢;exact .of_eq (h us hl)
noncomputable def Passes (CX:CXT) (X:Cx) (E:XK):Prop:=∀(v8:List (xQ×Obj)) (σ:St) (H:Hp) (s:xY) (e:xz) (s':xY),Inv X v8 σ H s->CX X.stack H s E e s'->X.xe e s'
section
variable {X:Cx} {CX:CXT} {k:Nat} {f C:xQ} {fd:xX} {ps:List Str} {sp:Sp} {dvs:List V} {ds:List xz} {E:XK} {x m:Str} {p pos apos:Pos} {e o:xJ} {es:List xJ} {ta:TE} {t:TA}
theorem ZDF {Q:VK} (F:FnOk X.prog X.w X.K X.mg X.base CX k f fd ps sp) (hr:Room k X.A) (hb:Binds X.K fd ps ds) (hd:Vals dvs ds) (hx:Passes CX X E)
  (I:Inv X v8 σ H s) (r:Vals vs us) (h:sp (vs++dvs) H Q E):vJ (xR X.prog X.w) X.A (call (.ref f) us) (EP X v8 σ Q) X.xe s:=by
 have r2:Vals (vs++dvs) (us++ds):=r.append hd;have hl:(us++ds).length=ps.length:=by rw [<-r2.length];exact F.len _ _ _ _ h
 refine wpAny_call (codeAny_mono (F.run X.A X.stack s H ⟨us,[]⟩ (us++ds) (vs++dvs) Q E hr I.env0 (hb s us I.kIn hl) r2 h) λr s' hq=> ?_);cases r with
 | error e=>exact hx v8 σ H s e s' I hq
 | ok fl=>
  cases fl with
  | ret u=>exact I.after hq
  | next=>exact False.elim hq
  | brk=>exact False.elim hq
  | cont=>exact False.elim hq
theorem ZNm (F:FnOk X.prog X.w X.K X.mg X.base CX k f fd ps sp) (hr:Room k X.A) (hg:Gl X x) (hm:X.mg x=some (.ref f)) (hk:PySem.W.keepIn X.K (.ref f)=true) (hb:Binds X.K fd ps ds) (hd:Vals dvs ds) (hx:Passes CX X E)
  (ha:PA X (e::es) t) (hdb:(x == ("__debug__":Str))=false:=by decide) (he:vQ (e::es) X.env=(false,eval e X.env)::vQ es X.env:=by rfl) (hpl:(xy pos (vQ es X.env)).any (·.1)=false:=by rfl):
  PE X (.Call (.Name x p) (e::es) [] pos) (ZQH sp dvs E t):=by
 intro v8 s σ H Q I h;refine vX (ZA0 I hg hm ?_ hdb);refine PySem.W.callWith_K (h₀:=X.base) I.ok.mod.kin hk (thn (ha pos v8 s σ H _ I h) λus s1 ⟨vs,H1,I1,r,q⟩=>⟨I1.kIn,?_⟩) he hpl;exact ZDF F hr hb hd hx I1 r q
theorem ZNY {pl:Sem Bool} (he:PE X o ta) (c:Cls X.K C) (hm:Meth X.K C m f) (F:FnOk X.prog X.w X.K X.mg X.base CX k f fd ps sp) (hr:Room k X.A) (hb:Binds X.K fd ps ds) (hd:Vals dvs ds) (hx:Passes CX X E) (ha:PA X (e::es) t)
  (hst:vQ (e::es) X.env=(false,eval e X.env)::vQ es X.env:=by rfl) (hpl:(xy pos (vQ es X.env)).any (·.1)=false:=by rfl)
  (ht:eval (.Call (.Attribute o m apos) (e::es) [] pos) X.env=(do
   let ov<-eval o X.env
   standAt apos.atName
   let (f,first)<-holding [ov] (getMethod ov m pl)
   callWith pos f first (xy pos (vQ (e::es) X.env)) (backToKw pos (xN [] X.env))):=by rfl):
  PE X (.Call (.Attribute o m apos) (e::es) [] pos) (ZD6 C m sp dvs E ta t):=by
 intro v8 s σ H Q I h;refine PySem.W.methodCall_KW (pl:=pl) (thn (he v8 s σ H _ I h) λu s1 ⟨x,H1,I1,rx,a,dx,fs,ex,ea,l,q⟩=> ?_) ht;subst ex;obtain rfl:u=Value.ref a:=rx;refine ZHV I1 ea c hm l ?_
 refine PySem.W.callWith_K (first:= [.ref a]) (h₀:=X.base) I.ok.mod.kin hm.kp (thn (ha pos v8 s1 σ H1 _ I1 q) λus s2 ⟨vs,H2,I2,r,q2⟩=>⟨I2.kIn,?_⟩) hst hpl
 exact ZDF (us:=.ref a::us) (vs:=.ref a::vs) F hr hb hd hx I2 (.cons rfl r) q2
theorem ZOb {pl:Sem Bool} (he:PE X o ta) (c:Cls X.K C) (hm:Meth X.K C m f) (F:FnOk X.prog X.w X.K X.mg X.base CX k f fd ps sp) (hr:Room k X.A) (hb:Binds X.K fd ps ds) (hd:Vals dvs ds) (hx:Passes CX X E)
  (ht:eval (.Call (.Attribute o m apos) [] [] pos) X.env=(do
   let ov<-eval o X.env
   standAt apos.atName
   let (f,first)<-holding [ov] (getMethod ov m pl)
   callWith pos f first (xy pos (vQ [] X.env)) (backToKw pos (xN [] X.env))):=by rfl):
  PE X (.Call (.Attribute o m apos) [] [] pos) (ZD6 C m sp dvs E ta tNil):=by
 intro v8 s σ H Q I h;refine PySem.W.methodCall_KW (pl:=pl) (thn (he v8 s σ H _ I h) λu s1 ⟨x,H1,I1,rx,a,dx,fs,ex,ea,l,q⟩=> ?_) ht;subst ex;obtain rfl:u=Value.ref a:=rx;refine ZHV I1 ea c hm l ?_
 exact PySem.W.callWith_K0 (first:= [.ref a]) I1.kIn hm.kp (ZDF (us:= [.ref a]) (vs:= [.ref a]) F hr hb hd hx I1 (.cons rfl .nil) q)
structure Mk (K:PySem.W.Frag) (C f:xQ):Prop where
 makes:PySem.W.makesIn K C=true
 init:PySem.W.findIn K (.ref C) "__init__"=some (some (.ref f))
 fn:PySem.W.isFn K (.ref f)=true
 kp:PySem.W.keepIn K (.ref C)=true
theorem ZRm {Q:VK} (M:Mk X.K C f) (F:FnOk X.prog X.w X.K X.mg X.base CX k f fd ps sp) (hr:Room (k + 1) X.A) (hb:Binds X.K fd ps ds) (hd:Vals dvs ds)
  (hx:Passes CX X E) (I:Inv X v8 σ H s) (r:Vals vs us)
  (h:∀x dx,H x=none->H dx=none->dx≠x->sp (.ref x::(vs++dvs)) (upd (upd H dx (.own x)) x (.ins C dx [])) (λv H2=>v=.non/\Q (.ref x) H2) E):
  vJ (xR X.prog X.w) X.A (call (.ref C) us) (EP X v8 σ Q) X.xe s:=by
 have hq:=h (s.heap.objs.size + 1) s.heap.objs.size (I.hok.fresh (j3 _)) (I.hok.fresh (zW _)) (zE (qq _));have I2:=Inv.made (C:=C) I;have r2:Vals (V.ref (s.heap.objs.size + 1)::(vs++dvs)) (Value.ref (s.heap.objs.size + 1)::(us++ds)):=.cons rfl (r.append hd);have hl:(Value.ref (s.heap.objs.size + 1)::us++ds).length=ps.length:=by have e:=r2.length;rw [F.len _ _ _ _ hq] at e;exact e.symm
 refine wpAny_call (ZN3 (f:=f) I.kIn M.makes M.init (beq_iff_eq.mp M.fn) (codeAny_mono (F.run _ X.stack _ _ ⟨Value.ref (s.heap.objs.size + 1)::us,[]⟩ (Value.ref (s.heap.objs.size + 1)::(us++ds)) _ _ E (hr.make C us [])
  (I2.env0.make C us []) (hb _ (Value.ref (s.heap.objs.size + 1)::us) I2.kIn hl) r2 hq) λr s' hq'=> ?_))
 cases r with
 | error e=>exact hx v8 σ _ _ e s' I2 hq'
 | ok fl=>
  cases fl with
  | ret u=>
   obtain ⟨v,H',I3,rv,ev,q3⟩:=I2.after hq';subst ev;exact ⟨rv,⟨V.ref (s.heap.objs.size + 1),H',I3,rfl,q3⟩⟩
  | next=>exact False.elim hq'
  | brk=>exact False.elim hq'
  | cont=>exact False.elim hq'
theorem ZKR (M:Mk X.K C f) (F:FnOk X.prog X.w X.K X.mg X.base CX k f fd ps sp) (hr:Room (k + 1) X.A) (hg:Gl X x) (hm:X.mg x=some (.ref C)) (hb:Binds X.K fd ps ds) (hd:Vals dvs ds) (hx:Passes CX X E)
  (ha:PA X (e::es) t) (hdb:(x == ("__debug__":Str))=false:=by decide) (he:vQ (e::es) X.env=(false,eval e X.env)::vQ es X.env:=by rfl) (hpl:(xy pos (vQ es X.env)).any (·.1)=false:=by rfl):
  PE X (.Call (.Name x p) (e::es) [] pos) (ZMF C sp dvs E t):=by
 intro v8 s σ H Q I h;refine vX (ZA0 I hg hm ?_ hdb);refine PySem.W.callWith_K (h₀:=X.base) I.ok.mod.kin M.kp (thn (ha pos v8 s σ H _ I h) λus s1 ⟨vs,H1,I1,r,q⟩=>⟨I1.kIn,?_⟩) he hpl;exact ZRm M F hr hb hd hx I1 r q
end
section
variable {X:Cx} {CX:CXT} {k:Nat} {f C:xQ} {fd:xX} {ps ks:List Str} {sp:Sp} {E:XK} {x m:Str} {p pos apos kpos:Pos} {e o:xJ} {es:List xJ} {kws:List Keyword} {te ta:TE} {t tk:TA} {nm:Option Str}
variable {g:List xz->List xz->List xz} {gV:List V->List V->List V}
end
structure FnScope (N P:List Str) (sc:xK):Prop where
 kind:sc.kind=.function
 co:sc.isCoroutine=false
 gen:sc.isGenerator=false
 nd:N.Nodup
 pre:N.take P.length=P
 par:∀x∈P,sc.names.lookup x=some .local∨sc.names.lookup x=some .cell
 nofree:∀y∈sc.names,y.2≠ .free
theorem ZGU:∀{binds:List (Str×xz)} {m:Str->Option xz},(∀v,(x,v) ∉ binds)->bindL kindOf binds m x=m x
 | [],_,_=>rfl
 | (n,v)::r,m,h=>by
  unfold bindL;rw [ZGU λw hw=>h w (zZ _ hw)];split
  ·have:x≠n:=by rintro rfl;exact h v zX
   simp [this]
  ·rfl
theorem ZHW:∀{binds:List (Str×xz)} {m:Str->Option xz},(∀v,(x,v) ∉ binds)->bindC kindOf binds m x=m x
 | [],_,_=>rfl
 | (n,v)::r,m,h=>by
  unfold bindC;rw [ZHW λw hw=>h w (zZ _ hw)];split
  ·rfl
  ·have:x≠n:=by rintro rfl;exact h v zX
   simp [this]
theorem ZJt {v:xz}:∀{P:List Str} {vs:List xz} {i:Nat} {m:Str->Option xz},P.Nodup->P[i]? =some x->vs[i]? =some v->kindOf x=some .local->
  bindL kindOf (P.zip vs) m x=some v
 | [],_,_,_,_,h,_,_=>by simp at h
 | _::_,[],_,_,_,_,h,_=>by simp at h
 | p::P,w::vs,0,m,nd,h1,h2,hk=>by simp at h1 h2;subst h1;subst h2;show bindL kindOf ((p,w)::P.zip vs) m p=_;unfold bindL;rw [ZGU λv hv=>(qK.mp nd).1 (List.of_mem_zip hv).1,if_pos hk];simp
 | p::P,w::vs,i + 1,m,nd,h1,h2,hk=>by show bindL kindOf ((p,w)::P.zip vs) m x=_;unfold bindL;exact ZJt (i:=i) (qK.mp nd).2 (by simpa using h1) (by simpa using h2) hk
theorem ZHj {v:xz}:∀{P:List Str} {vs:List xz} {i:Nat} {m:Str->Option xz},P.Nodup->P[i]? =some x->vs[i]? =some v->kindOf x≠some .local->
  bindC kindOf (P.zip vs) m x=some v
 | [],_,_,_,_,h,_,_=>by simp at h
 | _::_,[],_,_,_,_,h,_=>by simp at h
 | p::P,w::vs,0,m,nd,h1,h2,hk=>by simp at h1 h2;subst h1;subst h2;show bindC kindOf ((p,w)::P.zip vs) m p=_;unfold bindC;rw [ZHW λv hv=>(qK.mp nd).1 (List.of_mem_zip hv).1,if_neg hk];simp
 | p::P,w::vs,i + 1,m,nd,h1,h2,hk=>by show bindC kindOf ((p,w)::P.zip vs) m x=_;unfold bindC;exact ZHj (i:=i) (qK.mp nd).2 (by simpa using h1) (by simpa using h2) hk
noncomputable def start (N:List Str) (vs:List V):St:=vs.map some++zV (N.length - vs.length) none
noncomputable def Ph (CX:CXT) (P:xW) (w:xj) (K:PySem.W.Frag) (mg:Str->Option xz) (base:Heap) (N:List Str) (qual:Str) (scope:xK) (f:xQ) (cd:xz) (A:xZ) (outer:List Env) (s:xY) (H:Hp) (E:XK):Cx where
 prog:=P
 w:=w
 K:=K
 mg:=mg
 base:=base
 A:=A.deeper (envOfC qual scope s.heap.objs.size f cd)
 N:=N
 s₀:=s
 H₀:=H
 env:=envOfC qual scope s.heap.objs.size f cd
 outer:=outer
 stack:=envOfC qual scope s.heap.objs.size f cd::outer
 ex:= []
 calm:=true
 fn:=λ_=>true
 pn:= []
 xe:=λe s'=>vJ (xR P w) (A.deeper (envOfC qual scope s.heap.objs.size f cd)) (leaving (envOfC qual scope s.heap.objs.size f cd) e) (λ_ s''=>CX outer H s E e s'') (λe' s''=>CX outer H s E e' s'') s'
theorem ZI4 {sc:xK} {n:Nat} (h:sc.names.lookup x=some .cell):∃c,(cellsFrom n sc.names []).lookup x=some c:=by have q:=PySem.W.cellsFrom_some sc.names n [] (.inl h);exact qO.mp q
theorem ZMC {CX:CXT} {N ps:List Str} {qual:Str} {scope:xK} {f:xQ} {cd:xz} {outer:List Env} {s1:xY} {E:XK} 
  (S:FnScope N ps scope) (hd:A.handled=none) (e0:Env0 P w K mg base A outer s H) (hl:vs.length=ps.length) (r:Vals vs us)
  (x:InCallC s s.heap.objs.size (bindL (envOfC qual scope s.heap.objs.size f cd).kindOf (ps.zip us) λ_=>none) (cellsFrom (s.heap.objs.size + 1) scope.names []) (bindC (envOfC qual scope s.heap.objs.size f cd).kindOf (ps.zip us) λ_=>none) s1):
  Inv (Ph CX P w K mg base N qual scope f cd A outer s H E) [] (start N vs) H s1:=by
 have hpl:ps.length<=N.length:=by have:=congrArg jU S.pre;rw [j9] at this;lia
 obtain ⟨h1,tk,rfl,hk⟩:=x.done
 have noA:∀b:xQ,b ∉ (Ph CX P w K mg base N qual scope f cd A outer s H E).ex:=λb z=>absurd (show b∈([]:List xQ) from z) (by simp)
 refine ⟨⟨e0.mod,S.kind,rfl,rfl,zW _,λy z c h1 h2=> ?_,λy hy=> ?_,λy c _ h=> ?_,λ_=>hd,Around.frames_deeper e0.frames,.inr ⟨rfl,rfl⟩,λb z=>absurd z (noA b),e0.bs,e0.bsz,λb _ _=>noA b,λb z=>absurd z (noA b),e0.funs,e0.frf⟩,
  rfl,e0.bare,Un.kept hk,⟨_,x.toInCall.ns,λi y v h1 h2 h3=> ?_⟩,λy c h=>⟨_,x.cell y c h⟩,e0.hok.fresh (zW _),λy c h=> ?_,λp hp=>absurd (show p∈([]:List (xQ×Obj)) from hp) (by simp),e0.hok.kept hk,?_⟩
 ·exact name_of_addr x.apart (PySem.mem_of_lookup h1) (PySem.mem_of_lookup h2)
 ·have hy:scope.names.lookup y=some .cell∨scope.names.lookup y=some .free:=hy;rcases hy with hy | hy
  ·exact ZI4 hy
  ·exact absurd rfl (S.nofree _ (PySem.mem_of_lookup hy))
 ·exact Nat.le_of_lt (x.above y c (PySem.mem_of_lookup h))
 ·have hi:i < vs.length:=by
   unfold start at h2;by_cases hi:i < vs.length
   ·exact hi
   ·rw [zM (by simpa using hi)] at h2;rw [qT] at h2
    split at h2 <;> cases h2
  have ha:vs[i]? =some v:=by
   unfold start at h2;rw [zI (by simpa using hi),zw] at h2;cases e:vs[i]? with
   | none=>rw [e] at h2;cases h2
   | some a=>rw [e] at h2;cases h2;rfl
  obtain ⟨u,hu,rv⟩:=r.get ha;have hp:ps[i]? =some y:=by rw [<-S.pre,jv (by lia)];exact h1
  have ndP:ps.Nodup:=by rw [<-S.pre];exact S.nd.sublist (List.take_sublist _ _)
  refine ⟨u,rv,?_⟩;rcases S.par y (List.mem_of_getElem? hp) with k | k
  ·exact .inl ⟨k,ZJt ndP hp hu k⟩
  ·obtain ⟨c,e⟩:=ZI4 (n:=s.heap.objs.size + 1) k;refine .inr ⟨.inl k,c,e,?_⟩;have q:=x.cell y c e;rw [ZHj ndP hp hu (by show scope.names.lookup y≠_;rw [k];decide)] at q;exact q
 ·exact e0.hok.fresh (Nat.le_of_lt (x.above y c (PySem.mem_of_lookup h)))
 ·unfold start;show _=N.length;rw [zU,qW,jL];lia
theorem ZQm {CX:CXT} {f:xQ} {name qual:Str} {params:Arguments} {scope:xK} {dV kV doc pm cdv ct oc:xz} {an od:Option xQ}
  {osl:Array (Option xz)} {N ps:List Str} {sp:Sp} (lk:K.lookup f=some ⟨oc,od,.func (PySem.W.fnOf name qual params body scope dV kV doc pm an cdv ct),osl⟩) (hcd:PySem.W.codeIn K cdv qual=true) (S:FnScope N ps scope)
  (len:∀vs H Q E,sp vs H Q E->vs.length=ps.length)
  (hbody:∀(A:xZ) (outer:List Env) (s:xY) (H:Hp) (vs:List V) (Q:VK) (E:XK),Room k (A.deeper (envOfC qual scope s.heap.objs.size f cdv))->sp vs H Q E->
   ∃t,PSs (Ph CX P w K mg base N qual scope f cdv A outer s H E) body t/\t {nx:=λ_ H'=>Q .non H',rt:=Q} (start N vs) H):
  FnOk P w K mg base CX (k + 1) f (PySem.W.fnOf name qual params body scope dV kV doc pm an cdv ct) ps sp:=by
 refine ⟨len,λA outer s H args us vs Q E hr e0 hb r hsp=> ?_⟩;have hl:=len _ _ _ _ hsp;have KX:K.In s.heap:=e0.mod.kin.keeps λb o e=>(e0.bs b o e).1
 have lim:s.heap.NoLimit:=e0.mod.nolimit.keeps λb o e=>(e0.bs b o e).1
 have hkind:∀y∈ps.zip us,scope.names.lookup y.1=some .local∨(scope.names.lookup y.1=some .cell/\((cellsFrom (s.heap.objs.size + 1) scope.names []).lookup y.1).isSome=true):=λ⟨n,v⟩ hy=>by
  rcases S.par n (List.of_mem_zip hy).1 with q | q
  ·exact .inl q
  ·exact .inr ⟨q,PySem.W.cellsFrom_some _ _ _ (.inl q)⟩
 refine codeAny_call_function hr.depth (KX _ _ lk) rfl S.co S.gen rfl (PySem.W.codeRec_of KX hcd) (hb _ _ _ _ ?_);refine wpAny_newFunctionEnv_cells S.kind hkind λenv he s1 x=> ?_
 subst he;refine ⟨lim.keeps x.toInCall.keep,codeAny_func ?_⟩;obtain ⟨t,ht,hq⟩:=hbody A outer s H vs Q E (hr.deeper _) hsp;have I:Inv (Ph CX P w K mg base N qual scope f cdv A outer s H E) [] (start N vs) H s1:=ZMC S hr.hd e0 hl r x;refine vz (ht [] s1 (start N vs) H _ I hq) (λfl s' hs=> ?_) λe s' hs=>hs
 have fin:∀{σ':St} {H':Hp} {v:V} {u:xz},Inv (Ph CX P w K mg base N qual scope f cdv A outer s H E) [] σ' H' s'->RelV v u->Q v H'->CE outer P w H s Q u s':=
  λ{σ' H' v u} J rv q=>⟨v,H',J.os,J.bare,J.base,J.hok,rv,q⟩
 cases fl with
 | ret u=>
  obtain ⟨v,σ',H',J,rv,q⟩:=hs;exact fin J rv q
 | next=>
  obtain ⟨σ',H',J,q⟩:=hs;exact fin (v:=V.non) (u:=Value.none) J rfl q
 | brk=>
  obtain ⟨_,_,_,q⟩:=hs;exact False.elim q
 | cont=>
  obtain ⟨_,_,_,q⟩:=hs;exact False.elim q
section
variable {X:Cx} {x:Str} {p pos:Pos} {e:xJ} {es:List xJ} {t:TA} {id T:String} {r:List V->Hp->VK->Prop}
def tCB (r:List V->Hp->VK->Prop) (t:TA):TE:=λσ H Q=>t σ H λvs H1=>r vs H1 Q
theorem ZN2 (hc:CallR X (.builtin id) r) (hg:Gl X x) (hm:X.mg x=none) (hv:xB x=some (.builtin id)) (ha:PA X (e::es) t) (hn:x≠"__name__":=by decide) (hdb:(x == ("__debug__":Str))=false:=by decide)
  (he:vQ (e::es) X.env=(false,eval e X.env)::vQ es X.env:=by rfl) (hpl:(xy pos (vQ es X.env)).any (·.1)=false:=by rfl):PE X (.Call (.Name x p) (e::es) [] pos) (tCB r t):=by
 intro v8 s σ H Q I h;refine vX (Kg I hg hm hv ?_ hn hdb);exact PyProof.Rows.callWith_builtin1 (thn (ha pos v8 s σ H _ I h) λus s1 ⟨vs,H1,I1,r1,q1⟩=>hc v8 s1 σ H1 vs us Q I1 r1 q1) he hpl
theorem ZPh (hc:CallR X (.type T) r) (hg:Gl X x) (hm:X.mg x=none) (hv:xB x=some (.type T)) (ha:PA X (e::es) t) (hn:x≠"__name__":=by decide) (hdb:(x == ("__debug__":Str))=false:=by decide)
  (he:vQ (e::es) X.env=(false,eval e X.env)::vQ es X.env:=by rfl) (hpl:(xy pos (vQ es X.env)).any (·.1)=false:=by rfl):PE X (.Call (.Name x p) (e::es) [] pos) (tCB r t):=by
 intro v8 s σ H Q I h;refine vX (Kg I hg hm hv ?_ hn hdb);exact PyProof.Rows.callWith_type1 (thn (ha pos v8 s σ H _ I h) λus s1 ⟨vs,H1,I1,r1,q1⟩=>hc v8 s1 σ H1 vs us Q I1 r1 q1) he hpl
end
end L2
namespace HT
open PySem PyProof.Rows
section
open PySem.SeqAt
open PySem.AutoSeq1 (wpAny_loadPart')
open PySem.MeetsSeq PySem.MeetsSeq2 PySem.MeetsSeq3
end
section
variable {prog:xW} {w:xj} {A:xZ} {E:xz->xY->Prop} {s:xY}
theorem ZPw {t b:xQ} {vs ws:List xz} {Q:xz->xY->Prop} (ht:IsTup s.heap t vs.toArray) (hb:IsTup s.heap b ws.toArray) (hv:vs≠ [])
  (h1:ws= []->Q (.ref t) s) (h2:ws≠ []->Q (.ref s.heap.objs.size) {s with heap:=s.heap.push {cls:=.type "tuple",data:=.seq (vs++ws).toArray}})
  (hsz:vs.length + ws.length<=sizeLine):vJ (xR prog w) A (xA .Add (.ref t) (.ref b)) Q E s:=by
 obtain ⟨⟨cls,dd,data,sl⟩,ho,hc,n,hd⟩:=id ht;obtain ⟨⟨cls2,dd2,data2,sl2⟩,ho2,hc2,n2,hd2⟩:=id hb;simp only at hc hd hc2 hd2;subst hc hd hc2 hd2;have e:vs.toArray++ws.toArray=(vs++ws).toArray:=by simp
 by_cases hw:ws= []
 ·exact concat_meets ⟨_,ho,rfl⟩ ⟨_,ho2,rfl⟩ noFill_tuple_add seq_tuple_add PySem.F.slot_tuple_add PySem.F.entry_tuple_add (PySem.F.args_tuple_add_2 _ _)
   (tuple_addW1 t b vs.toArray ws.toArray n n2 dd dd2 sl sl2 (by simpa using hv) (by simp [hw])) ⟨ho,ho2,h1 hw⟩
 ·refine concat_meets ⟨_,ho,rfl⟩ ⟨_,ho2,rfl⟩ noFill_tuple_add seq_tuple_add PySem.F.slot_tuple_add PySem.F.entry_tuple_add (PySem.F.args_tuple_add_2 _ _)
   (tuple_addW2 t b vs.toArray ws.toArray n n2 dd dd2 sl sl2 (by simpa using hv) (by simpa using hw) (by rw [zY,zY];exact hsz)) ⟨ho,ho2,?_⟩
  rw [e];exact h2 hw
noncomputable def sIx (n d:Nat):Option Int->Nat
 | none=>d
 | some v=>if v < 0 then (v + (n:Int)).toNat else min v.toNat n
theorem ZJU (n d:Nat) (hd:d<=n) (o:Option Int):sIx n d o<=n:=by
 cases o with
 | none=>exact hd
 | some v=>
  show (if v < 0 then (v + (n:Int)).toNat else min v.toNat n)<=n;by_cases hv:v < 0
  ·rw [if_pos hv];lia
  ·rw [if_neg hv];exact Nat.min_le_right _ _
theorem ZE1 (v:Int) (n d:Nat):(if v < 0 then max (v + (n:Int)) 0 else min v (n:Int))=((sIx n d (some v):Nat):Int):=by
 show (if v < 0 then max (v + (n:Int)) 0 else min v (n:Int))=(((if v < 0 then (v + (n:Int)).toNat else min v.toNat n):Nat):Int);by_cases hv:v < 0
 ·simp only [if_pos hv];lia
 ·simp only [if_neg hv];lia
theorem ZQ1 (lo hi:Option Int) (n:Nat):Builtin.Slice.sliceAdjust lo hi 1 (n:Int)=(((sIx n 0 lo:Nat):Int),((sIx n n hi:Nat):Int)):=by
 have h1:¬((1:Int) < 0):=by lia
 unfold Builtin.Slice.sliceAdjust;simp only [h1,if_false];refine Prod.ext ?_ ?_
 ·cases lo with
  | none=>rfl
  | some v=>exact ZE1 v n 0
 ·cases hi with
  | none=>rfl
  | some v=>exact ZE1 v n n
theorem ZLx (i j:Nat):Builtin.Slice.slicePlaces (i:Int) (j:Int) 1=j - i:=by
 unfold Builtin.Slice.slicePlaces;have h1:(1:Int) > 0:=by lia
 simp only [h1,if_true,Int.ediv_one]
 split <;> lia
theorem ZH7 {v:xz} {o:Option Int} {Q:Option Int->xY->Prop} (p:IsPart v o) (h:Q o s):vJ (xR prog w) A (Builtin.Slice.slicePartIndex v) Q E s:=by
 cases p with
 | none=>exact slicePart_none h
 | int i t=>exact slicePart_int h
theorem ZEF {sl:xQ} {vl vu:xz} {lo hi:Option Int} {n:Nat} {Q:Int×Int×Nat->xY->Prop} (hs:s.heap.IsSliceOf sl vl vu .none) (pl:IsPart vl lo) (pu:IsPart vu hi)
  (h:Q (((sIx n 0 lo:Nat):Int),1,sIx n n hi - sIx n 0 lo) s):vJ (xR prog w) A (Builtin.Slice.sliceApplied (.ref sl) (pure (n:Int))) Q E s:=by
 obtain ⟨os,hos,hcs,hds⟩:=id hs;unfold Builtin.Slice.sliceApplied Builtin.Slice.sliceFields;refine vV (vV (vY hos hds (x:=vl) rfl (vV (vY hos hds (x:=vu) rfl (vV (vY hos hds (x:=.none) rfl (vv ?_)))))));refine vV (slicePart_none ?_);show vJ _ _ (if ((1:Int) == 0)=true then _ else _) _ _ s;rw [if_neg (by decide)];refine vV (ZH7 pl (vV (ZH7 pu (vV (vv ?_)))))
 show vJ _ _ (match Builtin.Slice.sliceAdjust lo hi 1 (n:Int) with | (lo,hi)=>pure (lo,(1:Int),Builtin.Slice.slicePlaces lo hi 1)) _ _ s
 rw [ZQ1 lo hi n];show vJ _ _ (pure (((sIx n 0 lo:Nat):Int),(1:Int),Builtin.Slice.slicePlaces ((sIx n 0 lo:Nat):Int) ((sIx n n hi:Nat):Int) 1)) _ _ s;rw [ZLx];exact vv h
theorem ZMX (xs:Array xz) (i k:Nat):((zj k).filterMap λ(m:Nat)=>xs[((i:Int) + (m:Int) * 1).toNat]?).toArray=((xs.toList.drop i).take k).toArray:=by
 have e:(λ(m:Nat)=>xs[((i:Int) + (m:Int) * 1).toNat]?)=λm=>xs[i + m]? :=by
  funext m;have:((i:Int) + (m:Int) * 1).toNat=i + m:=by lia
  rw [this]
 rw [e];have:=pick_run xs i k;rw [qQ] at this;have e2:((λx=>xs[x]?) ∘ λx=>i + x)=λm=>xs[i + m]? :=rfl
 rw [e2] at this;rw [this]
theorem ZP6 {t sl:xQ} {items:Array xz} {vl vu:xz} {lo hi:Option Int} {Q:xz->xY->Prop} (ht:IsTup s.heap t items) (hs:s.heap.IsSliceOf sl vl vu .none) (pl:IsPart vl lo) (pu:IsPart vu hi)
  (hw:¬(sIx items.size 0 lo=0/\sIx items.size items.size hi=items.size))
  (h:Q (.ref s.heap.objs.size) {s with heap:=s.heap.push {cls:=.type "tuple",data:=.seq ((items.toList.drop (sIx items.size 0 lo)).take (sIx items.size items.size hi - sIx items.size 0 lo)).toArray}})
  (hsz:items.size<=sizeLine):vJ (xR prog w) A (getItem (.ref t) (.ref sl)) Q E s:=by
 have htake:sizeOk (.seq ((items.toList.drop (sIx items.size 0 lo)).take (sIx items.size items.size hi - sIx items.size 0 lo)).toArray):=by show ((items.toList.drop (sIx items.size 0 lo)).take (sIx items.size items.size hi - sIx items.size 0 lo)).toArray.size<=sizeLine;rw [zY,j9,jM,q9];lia
 have hj:sIx items.size items.size hi<=items.size:=ZJU _ _ (zW _) hi;obtain ⟨os,hos,hcs,hds⟩:=id hs;have hTs:s.TypeIs (.ref sl) "slice":=⟨os,hos,hcs⟩;unfold getItem
 try with_reducible refine vq ?_
 first | refine vV (vv ?_) | skip
 refine vV (wpAny_sequenceKey ht.typeIs (by decide) ?_);refine vV (vW (name:=Str.ofString "__getitem__") ht.typeIs PyProof.Rows.slot_tuple_getitem
  (vK PyProof.Rows.slot_tuple_getitem ht.typeIs entry_tuple_getitem ?_ (args_tuple_getitem _ _)))
 show vJ _ _ (Builtin.Tuple.tupleItemsOf (.ref t) >>=_) _ _ s;refine vV (tupleItemsOf_ ht ?_);refine vV (wpAny_typeOf hTs ?_);rw [if_pos (by decide)];refine vV (ZEF hs pl pu ?_);have hno:¬((((sIx items.size 0 lo:Nat):Int) == 0 && (1:Int) == 1 && (sIx items.size items.size hi - sIx items.size 0 lo) == items.size)=true):=by intro q;rw [zC,zC] at q;have q1:((sIx items.size 0 lo:Nat):Int)=0:=eq_of_beq q.1.1;have q2:sIx items.size items.size hi - sIx items.size 0 lo=items.size:=eq_of_beq q.2;exact hw ⟨by lia,by lia⟩
 show vJ _ _ (if (((sIx items.size 0 lo:Nat):Int) == 0 && (1:Int) == 1 && (sIx items.size items.size hi - sIx items.size 0 lo) == items.size)=true then _ else _) _ _ s;rw [if_neg hno,ZMX]
 first
  | exact vV (m:=Builtin.Tuple.tupleExact _) (vj (vv ⟨_,rfl,vv h⟩) htake)
  | exact vV (m:=Builtin.Tuple.tupleExact _) (vj (vV (vv (vv ⟨_,rfl,vv h⟩))) htake)
  | exact vV (vV (m:=Builtin.Tuple.tupleExact _) (vj (vv (vv ⟨_,rfl,vv h⟩)) htake))
  | exact vV (vV (m:=Builtin.Tuple.tupleExact _) (vj (vv ⟨_,rfl,vv h⟩) htake))
end
end HT
namespace L2
open PySem PySem.Spec PyProof.Rows
variable {xs:List V} {v8:List (xQ×Obj)} {σ:St} {H:Hp} {s:xY} {its:List xz}
abbrev TO:=St->Hp->(Option Int->Hp->Prop)->Prop
noncomputable def PO (X:Cx) (e:Option xJ) (t:TO):Prop:=
 ∀(v8:List (xQ×Obj)) (s:xY) (σ:St) (H:Hp) (Q:Option Int->Hp->Prop),Inv X v8 σ H s->t σ H Q->
  vJ (xR X.prog X.w) X.A (evalPart e X.env) (λu s'=>∃o H',Inv X v8 σ H' s'/\IsPart u o/\Q o H') X.xe s
def ZOz:TO:=λ_ H Q=>Q none H
def ZMb (t:TE):TO:=λσ H Q=>t σ H λx H1=>∃i,x=.int i/\Q (some i) H1
section
variable {X:Cx} {e:xJ} {te:TE} {lo hi:Option xJ} {tl th:TO} {pos p2:Pos}
theorem ZQz:PO X none ZOz:=by intro v8 s σ H Q I h;rw [evalPart_none];exact vv ⟨none,H,I,.none,h⟩
theorem ZLy (h:PE X e te):PO X (some e) (ZMb te):=by
 intro v8 s σ H Q I hw;rw [evalPart_some];refine thn (h v8 s σ H _ I hw) λu s1 ⟨x,H1,I1,r1,q1⟩=> ?_
 obtain ⟨i,rfl,q⟩:=q1;obtain ⟨t,rfl⟩:=r1;exact ⟨some i,H1,I1,.int i t,q⟩
noncomputable def SlR (X:Cx) (r:V->Option Int->Option Int->Hp->VK->Prop):Prop:=
 ∀(v8:List (xQ×Obj)) (s:xY) (σ:St) (H:Hp) (x:V) (v vl vu:xz) (lo hi:Option Int) (sl:xQ) (Q:VK),Inv X v8 σ H s->RelV x v->s.heap.IsSliceOf sl vl vu .none->IsPart vl lo->IsPart vu hi->r x lo hi H Q->
  ∃T id,typeLookup (.type T) "__getitem__"=pure (some (.builtin id))/\s.TypeIs v T/\vJ (xR X.prog X.w) X.A (getItem v (.ref sl)) (EP X v8 σ Q) X.xe s
theorem SlR.or {r r':V->Option Int->Option Int->Hp->VK->Prop} (h:SlR X r) (h':SlR X r'):SlR X (λx lo hi H Q=>r x lo hi H Q∨r' x lo hi H Q):=by
 intro v8 s σ H x v vl vu lo hi sl Q I rx hs pl pu q;rcases q with q | q
 ·exact h v8 s σ H x v vl vu lo hi sl Q I rx hs pl pu q
 ·exact h' v8 s σ H x v vl vu lo hi sl Q I rx hs pl pu q
noncomputable def tSl (r:V->Option Int->Option Int->Hp->VK->Prop) (te:TE) (tl th:TO):TE:=λσ H Q=>te σ H λx H1=>tl σ H1 λl H2=>th σ H2 λu H3=>r x l u H3 Q
theorem ZOK {r:V->Option Int->Option Int->Hp->VK->Prop} (hr:SlR X r) (he:PE X e te) (hl:PO X lo tl) (hu:PO X hi th):PE X (.Subscript e (.Slice lo hi none p2) pos) (tSl r te tl th):=by
 intro v8 s σ H Q I h;refine Subscript_ (thn (he v8 s σ H _ I h) λv s1 ⟨x,H1,I1,r1,q1⟩=> ?_);refine wpAny_Slice (thn (hl v8 s1 σ H1 _ I1 q1) λvl s2 ⟨l,H2,I2,pl,q2⟩=>thn (hu v8 s2 σ H2 _ I2 q2) λvu s3 ⟨u,H3,I3,pu,q3⟩=> ?_);rw [evalPart_none];refine vv ?_;have I4:Inv X v8 σ H3 {s3 with heap:=s3.heap.push {cls:=.type "slice",data:=.fields #[vl,vu,.none]}}:=I3.kept (t':=s3.toks) λb ob q=>zJ _ q
 obtain ⟨T,id,hT,ht,hg⟩:=hr v8 {s3 with heap:=s3.heap.push {cls:=.type "slice",data:=.fields #[vl,vu,.none]}} σ H3 x v vl vu l u s3.heap.objs.size Q I4 r1 (Heap.IsSliceOf.new ..) pl pu q3;show vJ (xR X.prog X.w) X.A (subscriptTail e (.Slice lo hi none p2) v (.ref s3.heap.objs.size)) (EP X v8 σ Q) X.xe {s3 with heap:=s3.heap.push {cls:=.type "slice",data:=.fields #[vl,vu,.none]}}
 exact tail_any (ops:= [.ref s3.heap.objs.size,v]) ht hT hg (by with_unfolding_all rfl)
noncomputable def Ms (xs:List V) (lo hi:Option Int):List V:=(xs.drop (HT.sIx xs.length 0 lo)).take (HT.sIx xs.length xs.length hi - HT.sIx xs.length 0 lo)
theorem ZJB (xs:List V) (lo hi:Option Int):(Ms xs lo hi).length<=xs.length:=by unfold Ms;rw [j9,jM];lia
noncomputable def rSlT (K:PySem.W.Frag):V->Option Int->Option Int->Hp->VK->Prop:=λx lo hi H Q=>∃a xs,x=.ref a/\SqT K H a xs/\
 ¬(HT.sIx xs.length 0 lo=0/\HT.sIx xs.length xs.length hi=xs.length)/\∀p,H p=none->Q (.ref p) (upd H p (.tup (Ms xs lo hi)))
theorem ZQE:SlR X (rSlT X.K):=by
 intro v8 s σ H x v vl vu lo hi sl Q I rx hs pl pu h;obtain ⟨a,xs,rfl,hx,hw,q⟩:=h;cases rx;obtain ⟨its,r,ht,hz⟩:=I.tuple hx;have hlen:its.toArray.size=xs.length:=by rw [zY];exact r.length.symm
 refine ⟨"tuple",_,PyProof.Rows.slot_tuple_getitem.lookup,ht.typeIs,?_⟩;refine HT.ZP6 ht hs pl pu (by rw [hlen];exact hw) ?_ (by rw [hlen];exact hz);rw [hlen];refine ⟨.ref s.heap.objs.size,_,I.laid (t':=s.toks) (o:=.tup (Ms xs lo hi)) (λb ob q=>zJ _ q) (zW _) ?_,rfl,q _ (I.hok.fresh (zW _))⟩;exact ⟨zD (ZJB xs lo hi) hz,_,(r.drop (HT.sIx xs.length 0 lo)).take (HT.sIx xs.length xs.length hi - HT.sIx xs.length 0 lo),IsTup.new _ _⟩
noncomputable def ZHT (K:PySem.W.Frag):R2:=λx y H Q=>∃a b xs ys,x=.ref a/\y=.ref b/\SqT K H a xs/\SqT K H b ys/\xs≠ []/\xs.length + ys.length<=sizeLine/\
 (ys= []->Q (.ref a) H)/\(ys≠ []->∀p,H p=none->Q (.ref p) (upd H p (.tup (xs++ys))))
theorem Vals.ZA9 {us:List xz} (r:Vals xs us):us= []↔xs= []:=by
 cases r with
 | nil=>simp
 | cons _ _=>simp
theorem ZNj:OpR X (xA .Add) (ZHT X.K):=by
 intro v8 s σ H x y v u Q I rx ry h;obtain ⟨a,b,xs,ys,rfl,rfl,ha,hb,hx,hz,q1,q2⟩:=h;cases rx;cases ry;obtain ⟨its,r1,p1,_⟩:=I.tuple ha;obtain ⟨its2,r2,p2,_⟩:=I.tuple hb;refine HT.ZPw p1 p2 (λz=>hx (r1.ZA9.mp z)) (λz=>⟨.ref a,H,I,rfl,q1 (r2.ZA9.mp z)⟩) (λz=> ?_) (by rw [<-r1.length,<-r2.length];exact hz);refine ⟨.ref s.heap.objs.size,_,I.laid (t':=s.toks) (o:=.tup (xs++ys)) (λb ob q=>zJ _ q) (zW _) ?_,rfl,q2 (λw=>z (r2.ZA9.mpr w)) _ (I.hok.fresh (zW _))⟩
 exact ⟨by rw [zU];exact hz,_,r1.append r2,IsTup.new _ _⟩
end
noncomputable def ixN (n:Nat) (i:Int):Option Nat:=if 0<=i then (if i < n then some i.toNat else none) else if -(n:Int)<=i then some (i + n).toNat else none
noncomputable def atI {α:Type} (xs:List α) (i:Int):Option α:=(ixN xs.length i).bind λj=>xs[j]?
theorem ZHd {n:Nat} {i:Int} {j:Nat} (h:ixN n i=some j):seqIndex? i n=some j/\j < n/\ -(n:Int)<=i/\i < n:=by
 unfold ixN at h;by_cases h0:0<=i
 ·rw [if_pos h0] at h;by_cases h1:i < n
  ·rw [if_pos h1] at h;have e:i.toNat=j:=Option.some.inj h;exact ⟨by rw [seqIndex_of h0 h1,e],by lia,by lia,h1⟩
  ·rw [if_neg h1] at h;cases h
 ·rw [if_neg h0] at h;by_cases h1: -(n:Int)<=i
  ·rw [if_pos h1] at h;have e:(i + n).toNat=j:=Option.some.inj h;exact ⟨by rw [seqIndex_neg (by lia) h1,e],by lia,h1,by lia⟩
  ·rw [if_neg h1] at h;cases h
theorem Yu {α:Type} {xs:List α} {i:Int} {v:α} (h:atI xs i=some v):∃j,seqIndex? i xs.length=some j/\xs[j]? =some v/\j < xs.length/\ -(xs.length:Int)<=i/\i < xs.length:=by
 unfold atI at h;cases e:ixN xs.length i with
 | none=>rw [e] at h;cases h
 | some j=>
  rw [e] at h;obtain ⟨h1,h2,h3,h4⟩:=ZHd e;exact ⟨j,h1,h,h2,h3,h4⟩
noncomputable def PlainIx (b:xJ):Prop:=∀o i,subscripted b false o i=operate [o,i] (getItem o i)
noncomputable def IxR (X:Cx) (r:R2):Prop:=
 ∀(value slice:xJ) (v8:List (xQ×Obj)) (s:xY) (σ:St) (H:Hp) (x y:V) (v u:xz) (Q:VK),Inv X v8 σ H s->RelV x v->RelV y u->r x y H Q->
  subscripted slice false v u=operate [v,u] (getItem v u)->vJ (xR X.prog X.w) X.A (subscriptTail value slice v u) (EP X v8 σ Q) X.xe s
noncomputable def MtR (X:Cx) (id:String) (r:V->List V->Hp->VK->Prop):Prop:=
 ∀(v8:List (xQ×Obj)) (s:xY) (σ:St) (H:Hp) (x:V) (xs:List V) (v:xz) (us:List xz) (Q:VK),Inv X v8 σ H s->RelV x v->Vals xs us->r x xs H Q->
  vJ (xR X.prog X.w) X.A (call (.builtin id) (v::us)) (EP X v8 σ Q) X.xe s
section
variable {X:Cx} {a b:xJ} {ta tb:TE} {pos:Pos}
theorem IxR.or {r r':R2} (h:IxR X r) (h':IxR X r'):IxR X (λx y H Q=>r x y H Q∨r' x y H Q):=by
 intro value slice v8 s σ H x y v u Q I rx ry q hs;rcases q with q | q
 ·exact h value slice v8 s σ H x y v u Q I rx ry q hs
 ·exact h' value slice v8 s σ H x y v u Q I rx ry q hs
theorem ZQv {r:R2} (hr:IxR X r) (ha:PE X a ta) (hb:PE X b tb) (hs:PlainIx b):PE X (.Subscript a b pos) (tOp r ta tb):=by intro v8 s σ H Q I h;exact Subscript_ (ZDu ha hb I h λv u s2 x y H2 I2 rx ry q=>hr a b v8 s2 σ H2 x y v u Q I2 rx ry q (hs _ _))
noncomputable def rIxL (K:PySem.W.Frag):R2:=λx y H Q=>∃p xs i v,x=.ref p/\y=.int i/\SqL K H p xs/\atI xs i=some v/\Q v H
noncomputable def rIxT (K:PySem.W.Frag):R2:=λx y H Q=>∃p xs i v,x=.ref p/\y=.int i/\SqT K H p xs/\atI xs i=some v/\Q v H
noncomputable def rIxS:R2:=λx y H Q=>∃z i c,x=.str z/\y=.int i/\z.length<=sizeLine/\atI z.cps.toList i=some c/\Q (.str ⟨#[c]⟩) H
theorem ZRF:IxR X (rIxL X.K):=by
 intro value slice v8 s σ H x y v u Q I rx ry h hs;obtain ⟨p,xs,i,z,rfl,rfl,hq,he,q⟩:=h;cases rx;obtain ⟨t,rfl⟩:=ry;obtain ⟨its,r,pl,hz⟩:=I.list hq;obtain ⟨j,h1,h2,h3,h4,h5⟩:=Yu he;obtain ⟨w,ew,rw'⟩:=r.get h2;have hl:=r.length;have hn:=line63;have fin:EP X v8 σ Q w s:=⟨z,H,I,rw',q⟩;by_cases h0:0<=i
 ·have hj:i.toNat=j:=by rw [seqIndex_of h0 h5] at h1;exact Option.some.inj h1
  exact item_listR pl.isList h0 (by lia) (by rw [hj];simpa using ew) fin hs
 ·have hj:(i + (its.toArray.size:Int)).toNat=j:=by rw [seqIndex_neg (by lia) h4] at h1;rw [zY,<-hl];exact Option.some.inj h1
  exact subscriptTail_builtinR (x:=w) pl.isList.typeIs slot_list_getitem.lookup
   (wpAny_getItem_list_neg (Q:=λr s'=>r=w/\EP X v8 σ Q r s') pl.isList (by lia) (by rw [zY] <;> lia) (by lia) (by rw [hj];simpa using ew) ⟨rfl,fin⟩) hs
theorem ZJ9:IxR X (rIxT X.K):=by
 intro value slice v8 s σ H x y v u Q I rx ry h hs;obtain ⟨p,xs,i,z,rfl,rfl,hq,he,q⟩:=h;cases rx;obtain ⟨t,rfl⟩:=ry;obtain ⟨its,r,pl,hz⟩:=I.tuple hq;obtain ⟨j,h1,h2,h3,h4,h5⟩:=Yu he;obtain ⟨w,ew,rw'⟩:=r.get h2;have hl:=r.length;have hn:=line63;have fin:EP X v8 σ Q w s:=⟨z,H,I,rw',q⟩;exact subscriptTail_builtinR (x:=w) pl.typeIs slot_tuple_getitem.lookup
  (getItem_tuple (j:=j) (Q:=λr s'=>r=w/\EP X v8 σ Q r s') pl (by lia) (by lia) (by rw [zY,<-hl];exact h1) (by simpa using ew) ⟨rfl,fin⟩) hs
theorem ZQF:IxR X rIxS:=by
 intro value slice v8 s σ H x y v u Q I rx ry h hs;obtain ⟨z,i,c,rfl,rfl,hz,he,q⟩:=h;obtain ⟨t,rfl⟩:=rx;obtain ⟨t',rfl⟩:=ry;obtain ⟨j,h1,h2,h3,h4,h5⟩:=Yu he;have hl:z.cps.toList.length=z.length:=by simp [Str.length]
 rw [hl] at h1 h4 h5;have hn:=line63;exact tail_any (typeIs_str s z t) slot_str_getitem.lookup (getItem_str (c:=c) (by have e1:decide (i < -(2 ^ 63:Int))=false:=decide_eq_false (by lia);have e2:decide (i ≥ 2 ^ 63)=false:=decide_eq_false (by lia);rw [e1,e2,Bool.or_false]) (by rw [h1];simpa using h2) ⟨.str ⟨#[c]⟩,H,I.tok _,⟨_,rfl⟩,q⟩) hs
noncomputable def rIx (K:PySem.W.Frag):R2:=λx y H Q=>rIxL K x y H Q∨rIxT K x y H Q∨rIxS x y H Q
theorem ZKx:IxR X (rIx X.K):=ZRF.or (ZJ9.or ZQF)
theorem ZKL (its:List xz) (n j:Nat) (u:xz):Obj.mapSeq (·.setIfInBounds j u) {cls:=.type "list",data:=.seq its.toArray n}={cls:=.type "list",data:=.seq (its.set j u).toArray n}:=by simp [Obj.mapSeq]
theorem Inv.lst {p:xQ} (I:Inv X v8 σ H s) (h:H p=some (.lst xs)):
  ∃(its:List xz) (n:Nat),Vals xs its/\s.heap.get? p=some {cls:=.type "list",data:=.seq its.toArray n}/\xs.length<=sizeLine:=by
 obtain ⟨z,its,n,r,e⟩:=I.hok p _ h;exact ⟨its,n,r,e,z⟩
theorem Inv.ZMt {p:xQ} {ys:List V} {its':List xz} {n n':Nat} {f:Obj->Obj} (I:Inv X v8 σ H s) (h:H p=some (.lst xs))
  (ho:s.heap.get? p=some {cls:=.type "list",data:=.seq its.toArray n}) (hf:f {cls:=.type "list",data:=.seq its.toArray n}={cls:=.type "list",data:=.seq its'.toArray n'}) (r:Vals ys its') (hz:ys.length<=sizeLine) (t:Nat):
  Inv X v8 σ (upd H p (.lst ys)) {s with heap:=s.heap.update p f,toks:=t}:=by
 have e:(s.heap.update p f).get? p=some {cls:=.type "list",data:=.seq its'.toArray n'}:=by rw [jN f ho (by rw [hf] <;> rfl),hf]
 refine I.write (x:=p) (e:=p) (by rw [h];trivial) (.inl rfl) (λb u hb q=>(Heap.get?_update_other _ _ (Ne.symm hb)).trans q) ⟨_,e⟩ ?_;exact ⟨hz,its',n',r,e⟩
noncomputable def ZPb:V->V->V->Hp->(Hp->Prop)->Prop:=λo i v H Q=>∃p xs k j,o=.ref p/\i=.int k/\H p=some (.lst xs)/\ixN xs.length k=some j/\Q (upd H p (.lst (xs.set j v)))
theorem set_list:PSet X ZPb:=by
 intro v8 s σ H o i v ov iv u Q I ro ri rv h;obtain ⟨p,xs,k,j,rfl,rfl,hp,hj,q⟩:=h;cases ro;obtain ⟨t,rfl⟩:=ri;obtain ⟨its,n,r,ho,hz⟩:=I.lst hp;obtain ⟨h1,h2,h3,h4⟩:=ZHd hj;have hl:=r.length;have hn:=line63
 have I':Inv X v8 σ (upd H p (.lst (xs.set j v))) {s with heap:=s.heap.update p (Obj.mapSeq (·.setIfInBounds j u))}:=
  I.ZMt hp ho (ZKL its n j u) (r.set rv j) (by rw [jB];exact hz) s.toks
 by_cases h0:0<=k
 ·have hk:k.toNat=j:=by rw [seqIndex_of h0 h4] at h1;exact Option.some.inj h1
  exact PySem.W.ki_setAt ho h0 (by lia) (by rw [zY,<-hl];exact h4) (by rw [hk];exact ⟨_,I',q⟩)
 ·have hk:(k + (its.toArray.size:Int)).toNat=j:=by rw [seqIndex_neg (by lia) h3] at h1;rw [zY,<-hl];exact Option.some.inj h1
  exact PySem.W.ki_setBack ho (by lia) (by rw [zY,<-hl];exact h3) (by lia) (by rw [hk];exact ⟨_,I',q⟩)
theorem ZPI (lo hi:Option Int) (n:Nat):(xU lo hi none n).1=((HT.sIx n 0 lo:Nat):Int)/\(xU lo hi none n).2.1=((HT.sIx n n hi:Nat):Int)/\(xU lo hi none n).2.2=1:=by
 refine ⟨?_,?_,rfl⟩
 ·cases lo with
  | none=>simp [xU,HT.sIx]
  | some i=>
   simp only [xU,HT.sIx,Option.getD_none,show (1:Int) > 0 by decide,if_true];by_cases h:i < 0
   ·simp only [h,if_true] <;> lia
   ·simp only [h,if_false] <;> lia
 ·cases hi with
  | none=>simp [xU,HT.sIx]
  | some i=>
   simp only [xU,HT.sIx,Option.getD_none,show (1:Int) > 0 by decide,if_true];by_cases h:i < 0
   ·simp only [h,if_true] <;> lia
   ·simp only [h,if_false] <;> lia
theorem ZOv (its:List xz) (lo hi:Option Int):slicePick its.toArray lo hi none=((its.drop (HT.sIx its.length 0 lo)).take (HT.sIx its.length its.length hi - HT.sIx its.length 0 lo)).toArray:=by
 obtain ⟨h1,h2,h3⟩:=ZPI lo hi its.toArray.size;unfold slicePick;rw [h1,h2,h3]
 simp only [sliceRange_one,pick_run,zY] <;> rfl
noncomputable def rSlL (K:PySem.W.Frag):V->Option Int->Option Int->Hp->VK->Prop:=λx lo hi H Q=>∃a xs,x=.ref a/\SqL K H a xs/\∀p,H p=none->Q (.ref p) (upd H p (.lst (Ms xs lo hi)))
theorem ZPz:SlR X (rSlL X.K):=by
 intro v8 s σ H x v vl vu lo hi sl Q I rx hs pl pu h;obtain ⟨a,xs,rfl,hx,q⟩:=h;cases rx;obtain ⟨its,r,ht,hz⟩:=I.list hx;have hlen:=r.length;refine ⟨"list",_,slot_list_getitem.lookup,ht.isList.typeIs,?_⟩
 refine wpAny_getItem_list_slice ht.isList hs pl pu .none (by simp) ?_ (by rw [zY] <;> lia)
 rw [ZOv,<-hlen];refine ⟨.ref s.heap.objs.size,_,I.laid (t':=s.toks) (o:=.lst (Ms xs lo hi)) (λb ob q=>zJ _ q) (zW _) ?_,rfl,q _ (I.hok.fresh (zW _))⟩;exact ⟨zD (ZJB xs lo hi) hz,_,0,(r.drop (HT.sIx xs.length 0 lo)).take (HT.sIx xs.length xs.length hi - HT.sIx xs.length 0 lo),zB _ rfl⟩
noncomputable def Fe:V->Bool
 | .non=>true
 | .bl _=>true
 | .int _=>true
 | .str _=>true
 | _=>false
noncomputable def eqV:V->V->Bool
 | .non,.non=>true
 | .bl a,.bl b=>a == b
 | .bl a,.int b=>(if a then 1 else 0) == b
 | .int a,.bl b=>a == (if b then 1 else 0)
 | .int a,.int b=>a == b
 | .str a,.str b=>a == b
 | _,_=>false
theorem ZGI {A:xZ} {y x:V} {u v:xz} (ry:RelV y u) (rx:RelV x v) (fy:Fe y=true) (fx:Fe x=true):SeqAt.EqAt A s u v (eqV y x):=by
 cases y with
 | non=>
  cases ry;cases x with
  | non=>cases rx;exact SeqAt.EqAt.same _
  | bl b=>cases rx;exact SeqAt.EqAt.none_bool b
  | int b=>obtain ⟨t,rfl⟩:=rx;exact SeqAt.EqAt.none_int b t
  | str b=>obtain ⟨t,rfl⟩:=rx;exact SeqAt.EqAt.none_str b t
  | _=>exact absurd (show false=true from fx) zx
 | bl a=>
  cases ry;cases x with
  | non=>cases rx;exact SeqAt.EqAt.bool_none a
  | bl b=>cases rx;exact SeqAt.EqAt.bool_bool a b
  | int b=>obtain ⟨t,rfl⟩:=rx;exact SeqAt.EqAt.bool_int a b t
  | str b=>obtain ⟨t,rfl⟩:=rx;exact SeqAt.EqAt.bool_str a b t
  | _=>exact absurd (show false=true from fx) zx
 | int a=>
  obtain ⟨t',rfl⟩:=ry;cases x with
  | non=>cases rx;exact SeqAt.EqAt.int_none a t'
  | bl b=>cases rx;exact SeqAt.EqAt.int_bool a t' b
  | int b=>obtain ⟨t,rfl⟩:=rx;exact SeqAt.EqAt.int_int a t' b t
  | str b=>obtain ⟨t,rfl⟩:=rx;exact SeqAt.EqAt.int_str a t' b t
  | _=>exact absurd (show false=true from fx) zx
 | str a=>
  obtain ⟨t',rfl⟩:=ry;cases x with
  | non=>cases rx;exact SeqAt.EqAt.str_none a t'
  | bl b=>cases rx;exact SeqAt.EqAt.str_bool a t' b
  | int b=>obtain ⟨t,rfl⟩:=rx;exact SeqAt.EqAt.str_int a t' b t
  | str b=>obtain ⟨t,rfl⟩:=rx;exact SeqAt.EqAt.str_str a t' b t
  | _=>exact absurd (show false=true from fx) zx
 | _=>exact absurd (show false=true from fy) zx
noncomputable def eqU (x:V) (u:xz):Bool:=match u with
 | .none=>eqV .non x
 | .bool b=>eqV (.bl b) x
 | .int i _=>eqV (.int i) x
 | .str z _=>eqV (.str z) x
 | _=>false
theorem ZHK {x y:V} {u:xz} (r:RelV y u) (f:Fe y=true):eqU x u=eqV y x:=by
 cases y with
 | non=>cases r;rfl
 | bl b=>cases r;rfl
 | int i=>obtain ⟨t,rfl⟩:=r;rfl
 | str z=>obtain ⟨t,rfl⟩:=r;rfl
 | _=>exact absurd (show false=true from f) zx
theorem ZAv {x:V}:∀{xs:List V} {us:List xz},Vals xs us->xs.all Fe=true->us.any (eqU x)=xs.any λy=>eqV y x
 | _,_,.nil,_=>rfl
 | y::xs,u::us,.cons r t,f=>by rw [qL,zC] at f;rw [List.any_cons,List.any_cons,ZHK r f.1,ZAv t f.2]
theorem ZBs {A:xZ} {x:V} {v:xz} (rx:RelV x v) (fx:Fe x=true):∀{xs:List V} {us:List xz},Vals xs us->xs.all Fe=true->∀u∈us,SeqAt.EqAt A s u v (eqU x u)
 | _,_,.nil,_=>λu hu=>by cases hu
 | y::xs,u::us,.cons r t,f=>λu' hu=>by
  rw [qL,zC] at f;rcases zK.mp hu with rfl | hu
  ·rw [ZHK r f.1];exact ZGI r rx f.1 fx
  ·exact ZBs rx fx t f.2 u' hu
def inV (x:V) (xs:List V):Bool:=xs.any λy=>eqV y x
noncomputable def rIn (K:PySem.W.Frag) (neg:Bool):R2:=λx y H Q=>∃p xs,y=.ref p/\(SqL K H p xs∨SqT K H p xs)/\Fe x=true/\xs.all Fe=true/\Q (.bl (if neg then !inV x xs else inV x xs)) H
theorem ZP9:OpR X (xD .In) (rIn X.K false):=by
 intro v8 s σ H x y v u Q I rx ry h;obtain ⟨p,xs,rfl,hq,fx,fs,q⟩:=h;cases ry;rcases hq with hq | hq
 ·obtain ⟨its,r,pl,hz⟩:=I.list hq;refine SeqAt.in_listAt (eqU x) pl.isList (λw hw=>ZBs rx fx r fs w (by simpa using hw)) ⟨.bl _,H,I,rfl,?_⟩;rw [show its.toArray.any (eqU x)=its.any (eqU x) by simp,ZAv r fs];exact q
 ·obtain ⟨its,r,pl,hz⟩:=I.tuple hq;refine SeqAt.in_tupleAt (eqU x) pl (λw hw=>ZBs rx fx r fs w (by simpa using hw)) ⟨.bl _,H,I,rfl,?_⟩;rw [show its.toArray.any (eqU x)=its.any (eqU x) by simp,ZAv r fs];exact q
theorem ZLv:CallR X (.builtin "len") (λxs H Q=>∃p ys,xs= [.ref p]/\(SqL X.K H p ys∨SqT X.K H p ys)/\Q (.int ys.length) H):=by
 intro v8 s σ H xs us Q I r h;obtain ⟨p,ys,rfl,hq,q⟩:=h;obtain ⟨u,rfl,rx⟩:=vals1 r;cases rx;have hn:=line63;rcases hq with hq | hq
 ·obtain ⟨its,r',pl,hz⟩:=I.list hq;have hlen:=r'.length
  exact Calls.call_len_list pl.isList (by simp only [zY] <;> lia) ⟨.int ys.length,H,I.tok _,⟨s.toks + 1,by rw [zY,hlen]⟩,q⟩
 ·obtain ⟨its,r',pl,hz⟩:=I.tuple hq;have hlen:=r'.length
  exact len_tuple pl (by simp only [zY] <;> lia) ⟨.int ys.length,H,I.tok _,⟨s.toks + 1,by rw [zY,hlen]⟩,q⟩
theorem ZM2:CallR X (.builtin "len") (λxs H Q=>∃z,xs= [.str z]/\z.length<=sizeLine/\Q (.int z.length) H):=by intro v8 s σ H xs us Q I r h;obtain ⟨z,rfl,hz,q⟩:=h;obtain ⟨u,rfl,t,rfl⟩:=vals1 r;have hn:=line63;exact len_str (by lia) ⟨.int z.length,H,I.tok _,⟨_,rfl⟩,q⟩
theorem CallR.or {f:xz} {r r':List V->Hp->VK->Prop} (h:CallR X f r) (h':CallR X f r'):CallR X f (λxs H Q=>r xs H Q∨r' xs H Q):=by
 intro v8 s σ H xs us Q I rs q;rcases q with q | q
 ·exact h v8 s σ H xs us Q I rs q
 ·exact h' v8 s σ H xs us Q I rs q
theorem ZLg:CallR X (.type "list") (λxs H Q=>∃p ys,xs= [.ref p]/\(SqL X.K H p ys∨SqT X.K H p ys)/\∀l,H l=none->Q (.ref l) (upd H l (.lst ys))):=by
 intro v8 s σ H xs us Q I r h;obtain ⟨p,ys,rfl,hq,q⟩:=h;obtain ⟨u,rfl,rx⟩:=vals1 r;cases rx;have fin:∀(its:List xz),Vals ys its->ys.length<=sizeLine->∀(h':Heap) (c':Nat),(∀b o',s.heap.get? b=some o'->h'.get? b=some o')->
   h'.get? s.heap.objs.size=some {cls:=.type "list",dict:=none,data:=.seq its.toArray c',slots:= #[]}->EP X v8 σ Q (.ref s.heap.objs.size) {s with heap:=h'}:=λits r' hz h' c' kp e=>
  ⟨.ref s.heap.objs.size,_,I.laid (t':=s.toks) kp (zW _) (show ObjOk X.prog X.w _ h' _ (.lst ys) from ⟨hz,its,c',r',e⟩),rfl,q _ (I.hok.fresh (zW _))⟩
 rcases hq with hq | hq
 ·obtain ⟨its,r',pl,hz⟩:=I.list hq;have hlen:=r'.length;obtain ⟨o,ho,hc,n,hd⟩:=pl.isList
  exact call_list_seq p (.inl rfl) ho hc hd (λh' c' kp e=>fin its r' hz h' c' kp e) (by simp only [zY] <;> lia)
 ·obtain ⟨its,r',pl,hz⟩:=I.tuple hq;have hlen:=r'.length;obtain ⟨o,ho,hc,n,hd⟩:=pl
  exact call_list_seq p (.inr rfl) ho hc hd (λh' c' kp e=>fin its r' hz h' c' kp e) (by simp only [zY] <;> lia)
theorem ZQt:CallR X (.type "tuple") (λxs H Q=>∃p ys,xs= [.ref p]/\((SqL X.K H p ys/\∀l,H l=none->Q (.ref l) (upd H l (.tup ys)))∨(SqT X.K H p ys/\Q (.ref p) H))):=by
 intro v8 s σ H xs us Q I r h;obtain ⟨p,ys,rfl,h⟩:=h;obtain ⟨u,rfl,rx⟩:=vals1 r;cases rx;rcases h with ⟨hq,q⟩ | ⟨hq,q⟩
 ·obtain ⟨its,r',pl,hz⟩:=I.list hq;have hlen:=r'.length
  refine call_tuple_list pl.isList (λh' kp=> ?_) (by simp only [zY] <;> lia)
  have I1:Inv X v8 σ H {s with heap:=h'}:=I.kept (t':=s.toks) kp;have I2:Inv X v8 σ (upd H h'.objs.size (.tup ys)) {s with heap:=h'.push {cls:=.type "tuple",data:=.seq its.toArray}}:=
   I1.laid (t':=s.toks) (λb o e=>zJ _ e) (zW _) (show ObjOk X.prog X.w _ _ _ (.tup ys) from ⟨hz,its,r',IsTup.new _ _⟩)
  exact ⟨.ref h'.objs.size,_,I2,rfl,q _ (I1.hok.fresh (zW _))⟩
 ·obtain ⟨its,r',pl,hz⟩:=I.tuple hq;exact call_tuple_same pl ⟨.ref p,H,I,rfl,q⟩
noncomputable def tyV (K:PySem.W.Frag) (T:String) (x:V) (H:Hp):Prop:=match x with
 | .str _=>T="str"
 | .int _=>T="int"
 | .ref p=>(T="list"/\∃xs,SqL K H p xs)∨(T="tuple"/\∃o,K.lookup p=some o/\o.cls=.type "tuple"/\o.dict=none)∨
   (T="dict"/\((∃kvs,H p=some (.dK kvs))∨∃kvs,H p=some (.dT kvs)))∨(T="set"/\∃S n,H p=some (.set S n))
 | _=>False
theorem ZNy {T:String} {x:V} {v:xz} (I:Inv X v8 σ H s) (r:RelV x v) (ty:tyV X.K T x H):
  s.TypeIs v T/\∀a,v=.ref a->∃ob,s.heap.get? a=some ob/\ob.dict=none:=by
 cases x with
 | str z=>
  obtain ⟨t,rfl⟩:=r
  cases (show T="str" from ty)
  exact ⟨typeIs_str s z t,λ_ e=>nomatch e⟩
 | int i=>
  obtain ⟨t,rfl⟩:=r
  cases (show T="int" from ty)
  exact ⟨typeIs_int s i t,λ_ e=>nomatch e⟩
 | ref p=>
  cases r;rcases ty with ⟨rfl,xs,hq⟩ | ⟨rfl,o,hk,hc,hd⟩ | ⟨rfl,hk⟩ | ⟨rfl,S,n,hk⟩
  ·obtain ⟨its,_,pl,_⟩:=I.list hq;refine ⟨pl.isList.typeIs,λa e=> ?_⟩;cases e;obtain ⟨o,n,e,c,hd,_⟩:=pl;exact ⟨o,e,hd⟩
  ·refine ⟨⟨o,I.kIn p o hk,hc⟩,λa e=> ?_⟩;cases e;exact ⟨o,I.kIn _ o hk,hd⟩
  ·have z:∃o,s.heap.get? p=some o/\o.ExactDict:=by
    rcases hk with ⟨kvs,hk⟩ | ⟨kvs,hk⟩
    ·obtain ⟨_,_,_,_,o,_,_,e,ex,_⟩:=I.hok p _ hk;exact ⟨o,e,ex⟩
    ·obtain ⟨_,_,_,_,o,_,_,e,ex,_⟩:=I.hok p _ hk;exact ⟨o,e,ex⟩
   obtain ⟨o,e,ex⟩:=z;refine ⟨⟨o,e,ex.1⟩,λa e2=> ?_⟩;cases e2;exact ⟨o,e,ex.2.1⟩
  ·obtain ⟨o,_,_,_,e,ex,_⟩:=I.hok p _ hk;refine ⟨⟨o,e,ex.1⟩,λa e2=> ?_⟩;cases e2;exact ⟨o,e,ex.2.1⟩
 | _=>exact False.elim ty
noncomputable def tBM (K:PySem.W.Frag) (T:String) (r:V->List V->Hp->VK->Prop) (to:TE) (t:TA):TE:=λσ H Q=>to σ H λx H1=>tyV K T x H1/\t σ H1 λxs H2=>r x xs H2 Q
variable {o e:xJ} {es:List xJ} {to:TE} {t:TA} {name:Str} {apos cpos:Pos} {T id:String} {r:V->List V->Hp->VK->Prop}
theorem ZPk (pa:PlainAttrs T) (slot:Slot T name id) (hty:typeOf (.builtin id)=pure (.type "method_descriptor")) (hm:MtR X id r) (ho:PE X o to) (ha:PA X (e::es) t)
  (hbase:xk o name X.env (eval o X.env)=eval o X.env:=by rfl)
  (hfew:((xy cpos (vQ (e::es) X.env)).all (λx=> !x.1) && (backToKw cpos (xN [] X.env)).all (λx=>x.1.isSome)
   && decide ((e::es).length + ([]:List Keyword).length + (if ([]:List Keyword).isEmpty then 0 else 1) < 30))=true:=by rfl)
  (hline:(apos.endLine == cpos.line)=true:=by rfl) (hs:vQ (e::es) X.env=(false,eval e X.env)::vQ es X.env:=by rfl) (hplain:(xy cpos (vQ es X.env)).any (·.1)=false:=by rfl):
  PE X (.Call (.Attribute o name apos) (e::es) [] cpos) (tBM X.K T r to t):=by
 intro v8 s σ H Q I h;refine wpAny_Call_method_late hbase hfew hline rfl (thn (ho v8 s σ H _ I h) λv s1 ⟨x,H1,I1,r1,ty,q1⟩=> ?_);obtain ⟨h1,h2⟩:=ZNy I1 r1 ty;refine ⟨T,id,pa,slot,hty,h1,h2,?_⟩;have hA:=ha cpos v8 s1 σ H1 _ I1 q1;rw [hs] at hA ⊢
 refine Calls.callWith_builtin (by show (false || (xy cpos (vQ es X.env)).any (·.1))=false;rw [hplain] <;> rfl) (Calls.evalArgs_plain ?_)
 exact thn hA λus s2 ⟨vs,H2,I2,r2,q2⟩=>hm v8 s2 σ H2 x vs v us Q I2 r1 r2 q2
end
noncomputable def MtM (X:Cx) (id:String) (r:V->List V->Hp->VK->Prop):Prop:=
 ∀(v8:List (xQ×Obj)) (s:xY) (σ:St) (H:Hp) (x:V) (xs:List V) (v:xz) (us:List xz) (Q:VK),Inv X v8 σ H s->RelV x v->Vals xs us->r x xs H Q->
  vJ (xR X.prog X.w) X.A (call (.builtin id) (v::us)) (EP X v8 σ Q) X.xe s
theorem Vals.one:∀{x:V} {us:List xz},Vals [x] us->∃u,us= [u]/\RelV x u
 | _,_,.cons r .nil=>⟨_,rfl,r⟩
theorem Vals.rep {us:List xz} (h:Vals xs us):∀k:Nat,Vals (zV k xs).flatten (zV k us).flatten
 | 0=>.nil
 | k + 1=>by rw [qZ,qZ,qC,qC];exact Vals.append h (Vals.rep h k)
theorem foldl_rep (its:List xz):∀(k:Nat) (acc:List xz),
  List.foldl (λx1 x2=>x1++x2) acc.toArray (zV k its.toArray)=(acc++(zV k its).flatten).toArray
 | 0,acc=>by simp
 | k + 1,acc=>by
  have e:acc.toArray++its.toArray=(acc++its).toArray:=by simp
  have e2:(acc++its)++(zV k its).flatten=acc++(zV (k + 1) its).flatten:=by rw [qZ,qC,qR]
  rw [<-e2,<-foldl_rep its k (acc++its),<-e,qZ,jV]
section
variable {X:Cx} {v8:List (xQ×Obj)} {σ:St} {H:Hp} {s:xY} {l b:xQ} {xs ys zs:List V}
theorem Inv.lset {its':List xz} {n:Nat} {f:Array xz->Array xz} {t':Nat} (I:Inv X v8 σ H s) (hH:H l=some (.lst xs))
  (e:s.heap.get? l=some {cls:=.type "list",data:=.seq its.toArray n}) (hf:f its.toArray=its'.toArray) (hv:Vals ys its') (hz:ys.length<=sizeLine):
  Inv X v8 σ (upd H l (.lst ys)) {s with heap:=s.heap.update l (Obj.mapSeq f),toks:=t'}:=by
 have q:=PySem.IsL.update e f;rw [hf] at q;refine I.write (x:=l) (e:=l) (by rw [hH];exact trivial) (.inl rfl) (λb' u hb hu=>(Heap.get?_update_other s.heap (Obj.mapSeq f) (Ne.symm hb)).trans hu) ⟨_,q⟩ ?_;exact ⟨hz,its',_,hv,q⟩
theorem Inv.lnew {t':Nat} (I:Inv X v8 σ H s) (hv:Vals ys its) (hz:ys.length<=sizeLine):
  Inv X v8 σ (upd H s.heap.objs.size (.lst ys)) {s with heap:=s.heap.push {cls:=.type "list",data:=.seq its.toArray},toks:=t'}:=
 I.laid (λ_ _ q=>zJ _ q) (zW _) ⟨hz,its,0,hv,zB _ rfl⟩
theorem Inv.fresh (I:Inv X v8 σ H s):H s.heap.objs.size=none:=I.hok.fresh (zW _)
theorem Inv.lstM (I:Inv X v8 σ H s) (hH:H l=some (.lst xs)):xs.length<=sizeLine/\∃(its:List xz) (n:Nat),Vals xs its/\xs.length=its.length/\s.heap.get? l=some {cls:=.type "list",data:=.seq its.toArray n}:=by obtain ⟨z,its,n,r,e⟩:=I.hok l _ hH;exact ⟨z,its,n,r,r.length,e⟩
theorem ZQg {n:Nat} (h:n<=sizeLine):Builtin.List.listTooLong n=false:=by unfold Builtin.List.listTooLong;exact decide_eq_false (by lia)
end
section
variable {X:Cx}
noncomputable def ZLF:V->List V->Hp->VK->Prop:=λx vs H Q=>∃l xs y,x=.ref l/\vs= [y]/\H l=some (.lst xs)/\xs.length < sizeLine/\Q .non (upd H l (.lst (xs++ [y])))
theorem ZPC:MtM X "list.append" ZLF:=by
 intro v8 s σ H x vs v us Q I rx rv h;obtain ⟨l,xs,y,rfl,rfl,hH,hz,q⟩:=h;cases rx;obtain ⟨u,rfl,ru⟩:=rv.one;obtain ⟨z,its,n,r,hl,e⟩:=I.lstM hH;refine call_meets F.slot_list_append ⟨_,e,rfl⟩ F.entry_list_append (F.args_list_append_2 _ _) (PySem.list_append l its.toArray n u (by rw [zY];lia)) ⟨e,?_⟩;refine ⟨.non,_,I.lset (its':=its++ [u]) hH e (by simp) (r.append (.cons ru .nil)) ?_,rfl,q⟩
 rw [zU,j4];lia
noncomputable def rRep:R2:=λx y H Q=>∃l k xs,x=.ref l/\y=.int k/\H l=some (.lst xs)/\ -(2 ^ 63)<=k/\k < 2 ^ 63/\xs.length * k.toNat<=sizeLine/\
 ∀p,H p=none->Q (.ref p) (upd H p (.lst (zV k.toNat xs).flatten))
theorem len_rep {α:Type} (xs:List α) (k:Nat):(zV k xs).flatten.length=k * xs.length:=by
 induction k with
 | zero=>simp
 | succ k ih=>rw [qZ,qC,zU,ih,Nat.succ_mul,Nat.add_comm]
theorem ZLu:OpR X (xA .Mult) rRep:=by
 intro v8 s σ H x y v u Q I rx ry h;obtain ⟨l,k,xs,rfl,rfl,hH,h1,h2,hz,q⟩:=h;cases rx;obtain ⟨t,rfl⟩:=ry;obtain ⟨z,its,n,r,hl,e⟩:=I.lstM hH;have hlen:its.toArray.size * k.toNat<=sizeLine:=by rw [zY,<-hl];exact hz
 have hcap:¬its.toArray.size * k.toNat > (2 ^ 63 - 1) / 8:=by
  have:(sizeLine:Nat)<=(2 ^ 63 - 1) / 8:=by decide
  lia
 have hfit:¬(!Builtin.List.listFitsIndex k)=true:=by rw [fitsIndex_both h1 h2];exact zx
 have hlong:¬Builtin.List.listTooLong (its.toArray.size * k.toNat)=true:=by rw [ZQg hlen];exact zx
 have hnew:List.foldl (λx1 x2=>x1++x2) #[] (zV (if its.toArray.isEmpty=true then 0 else k.toNat) its.toArray)=(zV k.toNat its).flatten.toArray:=by
  have f0:∀m:Nat,List.foldl (λx1 x2=>x1++x2) #[] (zV m its.toArray)=(zV m its).flatten.toArray:=λm=>by have:=foldl_rep its m [];rw [j1] at this;exact this
  rw [f0];cases its with
  | nil=>simp
  | cons a r'=>rw [if_neg (by simp)]
 refine wpAny_binaryOp_repeat_ref (T:="list") (U:="int") (by decide) ⟨_,e,rfl⟩ (λs'=>typeIs_int s' k t) noFill_list_mul F.fills_int_mul F.slot_int_rmul repeat_list F.slot_int_index.lookup
  (call_meets F.slot_int_rmul (typeIs_int s k t) F.entry_int_rmul (F.args_int_rmul_2 _ _) (int___rmul___int_list k t l its.toArray n)
   ⟨e,rfl,⟨_,e,rfl⟩,call_meets F.slot_list_mul ⟨_,e,rfl⟩ F.entry_list_mul (F.args_list_mul_2 _ _) (AutoListH.list___mul___list_int_3 l its.toArray n k t hfit hcap hlong) ⟨e,?_⟩⟩)
 rw [hnew];exact ⟨.ref _,_,I.lnew (t':=s.toks) (r.rep k.toNat) (by rw [len_rep,Nat.mul_comm];exact hz),rfl,q _ I.fresh⟩
end
section
variable {prog:xW} {w:xj} {A:xZ} {E:xz->xY->Prop} {s:xY}
end
section
variable {X:Cx}
end
end L2
namespace Att
open PySem PySem.W PySem.Calls PyProof.Rows
variable {h:Heap}
theorem ZO5 {P:Params} :∀(ns:List Int) (vs:List xz),WellAll P h vs (ns.map WData.int)->IntsAre vs ns:=by
 intro ns
 induction ns with
 | nil=>
  intro vs w;rw [j7] at w;cases w;exact .nil
 | cons n ns ih=>
  intro vs w;rw [zA] at w;cases w with
  | cons a b=>
   cases a;exact .cons _ _ (ih _ b)
theorem ZOp {l:OpenLaw} {n:Nat} (hn:l.most=some n) {P:Params} {args:List WData} {vals:List xz}
  (hpre:l.row.toRowW.claim.pre args=true) (hwl:WellAll P h vals args):
  ∃a vs ns,vals= [Value.ref a]/\args= [WData.list (ns.map WData.int)]/\h.get? a=some {cls:=.type "list",data:=.seq vs.toArray}/\IntsAre vs ns/\ns.length<=n:=by
 have hsh:WShape.hasAll [] args [.list .int]=true:=(pre_splitW hpre).1;have hc:l.pre.holds [] {args:=args}=true:=(pre_splitW hpre).2;obtain ⟨d,r,rfl,h1,h2⟩:=hasAllW_cons hsh;obtain rfl:=hasAllW_nil h2;obtain ⟨xs,rfl,h3⟩:=hasW_list h1;obtain ⟨ns,rfl⟩:=items_int h3;have hlen:ns.length<=n:=by
  unfold OpenLaw.pre at hc;have h4:(WTm.not (.lt (.lit (.int (n:Int))) (.len (.arg 0)))).holds [] {args:= [.list (ns.map .int)]}=true:=by have h4:=(holds_andW hc).1;rw [hn] at h4;exact h4
  have h5:=condW_of h4 (w_not (w_lt w_lit (w_len_list (w_arg rfl))));rw [qW] at h5;refine Nat.le_of_not_lt λq=> ?_
  have q':(n:Int) < ((ns.length:Nat):Int):=by lia
  first
   | (rw [decide_eq_true q'] at h5;exact absurd h5 (by decide))
   | (simp at h5;lia)
 cases hwl with
 | cons w1 w2=>
  cases w2;cases w1 with
  | list ho hall=>exact ⟨_,_,ns,rfl,rfl,ho,ZO5 ns _ hall,hlen⟩
theorem ZNt (l:OpenLaw) (args:List WData):l.row.toRowW.claim.post args (.bool true) args=true:=
 postW_of (r:=l.row.toRowW) (X:=(true == true))
  (show WShape.has [] (.bool true) .bool=true by first | rfl | decide | simp [WShape.has,WShape.arms,WShape.armsAll])
  (show (WTm.eq .res (.lit (.bool true))).value [] {args:=args,res:=some (.bool true),after:=args}=some (.bool (true == true)) from w_eq_bool (w_res rfl) w_lit) rfl
theorem ZMP {l:OpenLaw} {n:Nat} {q:xW} {loose:List Str} {XP:(Str->Option xz)->Heap->Prop} {YP:xj->Heap->Prop} {d:DefRec}
  (hn:l.most=some n) (hdf:d.params.defaults= [])
  (call:∀(w:xj) (s₀ s₁:xY) (mg mb:Str->Option xz) (fa:xQ) (o:Obj) (pm cd doc:xz) (a:xQ) (vs:List xz) (ns:List Int),
   Ground q loose [] XP w s₀ mg mb s₁.heap->YP w s₁.heap->
   s₁.heap.get? fa=some o->o.data=.func (docDef d.name d.params d.body d.scope pm cd doc)->s₁.heap.CodeRec cd d.name->mg d.name=some (.ref fa)->
   s₁.heap.get? a=some {cls:=.type "list",data:=.seq vs.toArray}->IntsAre vs ns->ns.length<=n->s₁.gens= #[]->
   codeAny (xR l.prog w) callerA (.call (.ref fa) ⟨[.ref a],[]⟩) (λr s'=>r=.ok (.ret (.bool true))/\OldK s₁.heap s'.heap/\s'.os=s₁.os/\AllBare s'.gens) s₁):
  WalkO q loose XP YP l.row.toRowW d [] (λf vs=>PySem.call f vs):=by
 intro w s₀ s₁ mg mb G Y fa o pm cd doc dV kV ho hd hcd hD hmg hg args vals as hpre hlay hrd hwl hlo;obtain rfl:dV=.none:=Dflts.none hD hdf;obtain rfl:kV=.none:=Dflts.noKw hD;obtain ⟨a,vs,ns,rfl,rfl,hobj,hints,hlen⟩:=ZOp hn hpre hwl;refine enter_call (codeAny_mono (call w s₀ s₁ mg mb fa o pm cd doc a vs ns G Y ho (fd_plain hd) hcd hmg hobj hints hlen hg) λr s' hq=> ?_);obtain ⟨rfl,h2,h3,h4⟩:=hq
 exact ⟨.inl ⟨.bool true,.bool true,[],rfl,λ_=>rfl,.bool true,ZNt l _,λ_=>⟨List.Pairwise.nil,λ_ hm=>(nomatch hm)⟩⟩,h2,h3,h4⟩
section
variable {prog:xW} {w:xj} {A:xZ} {E:xz->xY->Prop} {s:xY} {K:v5}
def Vn (h:Heap):Heap:={h with objs:= #[]}
theorem ZDp (h:Heap) (b:xQ):(Vn h).get? b=none:=by
 cases e:(Vn h).get? b with
 | none=>rfl
 | some o=>exact absurd (zk e) (Nat.not_lt_zero _)
noncomputable def ledger (h:Heap) (L d:xQ):List (xQ×Obj):=(zj h.objs.size).filterMap λa=>if a=L∨a=d then none else (h.get? a).map λo=>(a,o)
theorem Ve {L d a:xQ} {o:Obj}:(a,o)∈ledger h L d↔a≠L/\a≠d/\h.get? a=some o:=by
 unfold ledger;rw [List.mem_filterMap];constructor
 ·rintro ⟨b,_,e⟩;split at e
  ·cases e
  ·rename_i hb;obtain ⟨o',ho,e'⟩:=zP.mp e;cases e';exact ⟨λq=>hb (.inl q),λq=>hb (.inr q),ho⟩
 ·rintro ⟨n1,n2,ho⟩;refine ⟨a,zS.mpr (zk ho),?_⟩
  rw [if_neg (show¬(a=L∨a=d) from λq=>q.elim n1 n2),ho] <;> rfl
theorem ZMu {L:xQ} {m:Str->Option xz} (n:h.Ns L m):Fr (Vn h) L h m:=
 ⟨n,λb o e=>(by rw [ZDp] at e;cases e),jI _⟩
end
end Att
namespace L2
open PySem PySem.Spec PyProof.Rows
variable {k:Nat} {fd:xX} {x:Str}
theorem Uz:∀{vs:List xz} {ns:List Int},IntsAre vs ns->Vals (ns.map V.int) vs
 | _,_,.nil=>.nil
 | _,_,.cons n t h=>.cons ⟨t,rfl⟩ (Uz h)
def Only (H:Hp):Prop:=∀b,H b=none∨∃o xs,H b=some (.frz o (.lst xs))
theorem ZNg {P:xW} {w:xj} {K:PySem.W.Frag} {mg mb:Str->Option xz} {CX:CXT} {fa a:xQ} {sp:Sp} {s₁:xY} {vs:List xz} {ns:List Int}
  (KX:K.In s₁.heap) (hns:s₁.heap.Ns xP mg) (hb:s₁.heap.Ns builtinsNs mb) (hbb:∀x:Str,x≠"__name__"->mb x=xB x) (hlim:s₁.heap.NoLimit) (hg:s₁.gens= #[])
  (ha:s₁.heap.get? a=some {cls:=.type "list",data:=.seq vs.toArray}) (hi:IntsAre vs ns) (hl:ns.length<=sizeLine) (hr:Room k callerA)
  (F:∀base:Heap,K.In base->base.Ns xP mg->FnOk P w K mg base CX k fa fd [x] sp) (hbind:∀(s:xY) (u:xz),BindsTo s fd ⟨[u],[]⟩ [(x,u)])
  (hsp:∀H:Hp,Only H->SqL K H a (ns.map V.int)->sp [.ref a] H (λv _=>v=.bl true) λ_ _ _=>False)
  (hCX:∀H e s',CX [] H s₁ (λ_ _ _=>False) e s'->False):
  codeAny (xR P w) callerA (.call (.ref fa) ⟨[.ref a],[]⟩) (λr s'=>r=.ok (.ret (.bool true))/\OldK s₁.heap s'.heap/\s'.os=s₁.os/\AllBare s'.gens) s₁:=by
 have rv:=Uz hi;have lenV:=hi.length;have core:∀H:Hp,Only H->SqL K H a (ns.map V.int)->HOk P w H s₁.heap->(∀b,H b≠none->b=a)->(H a≠none->K.lookup a=none)->
   codeAny (xR P w) callerA (.call (.ref fa) ⟨[.ref a],[]⟩) (λr s'=>r=.ok (.ret (.bool true))/\OldK s₁.heap s'.heap/\s'.os=s₁.os/\AllBare s'.gens) s₁:=by
  intro H hO hS hok hA hK;have base_of:∀{b:xQ} {o:Obj},s₁.heap.get? b=some o->H b=none->(Ld s₁.heap H).get? b=some o:=λe n=>ZPm e n
  have noA:∀{b:xQ} {o:Obj} {es:Array DictEntry} {ep:Nat},s₁.heap.get? b=some o->o.data=.dict es ep->H b=none:=λ{b o es ep} e d=>by
   cases q:H b with
   | none=>rfl
   | some u=>
    have e':b=a:=hA b (by rw [q];simp);subst e';rw [ha] at e;cases e;have d':Data.seq vs.toArray _=Data.dict es ep:=d;cases d'
  have nsK:∀{b:xQ} {m:Str->Option xz},s₁.heap.Ns b m->(Ld s₁.heap H).Ns b m:=λ{b m} ⟨o,es,ep,e,d,r⟩=>⟨o,es,ep,base_of e (noA e d),d,r⟩
  have hKb:K.In (Ld s₁.heap H):=λb o e=>base_of (KX b o e) (by
   cases q:H b with
   | none=>rfl
   | some u=>
    have e':b=a:=hA b (by rw [q];simp);subst e';rw [hK (by rw [q];simp)] at e;cases e)
  have hM:Mod K mg (Ld s₁.heap H):=⟨hKb,nsK hns,⟨mb,nsK hb,hbb⟩,let ⟨mc,h1,h2⟩:=hlim;⟨mc,nsK h1,h2⟩⟩
  have e0:Env0 P w K mg (Ld s₁.heap H) callerA [] s₁ H:=⟨rfl,hM,λb o e=>ZPR e,Nat.le_of_eq (ZRP _ _),trivial,λb hb=>absurd (show b∈([]:List xQ) from hb) (by simp),hok,.of_eq hg⟩
  refine codeAny_mono ((F _ hKb (nsK hns)).run callerA [] s₁ H ⟨[.ref a],[]⟩ [.ref a] [.ref a] _ _ hr e0 (hbind s₁ (.ref a)) (.cons rfl .nil) (hsp H hO hS)) λr s' h=> ?_
  cases r with
  | error e=>exact (hCX H e s' h).elim
  | ok fl=>
   cases fl with
   | next=>exact False.elim h
   | brk=>exact False.elim h
   | cont=>exact False.elim h
   | ret u=>
    obtain ⟨v,H',os,bare,un,hok',r',q⟩:=h;have q':v=.bl true:=q;subst q';obtain rfl:u=Value.bool true:=r';refine ⟨rfl,OldK.of_keep λb o e=> ?_,os,bare⟩;cases q:H b with
    | none=>exact un.keep b o e q (by intro z;exact absurd (show b∈([]:List xQ) from z) (by simp)) (by simp)
    | some u=>
     rcases hO b with z | ⟨ob,xs,z⟩
     ·rw [q] at z;cases z
     ·have z2:=un.frzs b ob _ z;obtain ⟨e1,_⟩:=hok b _ z;obtain ⟨e2,_⟩:=hok' b _ z2;rw [e] at e1;cases e1;exact e2
 cases hk:K.lookup a with
 | some o=>
  have e:=KX a o hk;rw [ha] at e;cases e;refine core (λ_=>none) (λ_=>.inl rfl) (.inr ⟨_,vs.toArray,_,hk,rfl,rfl,rfl,by rw [zY,lenV];exact hl,by simpa using rv⟩) (λb u z=>by have z':(none:Option HO)=some u:=z;cases z') (λb z=>absurd rfl z) λz=>absurd rfl z
 | none=>
  refine core (λb=>if b=a then some (.frz {cls:=.type "list",data:=.seq vs.toArray} (.lst (ns.map V.int))) else none) (λb=> ?_) (.inl (.inr ⟨{cls:=.type "list",data:=.seq vs.toArray},if_pos rfl⟩)) (λb u z=> ?_) (λb z=> ?_) λ_=>hk
  ·by_cases hb:b=a
   ·exact .inr ⟨_,_,if_pos hb⟩
   ·exact .inl (if_neg hb)
  ·by_cases hb:b=a
   ·have z':=(if_pos hb).symm.trans z;cases z';subst hb;exact ⟨ha,by rw [qW];exact hl,vs,_,rv,ha⟩
   ·have z':=(if_neg hb).symm.trans z;cases z'
  ·by_cases hb:b=a
   ·exact hb
   ·exact absurd (if_neg hb) z
theorem ZRc {l:PySem.W.OpenLaw} {n:Nat} {q:xW} {loose:List Str} {XP:(Str->Option xz)->Heap->Prop} {YP:xj->Heap->Prop} {d:DefRec} {K:xj->PySem.W.Frag} {CX:xj->CXT} {sp:xj->Sp} 
  (hn:l.most=some n) (hn2:n<=sizeLine) (hdf:d.params.defaults= []) (hr:Room k callerA)
  (hY:∀(w:xj) (h:Heap),YP w h->(K w).In h)
  (F:∀(w:xj) (mg:Str->Option xz) (fa:xQ) (h:Heap),(K w).In h->h.Ns xP mg->mg d.name=some (.ref fa)->
   ∃fd:xX,(∀(s:xY) (u:xz),BindsTo s fd ⟨[u],[]⟩ [(x,u)])/\
    ∀base:Heap,(K w).In base->base.Ns xP mg->FnOk l.prog w (K w) mg base (CX w) k fa fd [x] (sp w))
  (hsp:∀(w:xj) (H:Hp) (a:xQ) (ns:List Int),ns.length<=n->Only H->SqL (K w) H a (ns.map V.int)->sp w [.ref a] H (λv _=>v=.bl true) λ_ _ _=>False)
  (hCX:∀(w:xj) (H:Hp) (s:xY) (e:xz) (s':xY),CX w [] H s (λ_ _ _=>False) e s'->False):
  PySem.W.WalkO q loose XP YP l.row.toRowW d [] (λf vs=>PySem.call f vs):=by
 refine Att.ZMP hn hdf λw s₀ s₁ mg mb fa o pm cd doc a vs ns G Y ho hd hcd hmg hobj hints hlen hg=> ?_
 have KX:=hY w _ Y;obtain ⟨fd,hb,hF⟩:=F w mg fa _ KX G.T.g hmg;exact ZNg KX G.T.g G.T.b G.T.builtins G.T.nolimit hg hobj hints (zD hlen hn2) hr hF hb (λH hO hS=>hsp w H a ns hlen hO hS) λH e s'=>hCX w H s₁ e s'
noncomputable def Ke (s:xq):Arguments:=match s with
 | .FunctionDef _ a _ _ _ _ _ _ _ _=>a
 | _=>{posonlyargs:= [],args:= [],vararg:=none,kwonlyargs:= [],kw_defaults:= [],kwarg:=none,defaults:= []}
noncomputable def Ip (s:xq):List xq:=match s with
 | .FunctionDef _ _ b _ _ _ _ _ _ _=>b
 | _=> []
noncomputable def Ax (s:xq):xK:=match s with
 | .FunctionDef _ _ _ _ _ _ sc _ _ _=>sc
 | _=>{kind:=.function,names:= [],isGenerator:=false,isCoroutine:=false}
abbrev CX0:CXT:=λ_ _ _ _ _ _=>False
abbrev E0:XK:=λ_ _ _=>False
theorem pass0 {X:Cx}:Passes CX0 X E0:=λ_ _ _ _ _ _ _ h=>h.elim
structure Fun (K:PySem.W.Frag) (x qual:Str) (st:xq) (f:xQ) (fd:xX):Prop where
 ex:∃(oc:xz) (od:Option xQ) (kV doc pm:xz) (an:Option xQ) (cdv ct:xz) (osl:Array (Option xz)),
  fd=PySem.W.fnOf x qual (Ke st) (Ip st) (Ax st) .none kV doc pm an cdv ct/\K.lookup f=some ⟨oc,od,.func fd,osl⟩/\PySem.W.codeIn K cdv qual=true
 kp:PySem.W.keepIn K (.ref f)=true
section
variable {P:xW} {w:xj} {K:PySem.W.Frag} {mg:Str->Option xz} {base:Heap}
theorem Fun.ok {qual:Str} {st:xq} {f:xQ} {N ps:List Str} {sp:Sp} (F:Fun K x qual st f fd) (S:FnScope N ps (Ax st)) (len:∀vs H Q E,sp vs H Q E->vs.length=ps.length)
  (hbody:∀(cdv:xz) (A:xZ) (outer:List Env) (s:xY) (H:Hp) (vs:List V) (Q:VK) (E:XK),Room k (A.deeper (envOfC qual (Ax st) s.heap.objs.size f cdv))->sp vs H Q E->
   ∃t,PSs (Ph CX0 P w K mg base N qual (Ax st) f cdv A outer s H E).nox (Ip st) t/\t {nx:=λ_ H'=>Q .non H',rt:=Q} (start N vs) H):FnOk P w K mg base CX0 (k + 1) f fd ps sp:=by
 obtain ⟨oc,od,kV,doc,pm,an,cdv,ct,osl,rfl,lk,hcd⟩:=F.ex;refine ZQm lk hcd S len λA outer s H vs Q E hr hsp=> ?_
 obtain ⟨t,h,q⟩:=hbody cdv A outer s H vs Q E hr hsp;exact ⟨t,h.nox,q⟩
theorem Fun.binds {qual:Str} {st:xq} {f:xQ} {ps:List Str} (F:Fun K x qual st f fd)
  (h:∀(kV doc pm:xz) (an:Option xQ) (cdv ct:xz) (us:List xz),us.length=ps.length->bindArgs (PySem.W.fnOf x qual (Ke st) (Ip st) (Ax st) .none kV doc pm an cdv ct) ⟨us,[]⟩=pure (ps.zip us)):Binds K fd ps []:=by
 obtain ⟨oc,od,kV,doc,pm,an,cdv,ct,osl,rfl,lk,hcd⟩:=F.ex;exact .all (h kV doc pm an cdv ct)
end
section
variable {X:Cx}
end
section
variable {κ:Type} [DecidableEq κ]
end
section
variable {P:xW} {w:xj} {H:Hp} {h:Heap} {a:xQ}
end
section
variable {X:Cx} {v8:List (xQ×Obj)} {σ:St} {H:Hp} {s:xY} {a:xQ} {y v:V} {u r:xz} {o:Option V} {A:xZ} {E:xz->xY->Prop}
end
section
variable {X:Cx} {v8:List (xQ×Obj)} {σ:St} {H:Hp} {s:xY} {a:xQ} {kvs:List (Key×V)} {k:Key} {u:xz} {A:xZ} {E:xz->xY->Prop}
end
section
variable {X:Cx} {o i e value:xJ} {pos pos' tpos:Pos} {td ty tv:TE}
end
section
variable {X:Cx} {pos:Pos}
end
section
variable {X:Cx} {v8:List (xQ×Obj)} {σ:St} {H:Hp} {s:xY} {a:xQ} {y d:V} {u r:xz} {o:Option V} {A:xZ} {E:xz->xY->Prop}
end
section
variable {X:Cx} {o e f:xJ} {apos cpos:Pos} {td ty tx:TE}
end
section
variable {X:Cx} {v8:List (xQ×Obj)} {σ:St} {H:Hp} {s:xY} {a:xQ} {kvs:List (Key×V)} {A:xZ} {E:xz->xY->Prop}
end
section
variable {X:Cx} {v8:List (xQ×Obj)} {σ:St} {H:Hp} {s:xY} {a:xQ} {y:V} {u:xz} {A:xZ} {E:xz->xY->Prop}
end
section
variable {X:Cx}
end
end L2
namespace L2
section
variable {κ:Type} [DecidableEq κ]
end
end L2
namespace DL
open PySem PySem.Spec L2
open PyProof.Rows hiding St
variable {α β:Type} {K:PySem.W.Frag} {H:Hp} {p:xQ} {v y:V} {vs:List V} {σ:St} {E:XK} {Q:VK} {W:Ends} {e tg:xJ} {ho:HO} {i j k nt:Nat} {x:Str} {A:xZ} {s:xY} {P:xW} {w:xj} {scope:xK} {env:Env} {X:Cx}
inductive D where
 | non | bl (b:Bool) | int (i:Int) | str (x:Str) | ty (n:String)
 | tup (xs:List D)
 | fl (xs:List D)
 | ref (i:Nat)
variable {d:D} {ds xs:List D}
inductive DO where
 | lst (xs:List D)
 | dct (kvs:List (Key×D))
 | ins (c:Str) (fs:List (Str×D))
 | tab (c m:Str)
 | gone
variable {o:DO}
abbrev DH:=List DO
variable {G G' L:DH}
abbrev DSt:=List (Option D)
variable {S:DSt}
structure Xn where
 cls:Str
 fs:List (Str×D)
inductive R (α:Type) where
 | ok (a:α) (G:DH)
 | err (x:Xn) (G:DH)
 | bad
variable {r:R D} {f:D->D->DH->R D}
noncomputable def R.bind {α β:Type} (r:R α) (f:α->DH->R β):R β:=match r with
 | .ok a G=>f a G
 | .err x G=>.err x G
 | .bad=>.bad
@[simp] theorem R.Mi (a:α) (G:DH) (f:α->DH->R β):(R.ok a G).bind f=f a G:=id rfl
@[simp] theorem R.ZS0 (f:α->DH->R β):(R.bad:R α).bind f=.bad:=id rfl
inductive SR where
 | nx (S:DSt) (G:DH)
 | rt (d:D) (G:DH)
 | bk (S:DSt) (G:DH)
 | ct (S:DSt) (G:DH)
 | err (x:Xn) (G:DH)
 | bad
abbrev DE:=DSt->DH->R D
variable {t te:DE}
abbrev DB:=DSt->DH->R Bool
variable {c:DB}
abbrev DA:=DSt->DH->R (List D)
abbrev DS:=DSt->DH->SR
variable {u:DS}
noncomputable def FzL (K:PySem.W.Frag) (H:Hp) (a:xQ) (xs:List V):Prop:=
 (∃o,H a=some (.frz o (.lst xs)))∨
  ∃(o:Obj) (its:Array xz) (n:Nat),K.lookup a=some o/\o.cls=.type "list"/\o.dict=none/\o.data=.seq its n/\its.size<=sizeLine/\Vals xs its.toList
theorem FzL.sq {a:xQ} {xs:List V} (h:FzL K H a xs):SqL K H a xs:=by
 rcases h with ⟨o,h⟩ | h
 ·exact .inl (.inr ⟨o,h⟩)
 ·exact .inr h
structure Wd where
 K:PySem.W.Frag
 n:Nat
 m:Nat->xQ
 H:Hp
variable {a b:Wd}
mutual
noncomputable def Rep (a:Wd):D->V->Prop
 | .non,v=>v=.non
 | .bl b,v=>v=.bl b
 | .int i,v=>v=.int i
 | .str x,v=>v=.str x
 | .ty n,v=>v=.ty n
 | .tup ds,v=>∃p vs,v=.ref p/\SqT a.K a.H p vs/\Reps a ds vs
 | .fl ds,v=>∃p vs,v=.ref p/\FzL a.K a.H p vs/\Reps a ds vs
 | .ref i,v=>i < a.n/\v=.ref (a.m i)
noncomputable def Reps (a:Wd):List D->List V->Prop
 | [],vs=>vs= []
 | d::ds,vs=>∃v r,vs=v::r/\Rep a d v/\Reps a ds r
end
def lamQ:Str:="Sending.send_by.<locals>.<lambda>"
noncomputable def TabOk (H:Hp) (P:xQ):Prop:=
 ∃ps:Array xz,H P=some (.tbl ps)/\TriplesOk ps.toList/\∀pos cv,codeAmong pos ps.toList=some cv->∃(c:xQ) (oc:Obj) (vs:Array xz) (t:Tok),cv=.ref c/\H c=some (.frz oc (.own 0))/\oc.data=.fields vs/\vs[1]? =some (.str lamQ t)
theorem TabOk.mono {H':Hp} {P:xQ} (h:TabOk H P) (ht:∀p ps,H p=some (.tbl ps)->H' p=some (.tbl ps)) (hf:∀p o u,H p=some (.frz o u)->H' p=some (.frz o u)):TabOk H' P:=by obtain ⟨ps,e,t,k⟩:=h;refine ⟨ps,ht _ _ e,t,λpos cv hc=> ?_⟩;obtain ⟨c,oc,vs,tk,e1,e2,e3,e4⟩:=k pos cv hc;exact ⟨c,oc,vs,tk,e1,hf _ _ _ e2,e3,e4⟩
noncomputable def TabAt (K:PySem.W.Frag) (C m:Str) (c P:xQ):Prop:=
 ∃(Ca f:xQ) (oc:xz) (od:Option xQ) (fd:xX) (sl:Array (Option xz)),PySem.W.nsIn K xP C=some (some (.ref Ca))/\PySem.W.findIn K (.ref Ca) m=some (some (.ref f))/\K.lookup f=some ⟨oc,od,.func fd,sl⟩/\fd.code=.ref c/\PySem.W.codeHdIn K c P=true
structure Ext (a b:Wd):Prop where
 k:b.K=a.K
 n:a.n<=b.n
 m:∀i,i < a.n->b.m i=a.m i
 tup:∀p xs,a.H p=some (.tup xs)->b.H p=some (.tup xs)
 frz:∀p o u,a.H p=some (.frz o u)->b.H p=some (.frz o u)
 tab:∀p,TabOk a.H p->TabOk b.H p
theorem Ext.refl (a:Wd):Ext a a:=⟨rfl,zW _,λ_ _=>rfl,λ_ _ h=>h,λ_ _ _ h=>h,λ_ h=>h⟩
theorem Ext.trans {c:Wd} (x:Ext a b) (y:Ext b c):Ext a c:=
 ⟨y.k.trans x.k,zD x.n y.n,λi h=>(y.m i (zq h x.n)).trans (x.m i h),λp xs h=>y.tup p xs (x.tup p xs h),λp o u h=>y.frz p o u (x.frz p o u h),λp h=>y.tab p (x.tab p h)⟩
theorem Ext.sqT (x:Ext a b) {xs:List V} (h:SqT a.K a.H p xs):SqT b.K b.H p xs:=by
 rcases h with (h | ⟨o,h⟩) | h
 ·exact .inl (.inl (x.tup _ _ h))
 ·exact .inl (.inr ⟨o,x.frz _ _ _ h⟩)
 ·exact .inr (by rw [x.k];exact h)
theorem Ext.fzL (x:Ext a b) {xs:List V} (h:FzL a.K a.H p xs):FzL b.K b.H p xs:=by
 rcases h with ⟨o,h⟩ | h
 ·exact .inl ⟨o,x.frz _ _ _ h⟩
 ·exact .inr (by rw [x.k];exact h)
mutual
theorem Rep.mono (x:Ext a b):∀{d:D} {v:V},Rep a d v->Rep b d v
 | .non,_,h=>h
 | .bl _,_,h=>h
 | .int _,_,h=>h
 | .str _,_,h=>h
 | .ty _,_,h=>h
 | .tup ds,v,h=>by obtain ⟨p,vs,e,q,r⟩:=h;exact ⟨p,vs,e,x.sqT q,Reps.mono x r⟩
 | .fl ds,v,h=>by obtain ⟨p,vs,e,q,r⟩:=h;exact ⟨p,vs,e,x.fzL q,Reps.mono x r⟩
 | .ref i,v,h=>by obtain ⟨l,e⟩:=h;exact ⟨zq l x.n,by rw [x.m i l];exact e⟩
theorem Reps.mono (x:Ext a b):∀{ds:List D} {vs:List V},Reps a ds vs->Reps b ds vs
 | [],_,h=>h
 | d::ds,vs,h=>by obtain ⟨v,r,e,h1,h2⟩:=h;exact ⟨v,r,e,Rep.mono x h1,Reps.mono x h2⟩
end
theorem Reps.length:∀{ds:List D} {vs:List V},Reps a ds vs->ds.length=vs.length
 | [],vs,h=>by cases (show vs= [] from h);rfl
 | d::ds,vs,h=>by obtain ⟨v,r,e,h1,h2⟩:=h;subst e;show ds.length + 1=r.length + 1;rw [Reps.length h2]
theorem Reps.get:∀{ds:List D} {vs:List V} {i:Nat} {d:D},Reps a ds vs->ds[i]? =some d->∃v,vs[i]? =some v/\Rep a d v
 | [],vs,_,_,h,e=>by simp at e
 | d::ds,vs,0,d',h,e=>by obtain ⟨v,r,e1,h1,h2⟩:=h;subst e1;simp at e;subst e;exact ⟨v,rfl,h1⟩
 | d::ds,vs,i + 1,d',h,e=>by obtain ⟨v,r,e1,h1,h2⟩:=h;subst e1;obtain ⟨w,e2,h3⟩:=Reps.get (i:=i) (d:=d') h2 (by simpa using e);exact ⟨w,by simpa using e2,h3⟩
theorem Reps.get':∀{ds:List D} {vs:List V} {i:Nat} {v:V},Reps a ds vs->vs[i]? =some v->∃d,ds[i]? =some d/\Rep a d v
 | [],vs,_,_,h,e=>by cases (show vs= [] from h);simp at e
 | d::ds,vs,0,v',h,e=>by obtain ⟨v,r,e1,h1,h2⟩:=h;subst e1;simp at e;subst e;exact ⟨d,rfl,h1⟩
 | d::ds,vs,i + 1,v',h,e=>by obtain ⟨v,r,e1,h1,h2⟩:=h;subst e1;obtain ⟨w,e2,h3⟩:=Reps.get' (i:=i) (v:=v') h2 (by simpa using e);exact ⟨w,by simpa using e2,h3⟩
theorem Reps.append:∀{ds es:List D} {vs us:List V},Reps a ds vs->Reps a es us->Reps a (ds++es) (vs++us)
 | [],_,vs,_,h,h'=>by cases (show vs= [] from h);exact h'
 | d::ds,es,vs,us,h,h'=>by obtain ⟨v,r,e1,h1,h2⟩:=h;subst e1;exact ⟨v,r++us,rfl,h1,Reps.append h2 h'⟩
theorem Reps.cons (h:Rep a d v) (r:Reps a ds vs):Reps a (d::ds) (v::vs):=⟨v,vs,rfl,h,r⟩
theorem Reps.nil:Reps a [] []:=rfl
theorem Reps.set (h:Rep a d v):∀{ds:List D} {vs:List V} (i:Nat),Reps a ds vs->Reps a (ds.set i d) (vs.set i v)
 | [],vs,_,r=>by cases (show vs= [] from r);exact rfl
 | d'::ds,vs,0,r=>by obtain ⟨v',r',e1,h1,h2⟩:=r;subst e1;exact ⟨v,r',rfl,h,h2⟩
 | d'::ds,vs,i + 1,r=>by obtain ⟨v',r',e1,h1,h2⟩:=r;subst e1;exact ⟨v',r'.set i v,rfl,h1,Reps.set h i h2⟩
theorem Reps.take:∀{ds:List D} {vs:List V} (i:Nat),Reps a ds vs->Reps a (ds.take i) (vs.take i)
 | _,_,0,_=>rfl
 | [],vs,_ + 1,r=>by cases (show vs= [] from r);exact rfl
 | d'::ds,vs,i + 1,r=>by obtain ⟨v',r',e1,h1,h2⟩:=r;subst e1;exact ⟨v',r'.take i,rfl,h1,Reps.take i h2⟩
theorem Reps.drop:∀{ds:List D} {vs:List V} (i:Nat),Reps a ds vs->Reps a (ds.drop i) (vs.drop i)
 | _,_,0,r=>r
 | [],vs,_ + 1,r=>by cases (show vs= [] from r);exact rfl
 | d'::ds,vs,i + 1,r=>by obtain ⟨v',r',e1,h1,h2⟩:=r;subst e1;exact Reps.drop i h2
theorem Reps.ints:∀(ns:List Int),Reps a (ns.map D.int) (ns.map V.int)
 | []=>rfl
 | n::ns=>⟨.int n,ns.map V.int,rfl,rfl,Reps.ints ns⟩
noncomputable def RepKV (a:Wd) (kvs:List (Key×D)) (us:List (Key×V)):Prop:=kvs.map (·.1)=us.map (·.1)/\Reps a (kvs.map (·.2)) (us.map (·.2))
noncomputable def RepF (a:Wd) (fs:List (Str×D)) (us:List (Str×V)):Prop:=fs.map (·.1)=us.map (·.1)/\Reps a (fs.map (·.2)) (us.map (·.2))
noncomputable def ORep (a:Wd):DO->Option HO->Prop
 | .lst ds,o=>∃vs,o=some (.lst vs)/\Reps a ds vs
 | .dct kvs,o=>∃us,o=some (.dK us)/\RepKV a kvs us
 | .ins c fs,o=>∃C dx us,PySem.W.nsIn a.K xP c=some (some (.ref C))/\o=some (.ins C dx us)/\RepF a fs us
 | .tab C m,_=>∃c P,TabAt a.K C m c P/\TabOk a.H P
 | .gone,_=>True
structure Sim (a:Wd) (G:DH):Prop where
 len:G.length=a.n
 inj:∀i j,i < a.n->j < a.n->a.m i=a.m j->i=j
 obj:∀(i:Nat) (o:DO),G[i]? =some o->ORep a o (a.H (a.m i))
 tr:∀i,i < a.n->a.H (a.m i)≠none
structure RepS (a:Wd) (S:DSt) (σ:St):Prop where
 len:S.length=σ.length
 get:∀(i:Nat) (d:D),S[i]? =some (some d)->∃v,σ[i]? =some (some v)/\Rep a d v
theorem RepS.mono (x:Ext a b) (r:RepS a S σ):RepS b S σ:=⟨r.len,λi d h=>let ⟨v,e,q⟩:=r.get i d h;⟨v,e,q.mono x⟩⟩
theorem RepS.set (r:RepS a S σ) (i:Nat) (h:Rep a d v):RepS a (S.set i (some d)) (σ.set i (some v)):=by
 refine ⟨by simpa using r.len,λj e he=> ?_⟩;rw [jK] at he ⊢;by_cases hij:i=j
 ·subst hij;rw [if_pos rfl] at he ⊢;by_cases hl:i < S.length
  ·rw [if_pos hl] at he;have e1:d=e:=by simpa using he
   subst e1;rw [if_pos (by rw [<-r.len];exact hl)];exact ⟨v,rfl,h⟩
  ·rw [if_neg hl] at he;cases he
 ·rw [if_neg hij] at he ⊢;exact r.get j e he
def XOk (E:XK) (a:Wd) (x:Xn) (G:DH):Prop:=False
noncomputable def out (E:XK) (a:Wd) (r:R D) (Q:VK):Prop:=match r with
 | .ok d G=>∀(b:Wd) (v:V),Ext a b->Sim b G->Rep b d v->Q v b.H
 | .err x G=>XOk E a x G
 | .bad=>False
noncomputable def Gx (E:XK) (a:Wd) (r:R Bool) (Q:Bool->Hp->Prop):Prop:=match r with
 | .ok k G=>∀(b:Wd),Ext a b->Sim b G->Q k b.H
 | .err x G=>XOk E a x G
 | .bad=>False
noncomputable def H9 (E:XK) (a:Wd) (r:R (List D)) (Q:List V->Hp->Prop):Prop:=match r with
 | .ok ds G=>∀(b:Wd) (vs:List V),Ext a b->Sim b G->Reps b ds vs->Q vs b.H
 | .err x G=>XOk E a x G
 | .bad=>False
noncomputable def Di (E:XK) (a:Wd) (r:SR) (W:Ends):Prop:=match r with
 | .nx S G=>∀(b:Wd) (σ:St),Ext a b->Sim b G->RepS b S σ->W.nx σ b.H
 | .bk S G=>∀(b:Wd) (σ:St),Ext a b->Sim b G->RepS b S σ->W.bk σ b.H
 | .ct S G=>∀(b:Wd) (σ:St),Ext a b->Sim b G->RepS b S σ->W.ct σ b.H
 | .rt d G=>∀(b:Wd) (v:V),Ext a b->Sim b G->Rep b d v->W.rt v b.H
 | .err x G=>XOk E a x G
 | .bad=>False
theorem XOk.mono (x:Ext a b) {e:Xn} (h:XOk E a e G):XOk E b e G:=h
theorem out.mono (x:Ext a b) (h:out E a r Q):out E b r Q:=by
 cases r with
 | ok d G=>exact λc v y s q=>h c v (x.trans y) s q
 | err e G=>exact XOk.mono (E:=E) (e:=e) (G:=G) x h
 | bad=>exact h
theorem Gx.mono (x:Ext a b) {r:R Bool} {Q:Bool->Hp->Prop} (h:Gx E a r Q):Gx E b r Q:=by
 cases r with
 | ok d G=>exact λc y s=>h c (x.trans y) s
 | err e G=>exact XOk.mono (E:=E) (e:=e) (G:=G) x h
 | bad=>exact h
theorem H9.mono (x:Ext a b) {r:R (List D)} {Q:List V->Hp->Prop} (h:H9 E a r Q):H9 E b r Q:=by
 cases r with
 | ok d G=>exact λc vs y s q=>h c vs (x.trans y) s q
 | err e G=>exact XOk.mono (E:=E) (e:=e) (G:=G) x h
 | bad=>exact h
theorem Di.mono (x:Ext a b) {r:SR} (h:Di E a r W):Di E b r W:=by
 cases r with
 | nx d G=>exact λc vs y s q=>h c vs (x.trans y) s q
 | bk d G=>exact λc vs y s q=>h c vs (x.trans y) s q
 | ct d G=>exact λc vs y s q=>h c vs (x.trans y) s q
 | rt d G=>exact λc vs y s q=>h c vs (x.trans y) s q
 | err e G=>exact XOk.mono (E:=E) (e:=e) (G:=G) x h
 | bad=>exact h
noncomputable def lE (K:PySem.W.Frag) (E:XK) (t:DE):TE:=λσ H Q=>∃(a:Wd) (S:DSt) (G:DH),a.K=K/\a.H=H/\Sim a G/\RepS a S σ/\out E a (t S G) Q
noncomputable def lB (K:PySem.W.Frag) (E:XK) (t:DB):TT:=λσ H Q=>∃(a:Wd) (S:DSt) (G:DH),a.K=K/\a.H=H/\Sim a G/\RepS a S σ/\Gx E a (t S G) Q
noncomputable def lA (K:PySem.W.Frag) (E:XK) (t:DA):TA:=λσ H Q=>∃(a:Wd) (S:DSt) (G:DH),a.K=K/\a.H=H/\Sim a G/\RepS a S σ/\H9 E a (t S G) Q
noncomputable def lS (K:PySem.W.Frag) (E:XK) (t:DS):TS:=λW σ H=>∃(a:Wd) (S:DSt) (G:DH),a.K=K/\a.H=H/\Sim a G/\RepS a S σ/\Di E a (t S G) W
noncomputable def lR2 (K:PySem.W.Frag) (E:XK) (f:D->D->DH->R D):R2:=λx y H Q=>∃(a:Wd) (G:DH) (d e:D),a.K=K/\a.H=H/\Sim a G/\Rep a d x/\Rep a e y/\out E a (f d e G) Q
noncomputable def lR1 (K:PySem.W.Frag) (E:XK) (f:D->DH->R D):V->Hp->VK->Prop:=λx H Q=>∃(a:Wd) (G:DH) (d:D),a.K=K/\a.H=H/\Sim a G/\Rep a d x/\out E a (f d G) Q
noncomputable def lRn (K:PySem.W.Frag) (E:XK) (f:List D->DH->R D):List V->Hp->VK->Prop:=λxs H Q=>∃(a:Wd) (G:DH) (ds:List D),a.K=K/\a.H=H/\Sim a G/\Reps a ds xs/\out E a (f ds G) Q
noncomputable def lF (K:PySem.W.Frag) (f:List D->DH->R D):Sp:=λxs H Q E=>∃(a:Wd) (G:DH) (ds:List D),a.K=K/\a.H=H/\Sim a G/\Reps a ds xs/\out E a (f ds G) Q
section
variable {X:Cx} {E:XK}
def QE (X:Cx) (E:XK) (e:xJ) (t:DE):Prop:=PE X e (lE X.K E t)
def QT (X:Cx) (E:XK) (e:xJ) (t:DB):Prop:=PT X e (lB X.K E t)
def QA (X:Cx) (E:XK) (es:List xJ) (t:DA):Prop:=PA X es (lA X.K E t)
def QS (X:Cx) (E:XK) (st:xq) (t:DS):Prop:=PS X st (lS X.K E t)
def QSs (X:Cx) (E:XK) (st:List xq) (t:DS):Prop:=PSs X st (lS X.K E t)
theorem _root_.L2.PE.mono {t t':TE} (h:PE X e t) (w:∀σ H Q,t' σ H Q->t σ H Q):PE X e t':=λv8 s σ H Q I q=>h v8 s σ H Q I (w σ H Q q)
theorem _root_.L2.PT.mono {t t':TT} (h:PT X e t) (w:∀σ H Q,t' σ H Q->t σ H Q):PT X e t':=λv8 s σ H Q I q=>h v8 s σ H Q I (w σ H Q q)
theorem _root_.L2.PA.mono {e:List xJ} {t t':TA} (h:PA X e t) (w:∀σ H Q,t' σ H Q->t σ H Q):PA X e t':=λpos v8 s σ H Q I q=>h pos v8 s σ H Q I (w σ H Q q)
theorem _root_.L2.PS.mono {e:xq} {t t':TS} (h:PS X e t) (w:∀W σ H,t' W σ H->t W σ H):PS X e t':=λv8 s σ H W I q=>h v8 s σ H W I (w W σ H q)
theorem _root_.L2.PSs.mono {e:List xq} {t t':TS} (h:PSs X e t) (w:∀W σ H,t' W σ H->t W σ H):PSs X e t':=λv8 s σ H W I q=>h v8 s σ H W I (w W σ H q)
theorem _root_.L2.OpR.mono {f:xz->xz->Sem xz} {r r':R2} (h:OpR X f r) (w:∀x y H Q,r' x y H Q->r x y H Q):OpR X f r':=λv8 s σ H x y v u Q I rx ry q=>h v8 s σ H x y v u Q I rx ry (w _ _ _ _ q)
end
theorem Gn {f:D->DH->R D} (h:out E a (r.bind f) Q):
  out E a r (λv H=>∃(b:Wd) (d:D) (G:DH),b.H=H/\Ext a b/\Sim b G/\Rep b d v/\r=.ok d G/\out E b (f d G) Q):=by
 cases r with
 | ok d G=>exact λb v x s q=>⟨b,d,G,rfl,x,s,q,rfl,out.mono x h⟩
 | err e G=>exact h
 | bad=>exact h
theorem Nx {r:R (List D)} {f:List D->DH->R D} (h:out E a (r.bind f) Q):
  H9 E a r (λvs H=>∃(b:Wd) (ds:List D) (G:DH),b.H=H/\Ext a b/\Sim b G/\Reps b ds vs/\r=.ok ds G/\out E b (f ds G) Q):=by
 cases r with
 | ok d G=>exact λb v x s q=>⟨b,d,G,rfl,x,s,q,rfl,out.mono x h⟩
 | err e G=>exact h
 | bad=>exact h
theorem ZFj {r:R Bool} {f:Bool->DH->R D} (h:out E a (r.bind f) Q):
  Gx E a r (λk H=>∃(b:Wd) (G:DH),b.H=H/\Ext a b/\Sim b G/\r=.ok k G/\out E b (f k G) Q):=by
 cases r with
 | ok d G=>exact λb x s=>⟨b,G,rfl,x,s,rfl,out.mono x h⟩
 | err e G=>exact h
 | bad=>exact h
theorem ZRo {f:D->DH->R Bool} {Q:Bool->Hp->Prop} (h:Gx E a (r.bind f) Q):
  out E a r (λv H=>∃(b:Wd) (d:D) (G:DH),b.H=H/\Ext a b/\Sim b G/\Rep b d v/\r=.ok d G/\Gx E b (f d G) Q):=by
 cases r with
 | ok d G=>exact λb v x s q=>⟨b,d,G,rfl,x,s,q,rfl,Gx.mono x h⟩
 | err e G=>exact h
 | bad=>exact h
theorem ZDq {r:R Bool} {f:Bool->DH->R Bool} {Q:Bool->Hp->Prop} (h:Gx E a (r.bind f) Q):
  Gx E a r (λk H=>∃(b:Wd) (G:DH),b.H=H/\Ext a b/\Sim b G/\r=.ok k G/\Gx E b (f k G) Q):=by
 cases r with
 | ok d G=>exact λb x s=>⟨b,G,rfl,x,s,rfl,Gx.mono x h⟩
 | err e G=>exact h
 | bad=>exact h
theorem ZQb {f:D->DH->R (List D)} {Q:List V->Hp->Prop} (h:H9 E a (r.bind f) Q):
  out E a r (λv H=>∃(b:Wd) (d:D) (G:DH),b.H=H/\Ext a b/\Sim b G/\Rep b d v/\r=.ok d G/\H9 E b (f d G) Q):=by
 cases r with
 | ok d G=>exact λb v x s q=>⟨b,d,G,rfl,x,s,q,rfl,H9.mono x h⟩
 | err e G=>exact h
 | bad=>exact h
theorem ZPs {r:R (List D)} {f:List D->DH->R (List D)} {Q:List V->Hp->Prop} (h:H9 E a (r.bind f) Q):
  H9 E a r (λvs H=>∃(b:Wd) (ds:List D) (G:DH),b.H=H/\Ext a b/\Sim b G/\Reps b ds vs/\r=.ok ds G/\H9 E b (f ds G) Q):=by
 cases r with
 | ok d G=>exact λb v x s q=>⟨b,d,G,rfl,x,s,q,rfl,H9.mono x h⟩
 | err e G=>exact h
 | bad=>exact h
noncomputable def R.toS {α:Type} (r:R α) (f:α->DH->SR):SR:=match r with
 | .ok a G=>f a G
 | .err x G=>.err x G
 | .bad=>.bad
@[simp] theorem R.Dl (a:α) (G:DH) (f:α->DH->SR):(R.ok a G).toS f=f a G:=id rfl
@[simp] theorem R.ZSM (f:α->DH->SR):(R.bad:R α).toS f=.bad:=id rfl
theorem Iz {f:D->DH->SR} (h:Di E a (r.toS f) W):
  out E a r (λv H=>∃(b:Wd) (d:D) (G:DH),b.H=H/\Ext a b/\Sim b G/\Rep b d v/\r=.ok d G/\Di E b (f d G) W):=by
 cases r with
 | ok d G=>exact λb v x s q=>⟨b,d,G,rfl,x,s,q,rfl,Di.mono x h⟩
 | err e G=>exact h
 | bad=>exact h
theorem ZFo {r:R Bool} {f:Bool->DH->SR} (h:Di E a (r.toS f) W):
  Gx E a r (λk H=>∃(b:Wd) (G:DH),b.H=H/\Ext a b/\Sim b G/\r=.ok k G/\Di E b (f k G) W):=by
 cases r with
 | ok d G=>exact λb x s=>⟨b,G,rfl,x,s,rfl,Di.mono x h⟩
 | err e G=>exact h
 | bad=>exact h
section
theorem out.imp {Q':VK} (h:out E a r Q) (w:∀v H,Q v H->Q' v H):out E a r Q':=by
 cases r with
 | ok d G=>exact λb v x s q=>w _ _ (h b v x s q)
 | err e G=>exact h
 | bad=>exact h
theorem H9.imp {r:R (List D)} {Q Q':List V->Hp->Prop} (h:H9 E a r Q) (w:∀v H,Q v H->Q' v H):H9 E a r Q':=by
 cases r with
 | ok d G=>exact λb v x s q=>w _ _ (h b v x s q)
 | err e G=>exact h
 | bad=>exact h
theorem Gx.imp {r:R Bool} {Q Q':Bool->Hp->Prop} (h:Gx E a r Q) (w:∀v H,Q v H->Q' v H):Gx E a r Q':=by
 cases r with
 | ok d G=>exact λb x s=>w _ _ (h b x s)
 | err e G=>exact h
 | bad=>exact h
noncomputable def Wd.push (a:Wd) (p:xQ) (ho:HO):Wd:=⟨a.K,a.n + 1,λk=>if k=a.n then p else a.m k,upd a.H p ho⟩
def Wd.put (a:Wd) (p:xQ) (ho:HO):Wd:={a with H:=upd a.H p ho}
theorem Ext.put (h:a.H p=none):Ext a (a.put p ho):=
 ⟨rfl,zW _,λ_ _=>rfl,λq xs e=>by show upd a.H p ho q=_;rw [Bd (Il e h)];exact e,λq o u e=>by show upd a.H p ho q=_;rw [Bd (Il e h)];exact e,λ_ t=>t.mono (λq ps e=>by show upd a.H p ho q=_;rw [Bd (Il e h)];exact e) (λq o u e=>by show upd a.H p ho q=_;rw [Bd (Il e h)];exact e)⟩
theorem Ext.push (h:a.H p=none):Ext a (a.push p ho):=
 ⟨rfl,j3 _,λi hi=>by show (if i=a.n then p else a.m i)=a.m i;rw [if_neg (zE hi)],λq xs e=>by show upd a.H p ho q=_;rw [Bd (Il e h)];exact e,λq o u e=>by show upd a.H p ho q=_;rw [Bd (Il e h)];exact e,λ_ t=>t.mono (λq ps e=>by show upd a.H p ho q=_;rw [Bd (Il e h)];exact e) (λq o u e=>by show upd a.H p ho q=_;rw [Bd (Il e h)];exact e)⟩
theorem ORep.mono (x:Ext a b) {q:Option HO} (h:ORep a o q):ORep b o q:=by
 cases o with
 | lst ds=>obtain ⟨vs,e,r⟩:=h;exact ⟨vs,e,r.mono x⟩
 | dct kvs=>obtain ⟨us,e,k,r⟩:=h;exact ⟨us,e,k,r.mono x⟩
 | ins c fs=>obtain ⟨C,dx,us,n,e,k,r⟩:=h;exact ⟨C,dx,us,by rw [x.k];exact n,e,k,r.mono x⟩
 | tab C m=>obtain ⟨c,P,e,t⟩:=h;exact ⟨c,P,by rw [x.k];exact e,x.tab _ t⟩
 | gone=>trivial
theorem Sim.lt (s:Sim a G) (h:G[i]? =some o):i < a.n:=by rw [<-s.len];exact (zF.mp h).1
theorem Sim.put (s:Sim a G) (h:a.H p=none):Sim (a.put p ho) G:=by
 refine ⟨s.len,s.inj,λi o e=> ?_,λi hi=> ?_⟩
 ·have z:a.H (a.m i)≠none:=s.tr i (s.lt e);have ne:a.m i≠p:=λq=>z (by rw [q];exact h)
  show ORep _ o (upd a.H p ho (a.m i));rw [Bd ne];exact (s.obj i o e).mono (Ext.put h)
 ·have z:a.H (a.m i)≠none:=s.tr i hi;have ne:a.m i≠p:=λq=>z (by rw [q];exact h)
  show upd a.H p ho (a.m i)≠none;rw [Bd ne];exact z
theorem Sim.push (s:Sim a G) (h:a.H p=none) (r:ORep (a.push p ho) o (some ho)):Sim (a.push p ho) (G++ [o]):=by
 have nep:∀i,i < a.n->a.m i≠p:=λi hi q=>s.tr i hi (by rw [q];exact h)
 have old:∀i,i < a.n->(a.push p ho).m i=a.m i:=λi hi=>by show (if i=a.n then p else a.m i)=_;rw [if_neg (zE hi)]
 have new:(a.push p ho).m a.n=p:=by show (if a.n=a.n then p else a.m a.n)=_;rw [if_pos rfl]
 refine ⟨by simp [s.len,Wd.push],λi j hi hj e=> ?_,λi u e=> ?_,λi hi=> ?_⟩
 ·have hi':i < a.n + 1:=hi;have hj':j < a.n + 1:=hj;by_cases h1:i < a.n
  ·by_cases h2:j < a.n
   ·rw [old i h1,old j h2] at e;exact s.inj i j h1 h2 e
   ·have:j=a.n:=by lia
    subst this;rw [old i h1,new] at e;exact absurd e (nep i h1)
  ·have:i=a.n:=by lia
   subst this;by_cases h2:j < a.n
   ·rw [old j h2,new] at e;exact absurd e.symm (nep j h2)
   ·lia
 ·by_cases h1:i < a.n
  ·rw [zI (by rw [s.len];exact h1)] at e;rw [old i h1];show ORep _ u (upd a.H p ho (a.m i));rw [Bd (nep i h1)];exact (s.obj i u e).mono (Ext.push h)
  ·have hl:i < (G++ [o]).length:=(zF.mp e).1;have:i=a.n:=by rw [zU,s.len] at hl;simp at hl;lia
   subst this;rw [zM (by rw [s.len];exact zW _),s.len] at e;simp at e;subst e;rw [new];show ORep _ o (upd a.H p ho p);rw [Ha];exact r
 ·have hi':i < a.n + 1:=hi;by_cases h1:i < a.n
  ·rw [old i h1];show upd a.H p ho (a.m i)≠none;rw [Bd (nep i h1)];exact s.tr i h1
  ·have:i=a.n:=by lia
   subst this;rw [new];show upd a.H p ho p≠none;rw [Ha];simp
theorem Ext.wr (h:a.H p=some (.lst vs)):Ext a (a.put p ho):=
 ⟨rfl,zW _,λ_ _=>rfl,λq xs e=>by
  show upd a.H p ho q=_;rw [Bd (λz=>by subst z;rw [h] at e;cases e)];exact e,λq o u e=>by
  show upd a.H p ho q=_;rw [Bd (λz=>by subst z;rw [h] at e;cases e)];exact e,λ_ t=>t.mono (λq ps e=>by show upd a.H p ho q=_;rw [Bd (λz=>by subst z;rw [h] at e;cases e)];exact e) (λq o u e=>by show upd a.H p ho q=_;rw [Bd (λz=>by subst z;rw [h] at e;cases e)];exact e)⟩
theorem Sim.wr (s:Sim a G) (hi:i < a.n) {vs':List V} {ds':List D} (h:a.H (a.m i)=some (.lst vs)) (r:Reps (a.put (a.m i) (.lst vs')) ds' vs'):Sim (a.put (a.m i) (.lst vs')) (G.set i (.lst ds')):=by
 refine ⟨by rw [jB];exact s.len,s.inj,λj o e=> ?_,λj hj=> ?_⟩
 ·rw [jK] at e;show ORep _ o (upd a.H (a.m i) (.lst vs') (a.m j));by_cases hij:i=j
  ·subst hij;rw [if_pos rfl,if_pos (by rw [s.len];exact hi)] at e;cases e;rw [Ha];exact ⟨vs',rfl,r⟩
  ·rw [if_neg hij] at e;rw [Bd λz=>hij (s.inj _ _ (s.lt e) hi z).symm];exact (s.obj j o e).mono (Ext.wr h)
 ·show upd a.H (a.m i) (.lst vs') (a.m j)≠none;by_cases hij:a.m j=a.m i
  ·rw [hij,Ha];simp
  ·rw [Bd hij];exact s.tr j hj
mutual
noncomputable def bel (n:Nat):D->Bool
 | .ref i=>decide (i < n)
 | .tup ds=>bels n ds
 | .fl ds=>bels n ds
 | _=>true
noncomputable def bels (n:Nat):List D->Bool
 | []=>true
 | d::ds=>bel n d && bels n ds
end
noncomputable def O5 (n:Nat):DO->Bool
 | .lst ds=>bels n ds
 | .dct kvs=>bels n (kvs.map (·.2))
 | .ins _ fs=>bels n (fs.map (·.2))
 | .tab _ _=>true
 | .gone=>true
mutual
theorem Rep.bel:∀{d:D} {v:V},Rep a d v->bel a.n d=true
 | .non,_,_=>by simp [DL.bel]
 | .bl _,_,_=>by simp [DL.bel]
 | .int _,_,_=>by simp [DL.bel]
 | .str _,_,_=>by simp [DL.bel]
 | .ty _,_,_=>by simp [DL.bel]
 | .tup ds,v,h=>by obtain ⟨p,vs,e,q,r⟩:=h;simp only [DL.bel];exact Reps.bels r
 | .fl ds,v,h=>by obtain ⟨p,vs,e,q,r⟩:=h;simp only [DL.bel];exact Reps.bels r
 | .ref i,v,h=>by obtain ⟨l,e⟩:=h;simp only [DL.bel];exact decide_eq_true l
theorem Reps.bels:∀{ds:List D} {vs:List V},Reps a ds vs->bels a.n ds=true
 | [],_,_=>by simp [DL.bels]
 | d::ds,vs,h=>by
  obtain ⟨v,r,e,h1,h2⟩:=h;simp only [DL.bels];rw [Rep.bel h1,Reps.bels h2]
  rfl
end
structure Cut (b c:Wd):Prop where
 k:c.K=b.K
 h:c.H=b.H
mutual
theorem Rep.cut {c:Wd} (x:Cut b c) {n:Nat} (hn:n<=c.n) (hm:∀i,i < n->c.m i=b.m i):∀{d:D} {v:V},Rep b d v->bel n d=true->Rep c d v
 | .non,_,h,_=>h
 | .bl _,_,h,_=>h
 | .int _,_,h,_=>h
 | .str _,_,h,_=>h
 | .ty _,_,h,_=>h
 | .tup ds,v,h,q=>by obtain ⟨p,vs,e,t,r⟩:=h;simp only [DL.bel] at q;exact ⟨p,vs,e,by rw [x.k,x.h];exact t,Reps.cut x hn hm r q⟩
 | .fl ds,v,h,q=>by obtain ⟨p,vs,e,t,r⟩:=h;simp only [DL.bel] at q;exact ⟨p,vs,e,by rw [x.k,x.h];exact t,Reps.cut x hn hm r q⟩
 | .ref i,v,h,q=>by obtain ⟨l,e⟩:=h;simp only [DL.bel] at q;have q':=of_decide_eq_true q;exact ⟨zq q' hn,by rw [hm i q'];exact e⟩
theorem Reps.cut {c:Wd} (x:Cut b c) {n:Nat} (hn:n<=c.n) (hm:∀i,i < n->c.m i=b.m i):∀{ds:List D} {vs:List V},Reps b ds vs->bels n ds=true->Reps c ds vs
 | [],_,h,_=>h
 | d::ds,vs,h,q=>by obtain ⟨v,r,e,h1,h2⟩:=h;simp only [DL.bels,zC] at q;exact ⟨v,r,e,Rep.cut x hn hm h1 q.1,Reps.cut x hn hm h2 q.2⟩
end
theorem ORep.cut {c:Wd} (x:Cut b c) {n:Nat} (hn:n<=c.n) (hm:∀i,i < n->c.m i=b.m i) {q:Option HO} (h:ORep b o q) (l:O5 n o=true):ORep c o q:=by
 cases o with
 | lst ds=>obtain ⟨vs,e,r⟩:=h;exact ⟨vs,e,Reps.cut x hn hm r l⟩
 | dct kvs=>obtain ⟨us,e,k,r⟩:=h;exact ⟨us,e,k,Reps.cut x hn hm r l⟩
 | ins c fs=>obtain ⟨C,dx,us,n,e,k,r⟩:=h;exact ⟨C,dx,us,by rw [x.k];exact n,e,k,Reps.cut x hn hm r l⟩
 | tab C m=>obtain ⟨c,P,e,t⟩:=h;exact ⟨c,P,by rw [x.k];exact e,by rw [x.h];exact t⟩
 | gone=>trivial
theorem ORep.O5 {q:Option HO} (h:ORep a o q):O5 a.n o=true:=by
 cases o with
 | lst ds=>obtain ⟨vs,e,r⟩:=h;exact r.bels
 | dct kvs=>obtain ⟨us,e,k,r⟩:=h;exact r.bels
 | ins c fs=>obtain ⟨C,dx,us,n,e,k,r⟩:=h;exact r.bels
 | tab C m=>rfl
 | gone=>rfl
open Classical in
noncomputable def tidy (G:DH) (r:R D):R D:=match r with
 | .ok d G'=>if G'.take G.length=G then
   (if bel G.length d=true then .ok d G else match d with
    | .ref i=>match G'[i]? with
     | some o=>if O5 G.length o=true then .ok (.ref G.length) (G++ [o]) else .ok d G'
     | none=>.ok d G'
    | _=>.ok d G') else .ok d G'
 | r=>r
theorem ZFd (s:Sim a G) (h:out E a (tidy G r) Q):out E a r Q:=by
 cases r with
 | err e G'=>exact h
 | bad=>exact h
 | ok d G'=>
  intro b v x sb rb;unfold tidy at h;dsimp only at h;split at h
  ·rename_i hG;have hlen:∀i o,G[i]? =some o->G'[i]? =some o:=λi o e=>by have hi:i < G.length:=(zF.mp e).1;rw [<-hG,jv hi] at e;exact e
   have base:∀(c:Wd),Cut b c->a.n<=c.n->(∀i,i < a.n->c.m i=b.m i)->∀i o,G[i]? =some o->ORep c o (c.H (c.m i)):=λc cc hn hm i o e=>by have q:=sb.obj i o (hlen i o e);rw [cc.h,hm i (s.lt e)];exact q.cut cc hn hm (s.obj i o e).O5
   split at h
   ·rename_i hb;rw [s.len] at hb;let c:Wd:=⟨b.K,a.n,b.m,b.H⟩;have cc:Cut b c:=⟨rfl,rfl⟩;refine h c v ⟨x.k,zW _,x.m,x.tup,x.frz,x.tab⟩ ⟨s.len,λi j hi hj=>sb.inj i j (zq hi x.n) (zq hj x.n),base c cc (zW _) (λ_ _=>rfl),λi hi=>sb.tr i (zq hi x.n)⟩ ?_;exact rb.cut cc (zW _) (λ_ _=>rfl) hb
   ·rename_i hb;split at h
    ·rename_i i;obtain ⟨il,iv⟩:=rb;split at h
     ·rename_i o ho;split at h
      ·rename_i hbo;rw [s.len] at hbo hb h;simp only [DL.bel,decide_eq_true_eq] at hb;let c:Wd:=⟨b.K,a.n + 1,λk=>if k=a.n then b.m i else b.m k,b.H⟩;have cc:Cut b c:=⟨rfl,rfl⟩;have cm:∀j,j < a.n->c.m j=b.m j:=λj hj=>by show (if j=a.n then b.m i else b.m j)=_;rw [if_neg (zE hj)]
       have cn:c.m a.n=b.m i:=by show (if a.n=a.n then b.m i else b.m a.n)=_;rw [if_pos rfl]
       have lt':∀j,j < a.n->j < b.n:=λj hj=>zq hj x.n
       refine h c v ⟨x.k,j3 _,λj hj=>(cm j hj).trans (x.m j hj),x.tup,x.frz,x.tab⟩ ⟨by simp [s.len,c],λj k hj hk e=> ?_,λj u e=> ?_,λj hj=> ?_⟩ ⟨qq _,by rw [cn];exact iv⟩
       ·have hj':j < a.n + 1:=hj;have hk':k < a.n + 1:=hk;by_cases h1:j < a.n
        ·by_cases h2:k < a.n
         ·rw [cm j h1,cm k h2] at e;exact sb.inj j k (lt' j h1) (lt' k h2) e
         ·have:k=a.n:=by lia
          subst this;rw [cm j h1,cn] at e;have:=sb.inj j i (lt' j h1) il e;lia
        ·have:j=a.n:=by lia
         subst this;by_cases h2:k < a.n
         ·rw [cm k h2,cn] at e;have:=sb.inj i k il (lt' k h2) e;lia
         ·lia
       ·by_cases h1:j < a.n
        ·rw [zI (by rw [s.len];exact h1)] at e;exact base c cc (j3 _) cm j u e
        ·have hl:j < (G++ [o]).length:=(zF.mp e).1;have:j=a.n:=by rw [zU,s.len] at hl;simp at hl;lia
         subst this;rw [zM (by rw [s.len];exact zW _),s.len] at e;simp at e;subst e;rw [cn];exact (sb.obj i o ho).cut cc (j3 _) cm hbo
       ·have hj':j < a.n + 1:=hj;by_cases h1:j < a.n
        ·rw [cm j h1];exact sb.tr j (lt' j h1)
        ·have:j=a.n:=by lia
         subst this;rw [cn];exact sb.tr i il
      ·exact h b v x sb ⟨il,iv⟩
     ·exact h b v x sb ⟨il,iv⟩
    ·exact h b v x sb rb
  ·exact h b v x sb rb
end
def dV (i:Nat):DE:=λS G=>match S[i]? with
 | some (some d)=>.ok d G
 | _=>.bad
def dC (d:D):DE:=λ_ G=>.ok d G
noncomputable def dOp (f:D->D->DH->R D) (a b:DE):DE:=λS G=>(a S G).bind λx G1=>(b S G1).bind λy G2=>f x y G2
def dUn (f:D->DH->R D) (a:DE):DE:=λS G=>(a S G).bind f
def Ad:DA:=λ_ G=>.ok [] G
noncomputable def Ab (a:DE) (r:DA):DA:=λS G=>(a S G).bind λx G1=>(r S G1).bind λxs G2=>.ok (x::xs) G2
def dFn (f:List D->DH->R D) (t:DA):DE:=λS G=>(t S G).bind f
def Eh (t:DE):DE:=λS G=>tidy G (t S G)
def asB:D->DH->R Bool
 | .bl k,G=>.ok k G
 | _,_=>.bad
def Ay (t:DE):DB:=λS G=>(t S G).bind asB
noncomputable def Kp (t u:DB):DB:=λS G=>(t S G).bind λk G1=>if k=true then u S G1 else .ok false G1
noncomputable def dOr (t u:DB):DB:=λS G=>(t S G).bind λk G1=>if k=true then .ok true G1 else u S G1
def K7 (t:DB):DB:=λS G=>(t S G).bind λk G1=>.ok (!k) G1
noncomputable def Mq (t u:DE):DE:=λS G=>(t S G).bind λx G1=>(asB x G1).bind λk G2=>if k=true then u S G2 else .ok (.bl false) G2
noncomputable def Yq (t u:DE):DE:=λS G=>(t S G).bind λx G1=>(asB x G1).bind λk G2=>if k=true then .ok (.bl true) G2 else u S G2
noncomputable def My (t:DE):DE:=λS G=>(t S G).bind λx G1=>(asB x G1).bind λk G2=>.ok (.bl (!k)) G2
noncomputable def dIf (c:DB) (t u:DE):DE:=λS G=>(c S G).bind λk G1=>if k=true then t S G1 else u S G1
noncomputable def Xq (f g:D->D->DH->R D) (a b c:DE):DE:=λS G=>(a S G).bind λx G1=>(b S G1).bind λy G2=>(f x y G2).bind λz G3=>(asB z G3).bind λk G4=>
 if k=true then (c S G4).bind λw G5=>g y w G5 else .ok (.bl false) G4
noncomputable def Bw (ds:List D) (G:DH):R D:=if ds.length<=1000000 then .ok (.tup ds) G else .bad
noncomputable def Av (ds:List D) (G:DH):R D:=if ds.length<=1000000 then .ok (.ref G.length) (G++ [.lst ds]) else .bad
noncomputable def By (d:D) (G:DH):Option (List D):=match d with
 | .tup xs=>some xs
 | .fl xs=>some xs
 | .ref i=>match G[i]? with
  | some (.lst xs)=>some xs
  | _=>none
 | _=>none
theorem size6:(1000000:Nat)<=sizeLine:=by decide
section
variable {X:Cx} {E:XK} {a b c:xJ} {ta tb tc:DE} {pos:Pos}
theorem two (h:lE K E (dOp f ta tb) σ H Q):tOp (lR2 K E f) (lE K E ta) (lE K E tb) σ H Q:=by obtain ⟨a,S,G,hk,rfl,s,r,h⟩:=h;refine ⟨a,S,G,hk,rfl,s,r,(Gn h).imp ?_⟩;rintro v _ ⟨b,d,G1,rfl,x,s1,q,_,h1⟩;refine ⟨b,S,G1,x.k.trans hk,rfl,s1,r.mono x,(Gn h1).imp ?_⟩;rintro w _ ⟨c,e,G2,rfl,y,s2,q2,_,h2⟩;exact ⟨c,G2,d,e,y.k.trans (x.k.trans hk),rfl,s2,q.mono y,q2,h2⟩
theorem Aa (i:Nat) {pos:Pos} (hN:X.N[i]? =some x:=by rfl) (hv:Vis X.env.scope x:=by first | exact Or.inl rfl | exact Or.inr (Or.inl rfl) | exact Or.inr (Or.inr rfl)) (hd:(x == ("__debug__":Str))=false:=by decide)
  (hcd:(x == ("__classdict__":Str))=false:=by decide):QE X E (.Name x pos) (dV i):=by
 refine (ZQy hN hv hd hcd).mono λσ H Q h=> ?_
 obtain ⟨a,S,G,hk,rfl,s,r,h⟩:=h;unfold dV at h;split at h
 ·rename_i d e;obtain ⟨v,e',q⟩:=r.get i d e;exact ⟨v,e',h a v (Ext.refl a) s q⟩
 ·exact h.elim
theorem Q7 (h:lE K E (dC d) σ H Q) (r:∀a:Wd,a.K=K->Rep a d v):Q v H:=by obtain ⟨a,S,G,hk,rfl,s,_,h⟩:=h;exact h a v (Ext.refl a) s (r a hk)
theorem Ae {i:Int} :QE X E (.Constant (.int i) j pos) (dC (.int i)):=ZPE.mono λσ H Q h=>Q7 h λ_ _=>rfl
theorem Nj {i:Bool} :QE X E (.Constant (.bool i) j pos) (dC (.bl i)):=ZK6.mono λσ H Q h=>Q7 h λ_ _=>rfl
theorem Et:QE X E (.Constant .none j pos) (dC .non):=ZLb.mono λσ H Q h=>Q7 h λ_ _=>rfl
theorem Fy {i:Str} :QE X E (.Constant (.str i) j pos) (dC (.str i)):=ZNJ.mono λσ H Q h=>Q7 h λ_ _=>rfl
theorem Cz {u:xz} (hg:Gl X x) (hm:X.mg x=some u) (r:RelV v u) (rd:∀a:Wd,a.K=X.K->Rep a d v) (hd:(x == ("__debug__":Str))=false:=by decide):QE X E (.Name x pos) (dC d):=
 (ZLc hg hm r hd).mono λσ H Q h=>Q7 h rd
theorem Ag {op:Operator} (ho:OpR X (xA op) (lR2 X.K E f)) (ha:QE X E a ta) (hb:QE X E b tb):QE X E (.BinOp a op b pos) (dOp f ta tb):=
 (ZOJ ho ha hb).mono λ_ _ _ h=>two h
theorem Ig {op:CmpOp} (ho:OpR X (xD op) (lR2 X.K E f)) (ha:QE X E a ta) (hb:QE X E b tb) (hm:x0 op b=false):QE X E (.Compare a [op] [b] pos) (dOp f ta tb):=
 (ZOw ho ha hb hm).mono λ_ _ _ h=>two h
theorem ZAR {Q:Bool->Hp->Prop} (h:lB K E (Ay t) σ H Q):Sy (lE K E t) σ H Q:=by
 obtain ⟨a,S,G,hk,rfl,s,r,h⟩:=h;refine ⟨a,S,G,hk,rfl,s,r,(ZRo h).imp ?_⟩;rintro v _ ⟨b,d,G1,rfl,x,s1,q,_,h1⟩;cases d with
 | bl k=>exact ⟨k,q,h1 b (Ext.refl b) s1⟩
 | _=>exact h1.elim
theorem ZD8 {t t':TE} (w:∀σ H Q,t' σ H Q->t σ H Q) (σ:St) (H:Hp) (Q:Bool->Hp->Prop) (h:Sy t' σ H Q):Sy t σ H Q:=w _ _ _ h
theorem Bm {op:CmpOp} (ho:OpR X (xD op) (lR2 X.K E f)) (ha:QE X E a ta) (hb:QE X E b tb) (hm:x0 op b=false):QT X E (.Compare a [op] [b] pos) (Ay (dOp f ta tb)):=
 (ZLR ho ha hb hm).mono λσ H Q h=>ZD8 (λ_ _ _ z=>two z) σ H Q (ZAR h)
theorem chain {g:D->D->DH->R D} (h:lE K E (Xq f g ta tb tc) σ H Q):ZIp (lR2 K E f) (lR2 K E g) (lE K E ta) (lE K E tb) (lE K E tc) σ H Q:=by
 obtain ⟨a,S,G,hk,rfl,s,r,h⟩:=h;refine ⟨a,S,G,hk,rfl,s,r,(Gn h).imp ?_⟩;rintro v _ ⟨b,d,G1,rfl,x,s1,q,_,h1⟩;refine ⟨b,S,G1,x.k.trans hk,rfl,s1,r.mono x,(Gn h1).imp ?_⟩;rintro w _ ⟨c,e,G2,rfl,y,s2,q2,_,h2⟩;refine ⟨c,G2,d,e,y.k.trans (x.k.trans hk),rfl,s2,q.mono y,q2,(Gn h2).imp ?_⟩;rintro z _ ⟨c3,e3,G3,rfl,y3,s3,q3,_,h3⟩;cases e3 with
 | bl k=>
  refine ⟨k,q3,?_⟩;cases k with
  | false=>exact h3 c3 (.bl false) (Ext.refl _) s3 rfl
  | true=>
   refine ⟨c3,S,G3,(y3.k.trans (y.k.trans (x.k.trans hk))),rfl,s3,((r.mono x).mono y).mono y3,(Gn h3).imp ?_⟩;rintro z4 _ ⟨c4,e4,G4,rfl,y4,s4,q4,_,h4⟩;exact ⟨c4,G4,e,e4,y4.k.trans (y3.k.trans (y.k.trans (x.k.trans hk))),rfl,s4,(q2.mono y3).mono y4,q4,h4⟩
 | _=>exact h3.elim
theorem ZQj {op op':CmpOp} {g:D->D->DH->R D} (ho:OpR X (xD op) (lR2 X.K E f)) (ho':OpR X (xD op') (lR2 X.K E g)) (ha:QE X E a ta) (hb:QE X E b tb) (hc:QE X E c tc)
  (hm:lastMarks [op,op'] [b,c]=false:=by with_unfolding_all rfl):QT X E (.Compare a [op,op'] [b,c] pos) (Ay (Xq f g ta tb tc)):=
 (ZL6 ho ho' ha hb hc hm).mono λσ H Q h=>ZD8 (λ_ _ _ z=>chain z) σ H Q (ZAR h)
theorem Gu (ha:QE X E a ta) (he:∀whole,isTrue a X.env whole=(do let v<-whole;standAt a.pos;holding [v] (truthy v)):=by intro _;rfl):QT X E a (Ay ta):=
 (ZLB ha he).mono λσ H Q h=>ZAR h
theorem Fl (ha:QE X E a ta):QE X E a (Eh ta):=L2.PE.mono ha λσ H Q h=>by obtain ⟨w,S,G,hk,rfl,s,r,h⟩:=h;exact ⟨w,S,G,hk,rfl,s,r,ZFd s h⟩
def QW (X:Cx) (E:XK) (e:xJ) (t:DB):Prop:=PW X e (lB X.K E t)
theorem _root_.L2.PW.mono {t t':TT} (h:PW X e t) (w:∀σ H Q,t' σ H Q->t σ H Q):PW X e t':=λwh v8 s σ H Q I q=>h wh v8 s σ H Q I (w σ H Q q)
variable {u t:DB} {rest:List xJ}
theorem ZRH {Q:Bool->Hp->Prop} (h:lB K E (Kp t u) σ H Q):tAnd (lB K E t) (lB K E u) σ H Q:=by
 obtain ⟨a,S,G,hk,rfl,s,r,h⟩:=h;refine ⟨a,S,G,hk,rfl,s,r,(ZDq h).imp ?_⟩;rintro k _ ⟨b,G1,rfl,x,s1,_,h1⟩;cases k with
 | true=>exact ⟨b,S,G1,x.k.trans hk,rfl,s1,r.mono x,h1⟩
 | false=>exact h1 b (Ext.refl b) s1
theorem ZLL {Q:Bool->Hp->Prop} (h:lB K E (dOr t u) σ H Q):tOr (lB K E t) (lB K E u) σ H Q:=by
 obtain ⟨a,S,G,hk,rfl,s,r,h⟩:=h;refine ⟨a,S,G,hk,rfl,s,r,(ZDq h).imp ?_⟩;rintro k _ ⟨b,G1,rfl,x,s1,_,h1⟩;cases k with
 | true=>exact h1 b (Ext.refl b) s1
 | false=>exact ⟨b,S,G1,x.k.trans hk,rfl,s1,r.mono x,h1⟩
theorem Ss (ha:QT X E a t):QW X E (.BoolOp .And [a] pos) t:=pw_and1 ha
theorem Kv (ha:QT X E a t):QW X E (.BoolOp .Or [a] pos) t:=pw_or1 ha
theorem Pu (ha:QT X E a t) (hb:QW X E (.BoolOp .And (b::rest) pos) u):QW X E (.BoolOp .And (a::b::rest) pos) (Kp t u):=(pw_and ha hb).mono λ_ _ _ h=>ZRH h
theorem J8 (ha:QT X E a t) (hb:QW X E (.BoolOp .Or (b::rest) pos) u):QW X E (.BoolOp .Or (a::b::rest) pos) (dOr t u):=(pw_or ha hb).mono λ_ _ _ h=>ZLL h
theorem Hi (h:QW X E a t):QT X E a t:=L2.PW.pt h
theorem Mz (ha:QT X E a t):QT X E (.UnaryOp .Not a pos) (K7 t):=(ZQ3 ha).mono λσ H Q h=>by obtain ⟨a,S,G,hk,rfl,s,r,h⟩:=h;refine ⟨a,S,G,hk,rfl,s,r,(ZDq h).imp ?_⟩;rintro k _ ⟨b,G1,rfl,x,s1,_,h1⟩;exact h1 b (Ext.refl b) s1
theorem Ny {op} (h:QE X E a ta):QE X E (.BoolOp op [a] pos) ta:=ZKM h
theorem Q4 (ha:QE X E a ta) (hb:QE X E (.BoolOp .And (b::rest) pos) tb):QE X E (.BoolOp .And (a::b::rest) pos) (Mq ta tb):=(ZMR ha hb).mono λσ H Q h=>by
 obtain ⟨a,S,G,hk,rfl,s,r,h⟩:=h;refine ⟨a,S,G,hk,rfl,s,r,(Gn h).imp ?_⟩;rintro v _ ⟨b,d,G1,rfl,x,s1,q,_,h1⟩;cases d with
 | bl k=>
  refine ⟨k,q,?_⟩;cases k with
  | true=>exact ⟨b,S,G1,x.k.trans hk,rfl,s1,r.mono x,h1⟩
  | false=>exact h1 b _ (Ext.refl b) s1 rfl
 | _=>exact h1.elim
theorem ZIl (ha:QE X E a ta) (hb:QE X E (.BoolOp .Or (b::rest) pos) tb):QE X E (.BoolOp .Or (a::b::rest) pos) (Yq ta tb):=(ZKv ha hb).mono λσ H Q h=>by
 obtain ⟨a,S,G,hk,rfl,s,r,h⟩:=h;refine ⟨a,S,G,hk,rfl,s,r,(Gn h).imp ?_⟩;rintro v _ ⟨b,d,G1,rfl,x,s1,q,_,h1⟩;cases d with
 | bl k=>
  refine ⟨k,q,?_⟩;cases k with
  | false=>exact ⟨b,S,G1,x.k.trans hk,rfl,s1,r.mono x,h1⟩
  | true=>exact h1 b _ (Ext.refl b) s1 rfl
 | _=>exact h1.elim
theorem ZGx (ha:QE X E a ta):QE X E (.UnaryOp .Not a pos) (My ta):=(ZMg ha).mono λσ H Q h=>by
 obtain ⟨a,S,G,hk,rfl,s,r,h⟩:=h;refine ⟨a,S,G,hk,rfl,s,r,(Gn h).imp ?_⟩;rintro v _ ⟨b,d,G1,rfl,x,s1,q,_,h1⟩;cases d with
 | bl k=>exact ⟨k,q,h1 b _ (Ext.refl b) s1 rfl⟩
 | _=>exact h1.elim
theorem ZOY (hc:QT X E c t) (ha:QE X E a ta) (hb:QE X E b tb):QE X E (.IfExp c a b pos) (dIf t ta tb):=(ZNn hc ha hb).mono λσ H Q h=>by
 obtain ⟨a,S,G,hk,rfl,s,r,h⟩:=h;refine ⟨a,S,G,hk,rfl,s,r,(ZFj h).imp ?_⟩;rintro k _ ⟨b,G1,rfl,x,s1,_,h1⟩;cases k with
 | true=>exact ⟨b,S,G1,x.k.trans hk,rfl,s1,r.mono x,h1⟩
 | false=>exact ⟨b,S,G1,x.k.trans hk,rfl,s1,r.mono x,h1⟩
variable {es:List xJ} {tr:DA}
theorem Af:QA X E [] Ad:=ZOD.mono λσ H Q h=>by obtain ⟨a,S,G,hk,rfl,s,r,h⟩:=h;exact h a [] (Ext.refl a) s rfl
def notStar:xJ->Bool
 | .Starred _ _=>false
 | _=>true
theorem Np (a:xJ) (es:List xJ) (env:Env) (h:notStar a=true):vQ (a::es) env=(false,eval a env)::vQ es env:=by
 cases a <;> first
  | exact absurd h zx
  | rfl
theorem Qu (pos:Pos) (env:Env):∀es:List xJ,es.all notStar=true->(xy pos (vQ es env)).any (·.1)=false
 | [],_=>rfl
 | a::es,h=>by
  rw [qL,zC] at h;rw [Np a es env h.1];have ih:=Qu pos env es h.2;unfold xy at ih ⊢;rw [zA,List.any_cons,ih]
  rfl
theorem Ac (ha:QE X E a ta) (hr:QA X E es tr) (hs:notStar a=true:=by rfl):QA X E (a::es) (Ab ta tr):=(ZQn ha hr (Np a es X.env hs)).mono λσ H Q h=>by obtain ⟨a,S,G,hk,rfl,s,r,h⟩:=h;refine ⟨a,S,G,hk,rfl,s,r,(ZQb h).imp ?_⟩;rintro v _ ⟨b,d,G1,rfl,x,s1,q,_,h1⟩;refine ⟨b,S,G1,x.k.trans hk,rfl,s1,r.mono x,(ZPs h1).imp ?_⟩;rintro vs _ ⟨c,ds,G2,rfl,y,s2,q2,_,h2⟩;exact h2 c _ (Ext.refl c) s2 (Reps.cons (q.mono y) q2)
theorem Fi {x1} (h:QA X E es tr):QE X E (.Tuple es x1 pos) (dFn Bw tr):=(ZKJ h).mono λσ H Q h=>by
 obtain ⟨a,S,G,hk,rfl,s,r,h⟩:=h;refine ⟨a,S,G,hk,rfl,s,r,(Nx h).imp ?_⟩;rintro vs _ ⟨b,ds,G1,rfl,x,s1,q,_,h1⟩;unfold Bw at h1;split at h1
 ·rename_i hl;refine ⟨by rw [<-q.length];exact zD hl size6,λp hp=> ?_⟩;exact h1 (b.put p (.tup vs)) (.ref p) (Ext.put hp) (s1.put hp) ⟨p,vs,rfl,.of Ha,q.mono (Ext.put hp)⟩
 ·exact h1.elim
theorem Ez (h:QA X E es tr):QE X E (.List es pos) (dFn Av tr):=(ZPX h).mono λσ H Q h=>by
 obtain ⟨a,S,G,hk,rfl,s,r,h⟩:=h;refine ⟨a,S,G,hk,rfl,s,r,(Nx h).imp ?_⟩;rintro vs _ ⟨b,ds,G1,rfl,x,s1,q,_,h1⟩;unfold Av at h1;split at h1
 ·rename_i hl;refine ⟨by rw [<-q.length];exact zD hl size6,λp hp=> ?_⟩;refine h1 (b.push p (.lst vs)) (.ref p) (Ext.push hp) (s1.push hp ⟨vs,rfl,q.mono (Ext.push hp)⟩) ⟨?_,?_⟩
  ·rw [s1.len];exact qq _
  ·rw [s1.len];show V.ref p=.ref (if b.n=b.n then p else b.m b.n);rw [if_pos rfl]
 ·exact h1.elim
variable {e:xJ} {x:Str} {p:Pos}
theorem ZDA {f:List D->DH->R D} (h:lE K E (dFn f tr) σ H Q):lA K E tr σ H (λvs H1=>lRn K E f vs H1 Q):=by obtain ⟨a,S,G,hk,rfl,s,r,h⟩:=h;refine ⟨a,S,G,hk,rfl,s,r,(Nx h).imp ?_⟩;rintro vs _ ⟨b,ds,G1,rfl,x,s1,q,_,h1⟩;exact ⟨b,G1,ds,x.k.trans hk,rfl,s1,q,h1⟩
theorem Cp {id:String} {f:List D->DH->R D} (hc:CallR X (.builtin id) (lRn X.K E f)) (hg:Gl X x) (hm:X.mg x=none) (hv:xB x=some (.builtin id)) (ha:QA X E (e::es) tr) (hn:x≠"__name__":=by decide) (hdb:(x == ("__debug__":Str))=false:=by decide)
  (he:notStar e=true:=by rfl) (hpl:es.all notStar=true:=by rfl):QE X E (.Call (.Name x p) (e::es) [] pos) (dFn f tr):=
 (ZN2 hc hg hm hv ha hn hdb (Np e es X.env he) (Qu pos X.env es hpl)).mono λσ H Q h=>ZDA h
theorem Ho {id:String} {f:List D->DH->R D} (hc:CallR X (.type id) (lRn X.K E f)) (hg:Gl X x) (hm:X.mg x=none) (hv:xB x=some (.type id)) (ha:QA X E (e::es) tr) (hn:x≠"__name__":=by decide) (hdb:(x == ("__debug__":Str))=false:=by decide)
  (he:notStar e=true:=by rfl) (hpl:es.all notStar=true:=by rfl):QE X E (.Call (.Name x p) (e::es) [] pos) (dFn f tr):=
 (ZPh hc hg hm hv ha hn hdb (Np e es X.env he) (Qu pos X.env es hpl)).mono λσ H Q h=>ZDA h
theorem Aw {CX:CXT} {f:xQ} {fd:xX} {ps:List Str} {F:List D->DH->R D} (FF:FnOk X.prog X.w X.K X.mg X.base CX k f fd ps (lF X.K F)) (hr:Room k X.A) (hg:Gl X x) (hm:X.mg x=some (.ref f)) (hk:PySem.W.keepIn X.K (.ref f)=true) (hb:Binds X.K fd ps [])
  (hx:Passes CX X E) (ha:QA X E (e::es) tr) (hdb:(x == ("__debug__":Str))=false:=by decide) (he:notStar e=true:=by rfl) (hpl:es.all notStar=true:=by rfl):
  QE X E (.Call (.Name x p) (e::es) [] pos) (dFn F tr):=
 (ZNm FF hr hg hm hk hb .nil hx ha hdb (Np e es X.env he) (Qu pos X.env es hpl)).mono λσ H Q h=>by obtain ⟨a,S,G,hk,rfl,s,r,h⟩:=ZDA h;refine ⟨a,S,G,hk,rfl,s,r,h.imp ?_⟩;rintro vs _ ⟨b,G1,ds,hk,rfl,s1,q,h1⟩;exact ⟨b,G1,ds,hk,rfl,s1,by rw [jX];exact q,h1⟩
theorem Ak (hr:IxR X (lR2 X.K E f)) (ha:QE X E a ta) (hb:QE X E b tb) (hs:PlainIx b:=by intro _ _;rfl):QE X E (.Subscript a b pos) (dOp f ta tb):=
 (ZQv hr ha hb hs).mono λ_ _ _ h=>two h
end
instance (i j:Int):Decidable (CMul i j):=by unfold CMul;infer_instance
instance (i j:Int):Decidable (CPow i j):=by unfold CPow;infer_instance
def CDivL (j:Int):Prop:=0 < j/\j.natAbs.log2 < 9000
instance (j:Int):Decidable (CDivL j):=by unfold CDivL;infer_instance
def Fq:D->D->DH->R D
 | .int i,.int j,G=>.ok (.int (i - j)) G
 | _,_,_=>.bad
noncomputable def Cy:D->D->DH->R D
 | .int i,.int j,G=>if CDivL j then .ok (.int (i / j)) G else .bad
 | _,_,_=>.bad
noncomputable def Be:D->D->DH->R D
 | .int i,.int j,G=>if 0 < j then .ok (.int (i % j)) G else .bad
 | _,_,_=>.bad
noncomputable def Jg:D->D->DH->R D
 | .int i,.int j,G=>if CPow i j then .ok (.int (i ^ j.toNat)) G else .bad
 | _,_,_=>.bad
noncomputable def Iv:D->D->DH->R D
 | .int i,.int j,G=>.ok (.bl (decide (i < j))) G
 | .str i,.str j,G=>.ok (.bl (decide (i.cps.toList < j.cps.toList))) G
 | _,_,_=>.bad
noncomputable def Zr:D->D->DH->R D
 | .int i,.int j,G=>.ok (.bl (decide (i<=j))) G
 | .str i,.str j,G=>.ok (.bl (!decide (j.cps.toList < i.cps.toList))) G
 | _,_,_=>.bad
noncomputable def Ko:D->D->DH->R D
 | .int i,.int j,G=>.ok (.bl (decide (j < i))) G
 | .str i,.str j,G=>.ok (.bl (decide (j.cps.toList < i.cps.toList))) G
 | _,_,_=>.bad
noncomputable def Wb:D->D->DH->R D
 | .int i,.int j,G=>.ok (.bl (decide (j<=i))) G
 | .str i,.str j,G=>.ok (.bl (!decide (i.cps.toList < j.cps.toList))) G
 | _,_,_=>.bad
noncomputable def J7 (d:D) (G:DH):Option (List D):=match d with
 | .fl xs=>some xs
 | .ref i=>match G[i]? with
  | some (.lst xs)=>some xs
  | _=>none
 | _=>none
noncomputable def Ba:D->D->DH->R D
 | .int i,.int j,G=>.ok (.int (i + j)) G
 | .str i,.str j,G=>if i.length + j.length<=1000000 then .ok (.str (i++j)) G else .bad
 | .tup xs,.tup ys,G=>if xs≠ []/\xs.length + ys.length<=1000000 then .ok (.tup (xs++ys)) G else .bad
 | d,e,G=>match J7 d G,J7 e G with
  | some xs,some ys=>if xs.length + ys.length<=1000000 then .ok (.ref G.length) (G++ [.lst (xs++ys)]) else .bad
  | _,_=>.bad
section
variable {X:Cx} {E:XK}
theorem Hv {f:xz->xz->Sem xz} {r:R2} {F:D->D->DH->R D} (ho:OpR X f r)
  (h:∀(a:Wd) (G:DH) (d e:D) (x y:V) (Q:VK),a.K=X.K->Sim a G->Rep a d x->Rep a e y->out E a (F d e G) Q->r x y a.H Q):OpR X f (lR2 X.K E F):=
 ho.mono λx y H Q ⟨a,G,d,e,hk,hH,s,rd,re,q⟩=>by subst hH;exact h a G d e x y Q hk s rd re q
theorem Hm:OpR X (xA .Sub) (lR2 X.K E Fq):=Hv ZOV λa G d e x y Q hk s rd re q=>by
 cases d <;> cases e <;> first
  | exact q.elim
  | exact ⟨_,_,rd,re,q a _ (Ext.refl a) s rfl⟩
theorem ZRf:OpR X (xA .FloorDiv) (rI (λ_ j=>CDivL j) λi j=>.int (i / j)):=opI λi j _ _ _ _ _ hc q=>by have e:i.fdiv j=i / j:=Int.fdiv_eq_ediv_of_nonneg _ (Int.le_of_lt hc.1);refine floordiv_int (by have:=hc.1;lia) (by rw [e];exact q) (.inl (PyProof.noPylong_of_log2 hc.2))
theorem Dt:OpR X (xA .FloorDiv) (lR2 X.K E Cy):=Hv ZRf λa G d e x y Q hk s rd re q=>by
 cases d <;> cases e <;> first
  | exact q.elim
  | (
    rename_i i j;unfold Cy at q;dsimp only at q;split at q
    ·exact ⟨_,_,rd,re,by assumption,q a _ (Ext.refl a) s rfl⟩
    ·exact q.elim)
theorem Bu:OpR X (xA .Mod) (lR2 X.K E Be):=Hv ZOl λa G d e x y Q hk s rd re q=>by
 cases d <;> cases e <;> first
  | exact q.elim
  | (
    rename_i i j;unfold Be at q;dsimp only at q;split at q
    ·exact ⟨_,_,rd,re,by assumption,q a _ (Ext.refl a) s rfl⟩
    ·exact q.elim)
theorem Nk:OpR X (xA .Pow) (lR2 X.K E Jg):=Hv ZMB λa G d e x y Q hk s rd re q=>by
 cases d <;> cases e <;> first
  | exact q.elim
  | (
    rename_i i j;unfold Jg at q;dsimp only at q;split at q
    ·exact ⟨_,_,rd,re,by assumption,q a _ (Ext.refl a) s rfl⟩
    ·exact q.elim)
theorem Jr:OpR X (xD .Lt) (lR2 X.K E Iv):=Hv (ZOg.or ZMH) λa G d e x y Q hk s rd re q=>by
 cases d <;> cases e <;> first
  | exact q.elim
  | exact .inl ⟨_,_,rd,re,q a _ (Ext.refl a) s rfl⟩
  | exact .inr ⟨_,_,rd,re,q a _ (Ext.refl a) s rfl⟩
theorem ZOj:OpR X (xD .LtE) (λx y H Q=>∃i j,x=.str i/\y=.str j/\Q (.bl (!decide (j.cps.toList < i.cps.toList))) H):=by intro v8 s σ H x y v u Q I rx ry h;obtain ⟨i,j,rfl,rfl,q⟩:=h;obtain ⟨t,rfl⟩:=rx;obtain ⟨t',rfl⟩:=ry;exact PySem.P.le_str ⟨.bl _,H,I,rfl,q⟩
theorem ZLq:OpR X (xD .Gt) (λx y H Q=>∃i j,x=.str i/\y=.str j/\Q (.bl (decide (j.cps.toList < i.cps.toList))) H):=by intro v8 s σ H x y v u Q I rx ry h;obtain ⟨i,j,rfl,rfl,q⟩:=h;obtain ⟨t,rfl⟩:=rx;obtain ⟨t',rfl⟩:=ry;exact PySem.P.gt_str ⟨.bl _,H,I,rfl,q⟩
theorem ZNq:OpR X (xD .GtE) (λx y H Q=>∃i j,x=.str i/\y=.str j/\Q (.bl (!decide (i.cps.toList < j.cps.toList))) H):=by intro v8 s σ H x y v u Q I rx ry h;obtain ⟨i,j,rfl,rfl,q⟩:=h;obtain ⟨t,rfl⟩:=rx;obtain ⟨t',rfl⟩:=ry;exact PySem.P.ge_str ⟨.bl _,H,I,rfl,q⟩
theorem o_le:OpR X (xD .LtE) (lR2 X.K E Zr):=Hv (ZRD.or ZOj) λa G d e x y Q hk s rd re q=>by
 cases d <;> cases e <;> first
  | exact q.elim
  | exact .inl ⟨_,_,rd,re,q a _ (Ext.refl a) s rfl⟩
  | exact .inr ⟨_,_,rd,re,q a _ (Ext.refl a) s rfl⟩
theorem M7:OpR X (xD .Gt) (lR2 X.K E Ko):=Hv (ZPn.or ZLq) λa G d e x y Q hk s rd re q=>by
 cases d <;> cases e <;> first
  | exact q.elim
  | exact .inl ⟨_,_,rd,re,q a _ (Ext.refl a) s rfl⟩
  | exact .inr ⟨_,_,rd,re,q a _ (Ext.refl a) s rfl⟩
theorem o_ge:OpR X (xD .GtE) (lR2 X.K E Wb):=Hv (ZLd.or ZNq) λa G d e x y Q hk s rd re q=>by
 cases d <;> cases e <;> first
  | exact q.elim
  | exact .inl ⟨_,_,rd,re,q a _ (Ext.refl a) s rfl⟩
  | exact .inr ⟨_,_,rd,re,q a _ (Ext.refl a) s rfl⟩
theorem Sim.lst (s:Sim a G) (h:G[i]? =some (.lst xs)):∃vs,a.H (a.m i)=some (.lst vs)/\Reps a xs vs:=s.obj i _ h
theorem Mj (s:Sim a G) (r:Reps a ds vs) (h:out E a (.ok (.ref G.length) (G++ [.lst ds])) Q) (p:xQ) (hp:a.H p=none):Q (.ref p) (upd a.H p (.lst vs)):=by
 refine h (a.push p (.lst vs)) (.ref p) (Ext.push hp) (s.push hp ⟨vs,rfl,r.mono (Ext.push hp)⟩) ⟨?_,?_⟩
 ·rw [s.len];exact qq _
 ·rw [s.len];show V.ref p=.ref (if a.n=a.n then p else a.m a.n);rw [if_pos rfl]
theorem ZCv (s:Sim a G) (r:Reps a ds vs) (h:out E a (.ok (.tup ds) G) Q) (p:xQ) (hp:a.H p=none):Q (.ref p) (upd a.H p (.tup vs)):=
 h (a.put p (.tup vs)) (.ref p) (Ext.put hp) (s.put hp) ⟨p,vs,rfl,.of Ha,r.mono (Ext.put hp)⟩
theorem Vc {x:V} (s:Sim a G) (r:Rep a d x) (h:J7 d G=some xs):∃p vs,x=.ref p/\SqL a.K a.H p vs/\Reps a xs vs:=by
 cases d with
 | fl ys=>
  have e:ys=xs:=Option.some.inj h;subst e;obtain ⟨p,vs,e,q,rr⟩:=r;exact ⟨p,vs,e,q.sq,rr⟩
 | ref i=>
  unfold J7 at h;dsimp only at h;split at h
  ·rename_i ys hi;have e:ys=xs:=Option.some.inj h;subst e;obtain ⟨vs,e1,r1⟩:=s.lst hi;exact ⟨a.m i,vs,r.2,.of e1,r1⟩
  ·cases h
 | _=>cases h
noncomputable def ZGR (K:PySem.W.Frag):R2:=λx y H Q=>∃l b xs zs,x=.ref l/\y=.ref b/\SqL K H l xs/\SqL K H b zs/\xs.length + zs.length<=sizeLine/\∀p,H p=none->Q (.ref p) (upd H p (.lst (xs++zs)))
theorem ZQe:OpR X (xA .Add) (ZGR X.K):=by
 intro v8 s σ H x y v u Q I rx ry h;obtain ⟨l,b,xs,zs,rfl,rfl,hH,hB,hz,q⟩:=h;cases rx;cases ry;obtain ⟨its,r,p1,_⟩:=I.list hH;obtain ⟨its2,r2,p2,_⟩:=I.list hB;obtain ⟨⟨cls,dd,data,sl⟩,n,ho,hc,_,hd⟩:=p1;obtain ⟨⟨cls2,dd2,data2,sl2⟩,n2,ho2,hc2,_,hd2⟩:=p2;cases hc;cases hd;cases hc2;cases hd2;have hl:=r.length;have hl2:=r2.length;refine concat_meets ⟨_,ho,rfl⟩ ⟨_,ho2,rfl⟩ noFill_list_add seq_list_add PySem.F.slot_list_add PySem.F.entry_list_add (PySem.F.args_list_add_2 _ _) (list_addW l b its.toArray its2.toArray n n2 dd dd2 sl sl2 (by rw [zY,zY];lia)) ⟨ho,ho2,?_⟩
 have ea:its.toArray++its2.toArray=(its++its2).toArray:=by simp
 rw [ea];exact ⟨.ref _,_,I.lnew (t':=s.toks) (r.append r2) (by rw [zU];lia),rfl,q _ I.fresh⟩
theorem Bg:OpR X (xA .Add) (lR2 X.K E Ba):=Hv (ZMV.or (ZMK.or (ZQe.or ZNj))) λa G d e x y Q hk s rd re q=>by
 have lst:out E a (match J7 d G,J7 e G with
  | some xs,some ys=>if xs.length + ys.length<=1000000 then .ok (.ref G.length) (G++ [.lst (xs++ys)]) else .bad
  | _,_=>.bad) Q->ZGR X.K x y a.H Q:=λq=>by
  split at q
  ·rename_i xs ys h1 h2;split at q
   ·rename_i hl;obtain ⟨p,vs,e1,q1,r1⟩:=Vc s rd h1;obtain ⟨p',vs',e2,q2,r2⟩:=Vc s re h2;rw [hk] at q1 q2;exact ⟨p,p',vs,vs',e1,e2,q1,q2,by rw [<-r1.length,<-r2.length];exact zD hl size6,λp hp=>Mj s (r1.append r2) q p hp⟩
   ·exact q.elim
  ·exact q.elim
 have L:=λq=>Or.inr (a:=rI0 (λi j=>V.int (i + j)) x y a.H Q) (Or.inr (a:=∃i j,x=.str i/\y=.str j/\i.length + j.length<=sizeLine/\Q (.str (i++j)) a.H) (Or.inl (b:=ZHT X.K x y a.H Q) (lst q)))
 cases d <;> cases e <;> first
  | exact .inl ⟨_,_,rd,re,q a _ (Ext.refl a) s rfl⟩
  | exact L q
  | skip
 ·rename_i i j;unfold Ba at q;dsimp only at q;split at q
  ·rename_i hl;exact .inr (.inl ⟨_,_,rd,re,zD hl size6,q a _ (Ext.refl a) s rfl⟩)
  ·exact q.elim
 ·rename_i xs ys;unfold Ba at q;dsimp only at q;split at q
  ·rename_i hl;obtain ⟨p,vs,e1,h1,r1⟩:=rd;obtain ⟨p',vs',e2,h2,r2⟩:=re;rw [hk] at h1 h2;refine .inr (.inr (.inr ⟨p,p',vs,vs',e1,e2,h1,h2,λz=>hl.1 (qS (by rw [r1.length,z];rfl)),by rw [<-r1.length,<-r2.length];exact zD hl.2 size6,λz=> ?_,λ_ p0 hp=> ?_⟩))
   ·refine q a (.ref p) (Ext.refl a) s ⟨p,vs,rfl,by rw [hk];exact h1,?_⟩;have e3:ys= []:=qS (by rw [r2.length,z];rfl);rw [e3,jX];exact r1
   ·exact ZCv s (r1.append r2) q p0 hp
  ·exact q.elim
inductive VD where
 | flat (v:V)
 | lst (xs:List D)
 | tup (xs:List D)
 | bad
noncomputable def view (G:DH):D->VD
 | .non=>.flat .non
 | .bl b=>.flat (.bl b)
 | .int i=>.flat (.int i)
 | .str x=>.flat (.str x)
 | .ty _=>.bad
 | .tup xs=>.tup xs
 | .fl xs=>.lst xs
 | .ref i=>match G[i]? with
  | some (.lst xs)=>.lst xs
  | _=>.bad
noncomputable def eqZ (f:D->D->Option Bool):List D->List D->Option Bool
 | x::xs,y::ys=>match f x y,eqZ f xs ys with
  | some a,some b=>some (a && b)
  | _,_=>none
 | _,_=>some true
noncomputable def eqD:Nat->DH->D->D->Option Bool
 | 0=>λ_ _ _=>none
 | n + 1=>λG d e=>match view G d,view G e with
  | .flat a,.flat b=>some (eqV a b)
  | .lst xs,.lst ys=>if xs.length=ys.length then eqZ (eqD n G) xs ys else some false
  | .tup xs,.tup ys=>match eqZ (eqD n G) xs ys with
   | some b=>some (b && xs.length == ys.length)
   | none=>none
  | .bad,_=>none
  | _,.bad=>none
  | _,_=>some false
theorem Wh {f:D->D->Option Bool}:∀{xs ys:List D} {k:Bool},eqZ f xs ys=some k->∃e:Nat->Bool,(∀(j:Nat) (x y:D),xs[j]? =some x->ys[j]? =some y->f x y=some (e j))/\k=(zj (min xs.length ys.length)).all e
 | [],ys,k,h=>⟨λ_=>true,λj x y e1 _=>by simp at e1,by
   have h':some true=some k:=by cases ys <;> exact h
   cases h';simp⟩
 | x::xs,[],k,h=>⟨λ_=>true,λj x y _ e1=>by simp at e1,by have h':some true=some k:=h;cases h';simp⟩
 | x::xs,y::ys,k,h=>by
  unfold eqZ at h;split at h
  ·rename_i a b h1 h2;obtain ⟨e,he,hk⟩:=Wh h2;have h':(a && b)=k:=Option.some.inj h
   refine ⟨λj=>match j with | 0=>a | j + 1=>e j,λj x' y' e1 e2=> ?_,?_⟩
   ·cases j with
    | zero=>simp at e1 e2;subst e1;subst e2;exact h1
    | succ j=>exact he j x' y' (by simpa using e1) (by simpa using e2)
   ·rw [<-h',hk];have:min (x::xs).length (y::ys).length=min xs.length ys.length + 1:=by simp only [qV];lia
    rw [this,qH,qL,List.all_map]
    rfl
  ·cases h
theorem Wz (s:Sim a G) {x:V} (r:Rep a d x):match view G d with
  | .flat v=>x=v/\Fe v=true
  | .lst xs=>∃p vs,x=.ref p/\SqL a.K a.H p vs/\Reps a xs vs
  | .tup xs=>∃p vs,x=.ref p/\SqT a.K a.H p vs/\Reps a xs vs
  | .bad=>True:=by
 cases d with
 | non=>exact ⟨r,rfl⟩
 | bl b=>exact ⟨r,rfl⟩
 | int b=>exact ⟨r,rfl⟩
 | str b=>exact ⟨r,rfl⟩
 | ty n=>trivial
 | tup xs=>
  obtain ⟨p,vs,e,h,q⟩:=r;exact ⟨p,vs,e,h,q⟩
 | fl xs=>
  obtain ⟨p,vs,e,h,q⟩:=r;exact ⟨p,vs,e,h.sq,q⟩
 | ref i=>
  unfold view;dsimp only;split
  ·rename_i v hv
   split at hv <;> cases hv
  ·rename_i xs hv;split at hv
   ·rename_i ys hi;cases hv;obtain ⟨vs,e1,r1⟩:=s.lst hi;exact ⟨a.m i,vs,r.2,.of e1,r1⟩
   ·cases hv
  ·rename_i xs hv
   split at hv <;> cases hv
  ·trivial
theorem ZQL {x:V} {u v:xz} (ry:RelV y u) (rx:RelV x v) (fy:Fe y=true) (fx:Fe x=true):SeqAt.RcAt A s u v (eqV y x):=by
 cases y with
 | non=>
  cases ry;cases x with
  | non=>cases rx;exact SeqAt.RcAt.none_none
  | bl b=>cases rx;exact SeqAt.RcAt.none_bool b
  | int b=>obtain ⟨t,rfl⟩:=rx;exact SeqAt.RcAt.none_int b t
  | str b=>obtain ⟨t,rfl⟩:=rx;exact SeqAt.RcAt.none_str b t
  | _=>exact absurd (show false=true from fx) zx
 | bl a=>
  cases ry;cases x with
  | non=>cases rx;exact SeqAt.RcAt.bool_none a
  | bl b=>cases rx;exact SeqAt.RcAt.bool_bool a b
  | int b=>obtain ⟨t,rfl⟩:=rx;exact SeqAt.RcAt.bool_int a b t
  | str b=>obtain ⟨t,rfl⟩:=rx;exact SeqAt.RcAt.bool_str a b t
  | _=>exact absurd (show false=true from fx) zx
 | int a=>
  obtain ⟨t',rfl⟩:=ry;cases x with
  | non=>cases rx;exact SeqAt.RcAt.int_none a t'
  | bl b=>cases rx;exact SeqAt.RcAt.int_bool a t' b
  | int b=>obtain ⟨t,rfl⟩:=rx;exact SeqAt.RcAt.int_int a t' b t
  | str b=>obtain ⟨t,rfl⟩:=rx;exact SeqAt.RcAt.int_str a t' b t
  | _=>exact absurd (show false=true from fx) zx
 | str a=>
  obtain ⟨t',rfl⟩:=ry;cases x with
  | non=>cases rx;exact SeqAt.RcAt.str_none a t'
  | bl b=>cases rx;exact SeqAt.RcAt.str_bool a t' b
  | int b=>obtain ⟨t,rfl⟩:=rx;exact SeqAt.RcAt.str_int a t' b t
  | str b=>obtain ⟨t,rfl⟩:=rx;exact SeqAt.RcAt.str_str a t' b t
  | _=>exact absurd (show false=true from fx) zx
 | _=>exact absurd (show false=true from fy) zx
theorem ZQf {x:V} {u v:xz} (ry:RelV y u) (rx:RelV x v) (fy:Fe y=true) (fx:Fe x=true):SeqAt.RcNeAt A s u v (!eqV y x):=by
 cases y with
 | non=>
  cases ry;cases x with
  | non=>cases rx;exact SeqAt.RcNeAt.none_none
  | bl b=>cases rx;exact SeqAt.RcNeAt.none_bool b
  | int b=>obtain ⟨t,rfl⟩:=rx;exact SeqAt.RcNeAt.none_int b t
  | str b=>obtain ⟨t,rfl⟩:=rx;exact SeqAt.RcNeAt.none_str b t
  | _=>exact absurd (show false=true from fx) zx
 | bl a=>
  cases ry;cases x with
  | non=>cases rx;exact SeqAt.RcNeAt.bool_none a
  | bl b=>cases rx;exact SeqAt.RcNeAt.bool_bool a b
  | int b=>obtain ⟨t,rfl⟩:=rx;exact SeqAt.RcNeAt.bool_int a b t
  | str b=>obtain ⟨t,rfl⟩:=rx;exact SeqAt.RcNeAt.bool_str a b t
  | _=>exact absurd (show false=true from fx) zx
 | int a=>
  obtain ⟨t',rfl⟩:=ry;cases x with
  | non=>cases rx;exact SeqAt.RcNeAt.int_none a t'
  | bl b=>cases rx;exact SeqAt.RcNeAt.int_bool a t' b
  | int b=>obtain ⟨t,rfl⟩:=rx;exact SeqAt.RcNeAt.int_int a t' b t
  | str b=>obtain ⟨t,rfl⟩:=rx;exact SeqAt.RcNeAt.int_str a t' b t
  | _=>exact absurd (show false=true from fx) zx
 | str a=>
  obtain ⟨t',rfl⟩:=ry;cases x with
  | non=>cases rx;exact SeqAt.RcNeAt.str_none a t'
  | bl b=>cases rx;exact SeqAt.RcNeAt.str_bool a t' b
  | int b=>obtain ⟨t,rfl⟩:=rx;exact SeqAt.RcNeAt.str_int a t' b t
  | str b=>obtain ⟨t,rfl⟩:=rx;exact SeqAt.RcNeAt.str_str a t' b t
  | _=>exact absurd (show false=true from fx) zx
 | _=>exact absurd (show false=true from fy) zx
end
section
variable {X:Cx} {E:XK} {v8:List (xQ×Obj)} {σ:St} {s:xY}
theorem ZQU (v:V) (h:Fe v=true):eqV v v=true:=by cases v <;> first | rfl | exact absurd (show false=true from h) zx | (simp [eqV])
theorem ZHP (I:Inv X v8 σ a.H s) (hk:a.K=X.K) (sm:Sim a G):∀(n:Nat) {d e:D} {x:V} {k:Bool},Rep a d x->Rep a e x->eqD n G d e=some k->k=true
 | 0,_,_,_,_,_,_,h=>by cases h
 | n + 1,d,e,x,k,rd,re,h=>by
  have vd:=Wz sm rd;have ve:=Wz sm re;have items:∀{xs ys:List D} {vs:List V} {b:Bool},Reps a xs vs->Reps a ys vs->eqZ (eqD n G) xs ys=some b->b=true:=λ{xs ys vs b} r1 r2 hz=>by obtain ⟨f,hf,hb⟩:=Wh hz;rw [hb,qk];intro j hj;have hj':j < min xs.length ys.length:=zS.mp hj;have h1:xs[j]? =some (xs[j]'(by lia)):=zQ (by lia);have h2:ys[j]? =some (ys[j]'(by lia)):=zQ (by lia);obtain ⟨v1,e1,q1⟩:=r1.get h1;obtain ⟨v2,e2,q2⟩:=r2.get h2;rw [e1] at e2;cases e2;exact ZHP I hk sm n q1 q2 (hf j _ _ h1 h2)
  unfold eqD at h
  try dsimp only at h
  revert h vd ve
  cases view G d <;> cases view G e <;> intro vd ve h <;> dsimp only at h vd ve <;> first
   | cases h
   | skip
  ·
   rename_i v w;obtain ⟨rfl,f1⟩:=vd;obtain ⟨rfl,f2⟩:=ve;exact ZQU _ f1
  ·obtain ⟨rfl,f1⟩:=vd;obtain ⟨p,vs,e1,_⟩:=ve;subst e1;cases f1
  ·obtain ⟨rfl,f1⟩:=vd;obtain ⟨p,vs,e1,_⟩:=ve;subst e1;cases f1
  ·obtain ⟨rfl,f1⟩:=ve;obtain ⟨p,vs,e1,_⟩:=vd;subst e1;cases f1
  ·obtain ⟨p,vs,e1,h1,r1⟩:=vd;obtain ⟨p',vs',e2,h2,r2⟩:=ve;rw [e1] at e2;cases e2;rw [hk] at h1 h2;cases I.ZCV h1 h2;split at h
   ·exact items r1 r2 h
   ·rename_i hl;exact absurd (r1.length.trans r2.length.symm) hl
  ·obtain ⟨p,vs,e1,h1,r1⟩:=vd;obtain ⟨p',vs',e2,h2,r2⟩:=ve;rw [e1] at e2;cases e2;rw [hk] at h1 h2;obtain ⟨_,_,pl,_⟩:=I.list h1;obtain ⟨_,_,pt,_⟩:=I.tuple h2;exact absurd rfl (SeqAt.ne_of_list_tuple pl.isList pt)
  ·obtain ⟨rfl,f1⟩:=ve;obtain ⟨p,vs,e1,_⟩:=vd;subst e1;cases f1
  ·obtain ⟨p,vs,e1,h1,r1⟩:=vd;obtain ⟨p',vs',e2,h2,r2⟩:=ve;rw [e1] at e2;cases e2;rw [hk] at h1 h2;obtain ⟨_,_,pl,_⟩:=I.list h2;obtain ⟨_,_,pt,_⟩:=I.tuple h1;exact absurd rfl (SeqAt.ne_of_list_tuple pl.isList pt)
  ·obtain ⟨p,vs,e1,h1,r1⟩:=vd;obtain ⟨p',vs',e2,h2,r2⟩:=ve;rw [e1] at e2;cases e2;rw [hk] at h1 h2;cases I.ZAf h1 h2;split at h
   ·rename_i b hz;have h':(b && _)=k:=Option.some.inj h;rw [<-h',items r1 r2 hz,r1.length,r2.length];simp
   ·cases h
theorem Xx {its:List xz} (r:Reps a xs vs) (q:Vals vs its) (h:j < its.toArray.size):∃d v,xs[j]? =some d/\Rep a d v/\RelV v its.toArray[j]:=by
 have hl:j < its.length:=by simpa using h
 have h2:j < vs.length:=by rw [q.length];exact hl
 obtain ⟨v,e1⟩:∃v,vs[j]? =some v:=⟨vs[j],zQ h2⟩;obtain ⟨d,e2,rd⟩:=r.get' e1;obtain ⟨u,e3,ru⟩:=q.get e1;have e4:u=its.toArray[j]:=by have:its[j]? =some its[j]:=zQ hl;rw [this] at e3;simpa using (Option.some.inj e3).symm
 exact ⟨d,v,e2,rd,by rw [<-e4];exact ru⟩
theorem Y0 (I:Inv X v8 σ a.H s) (hk:a.K=X.K) (sm:Sim a G):∀(n:Nat) {A:xZ} {d e:D} {x y:V} {u w:xz} {k:Bool},A.units + n < cLine->Rep a d x->Rep a e y->RelV x u->RelV y w->eqD n G d e=some k->
  SeqAt.EqAt A s u w k/\SeqAt.RcAt A s u w k/\SeqAt.RcNeAt A s u w (!k)
 | 0,_,_,_,_,_,_,_,_,_,_,_,_,_,h=>by cases h
 | n + 1,A,d,e,x,y,u,w,k,hu,rd,re,ru,rw',h=>by
  have vd:=Wz sm rd;have ve:=Wz sm re;have hu1:A.units < cLine:=by lia
  have hu2:A.in1.units + n < cLine:=by show A.units + 1 + n < cLine;lia
  have same:∀{z:V},Rep a d z->Rep a e z->eqD (n + 1) G d e=some k->k=true:=λr1 r2 r3=>ZHP I hk sm (n + 1) r1 r2 r3
  have h0:=h;unfold eqD at h
  try dsimp only at h
  have refs:∀{p q:xQ} {k:Bool},(p=q->k=true)->SeqAt.RcAt A s (.ref p) (.ref q) k->SeqAt.EqAt A s (.ref p) (.ref q) k:=λ{p q k} hs hr=>by
   by_cases e:p=q
   ·rw [hs e,e];exact SeqAt.EqAt.same _
   ·exact SeqAt.EqAt.of_refs e hr
  revert h vd ve
  cases hvd:view G d <;> cases hve:view G e <;> intro vd ve h <;> dsimp only at h vd ve <;> first
   | cases h
   | skip
  ·
   obtain ⟨rfl,f1⟩:=vd;obtain ⟨rfl,f2⟩:=ve;exact ⟨ZGI ru rw' f1 f2,ZQL ru rw' f1 f2,ZQf ru rw' f1 f2⟩
  ·
   obtain ⟨rfl,f1⟩:=vd;obtain ⟨q,vs,rfl,h2,r2⟩:=ve;cases rw';rw [hk] at h2;obtain ⟨its,qv,pl,_⟩:=I.list h2;cases x with
   | non=>cases ru;exact ⟨SeqAt.EqAt.none_list pl.isList hu1,SeqAt.RcAt.none_list pl.isList hu1,SeqAt.RcNeAt.none_list pl.isList hu1⟩
   | bl b=>cases ru;exact ⟨SeqAt.EqAt.bool_list b pl.isList hu1,SeqAt.RcAt.bool_list b pl.isList hu1,SeqAt.RcNeAt.bool_list b pl.isList hu1⟩
   | int b=>obtain ⟨t,rfl⟩:=ru;exact ⟨SeqAt.EqAt.int_list b t pl.isList hu1,SeqAt.RcAt.int_list b t pl.isList hu1,SeqAt.RcNeAt.int_list b t pl.isList hu1⟩
   | str b=>obtain ⟨t,rfl⟩:=ru;exact ⟨SeqAt.EqAt.str_list b t pl.isList hu1,SeqAt.RcAt.str_list b t pl.isList hu1,SeqAt.RcNeAt.str_list b t pl.isList hu1⟩
   | _=>exact absurd (show false=true from f1) zx
  ·
   obtain ⟨rfl,f1⟩:=vd;obtain ⟨q,vs,rfl,h2,r2⟩:=ve;cases rw';rw [hk] at h2;obtain ⟨its,qv,pl,_⟩:=I.tuple h2;cases x with
   | non=>cases ru;exact ⟨SeqAt.EqAt.none_tuple pl hu1,SeqAt.RcAt.none_tuple pl hu1,SeqAt.RcNeAt.none_tuple pl hu1⟩
   | bl b=>cases ru;exact ⟨SeqAt.EqAt.bool_tuple b pl hu1,SeqAt.RcAt.bool_tuple b pl hu1,SeqAt.RcNeAt.bool_tuple b pl hu1⟩
   | int b=>obtain ⟨t,rfl⟩:=ru;exact ⟨SeqAt.EqAt.int_tuple b t pl hu1,SeqAt.RcAt.int_tuple b t pl hu1,SeqAt.RcNeAt.int_tuple b t pl hu1⟩
   | str b=>obtain ⟨t,rfl⟩:=ru;exact ⟨SeqAt.EqAt.str_tuple b t pl hu1,SeqAt.RcAt.str_tuple b t pl hu1,SeqAt.RcNeAt.str_tuple b t pl hu1⟩
   | _=>exact absurd (show false=true from f1) zx
  ·
   obtain ⟨rfl,f1⟩:=ve;obtain ⟨q,vs,rfl,h2,r2⟩:=vd;cases ru;rw [hk] at h2;obtain ⟨its,qv,pl,_⟩:=I.list h2;cases y with
   | non=>cases rw';exact ⟨SeqAt.EqAt.list_none pl.isList hu1,SeqAt.RcAt.list_none pl.isList hu1,SeqAt.RcNeAt.list_none pl.isList hu1⟩
   | bl b=>cases rw';exact ⟨SeqAt.EqAt.list_bool b pl.isList hu1,SeqAt.RcAt.list_bool b pl.isList hu1,SeqAt.RcNeAt.list_bool b pl.isList hu1⟩
   | int b=>obtain ⟨t,rfl⟩:=rw';exact ⟨SeqAt.EqAt.list_int b t pl.isList hu1,SeqAt.RcAt.list_int b t pl.isList hu1,SeqAt.RcNeAt.list_int b t pl.isList hu1⟩
   | str b=>obtain ⟨t,rfl⟩:=rw';exact ⟨SeqAt.EqAt.list_str b t pl.isList hu1,SeqAt.RcAt.list_str b t pl.isList hu1,SeqAt.RcNeAt.list_str b t pl.isList hu1⟩
   | _=>exact absurd (show false=true from f1) zx
  ·
   obtain ⟨p,vs,rfl,h1,r1⟩:=vd;obtain ⟨q,vs',rfl,h2,r2⟩:=ve;cases ru;cases rw';rw [hk] at h1 h2;obtain ⟨its,q1,p1,_⟩:=I.list h1;obtain ⟨its',q2,p2,_⟩:=I.list h2;have sz1:its.toArray.size=vs.length:=by rw [zY];exact q1.length.symm
   have sz2:its'.toArray.size=vs'.length:=by rw [zY];exact q2.length.symm
   split at h
   ·rename_i hl;obtain ⟨f,hf,hb⟩:=Wh h;have hsz:its.toArray.size=its'.toArray.size:=by rw [sz1,sz2,<-r1.length,<-r2.length];exact hl
    have he:∀j (g1:j < its.toArray.size) (g2:j < its'.toArray.size),SeqAt.EqAt A.in1 s its.toArray[j] its'.toArray[j] (f j):=λj g1 g2=>by obtain ⟨d1,v1,e1,rd1,rv1⟩:=Xx r1 q1 g1;obtain ⟨d2,v2,e2,rd2,rv2⟩:=Xx r2 q2 g2;exact (Y0 I hk sm n hu2 rd1 rd2 rv1 rv2 (hf j d1 d2 e1 e2)).1
    have hk':k=(zj its.toArray.size).all f:=by
     rw [hb]
     congr 2
     rw [sz1,<-r1.length,hl];lia
    have rc:SeqAt.RcAt A s (.ref p) (.ref q) k:=by rw [hk'];exact SeqAt.RcAt.lists p1.isList p2.isList hsz hu1 he
    refine ⟨refs (λe=> ?_) rc,rc,by rw [hk'];exact SeqAt.RcNeAt.lists p1.isList p2.isList hsz hu1 he⟩;subst e;exact same rd re h0
   ·rename_i hl;have h':false=k:=Option.some.inj h;subst h';have hsz:(its.toArray.size != its'.toArray.size)=true:=by rw [bne_iff_ne,sz1,sz2,<-r1.length,<-r2.length];exact hl
    refine ⟨refs (λe=> ?_) (SeqAt.RcAt.lists_lengths p1.isList p2.isList hsz hu1),SeqAt.RcAt.lists_lengths p1.isList p2.isList hsz hu1,SeqAt.RcNeAt.lists_lengths p1.isList p2.isList hsz hu1⟩;subst e;exact same rd re h0
  ·
   obtain ⟨p,vs,rfl,h1,r1⟩:=vd;obtain ⟨q,vs',rfl,h2,r2⟩:=ve;cases ru;cases rw';rw [hk] at h1 h2;obtain ⟨its,q1,p1,_⟩:=I.list h1;obtain ⟨its',q2,p2,_⟩:=I.tuple h2;exact ⟨SeqAt.EqAt.list_tuple p1.isList p2 hu1,SeqAt.RcAt.list_tuple p1.isList p2 hu1,SeqAt.RcNeAt.list_tuple p1.isList p2 hu1⟩
  ·
   obtain ⟨rfl,f1⟩:=ve;obtain ⟨q,vs,rfl,h2,r2⟩:=vd;cases ru;rw [hk] at h2;obtain ⟨its,qv,pl,_⟩:=I.tuple h2;cases y with
   | non=>cases rw';exact ⟨SeqAt.EqAt.tuple_none pl hu1,SeqAt.RcAt.tuple_none pl hu1,SeqAt.RcNeAt.tuple_none pl hu1⟩
   | bl b=>cases rw';exact ⟨SeqAt.EqAt.tuple_bool b pl hu1,SeqAt.RcAt.tuple_bool b pl hu1,SeqAt.RcNeAt.tuple_bool b pl hu1⟩
   | int b=>obtain ⟨t,rfl⟩:=rw';exact ⟨SeqAt.EqAt.tuple_int b t pl hu1,SeqAt.RcAt.tuple_int b t pl hu1,SeqAt.RcNeAt.tuple_int b t pl hu1⟩
   | str b=>obtain ⟨t,rfl⟩:=rw';exact ⟨SeqAt.EqAt.tuple_str b t pl hu1,SeqAt.RcAt.tuple_str b t pl hu1,SeqAt.RcNeAt.tuple_str b t pl hu1⟩
   | _=>exact absurd (show false=true from f1) zx
  ·
   obtain ⟨p,vs,rfl,h1,r1⟩:=vd;obtain ⟨q,vs',rfl,h2,r2⟩:=ve;cases ru;cases rw';rw [hk] at h1 h2;obtain ⟨its,q1,p1,_⟩:=I.tuple h1;obtain ⟨its',q2,p2,_⟩:=I.list h2;exact ⟨SeqAt.EqAt.tuple_list p1 p2.isList hu1,SeqAt.RcAt.tuple_list p1 p2.isList hu1,SeqAt.RcNeAt.tuple_list p1 p2.isList hu1⟩
  ·
   rename_i xs ys;obtain ⟨p,vs,rfl,h1,r1⟩:=vd;obtain ⟨q,vs',rfl,h2,r2⟩:=ve;cases ru;cases rw';rw [hk] at h1 h2;obtain ⟨its,q1,p1,_⟩:=I.tuple h1;obtain ⟨its',q2,p2,_⟩:=I.tuple h2;have sz1:its.toArray.size=xs.length:=by rw [zY,r1.length];exact q1.length.symm
   have sz2:its'.toArray.size=ys.length:=by rw [zY,r2.length];exact q2.length.symm
   split at h
   ·rename_i b hz;have h':(b && xs.length == ys.length)=k:=Option.some.inj h;obtain ⟨f,hf,hb⟩:=Wh hz;have he:∀j (g1:j < its.toArray.size) (g2:j < its'.toArray.size),SeqAt.EqAt A.in1 s its.toArray[j] its'.toArray[j] (f j):=λj g1 g2=>by obtain ⟨d1,v1,e1,rd1,rv1⟩:=Xx r1 q1 g1;obtain ⟨d2,v2,e2,rd2,rv2⟩:=Xx r2 q2 g2;exact (Y0 I hk sm n hu2 rd1 rd2 rv1 rv2 (hf j d1 d2 e1 e2)).1
    have hk':k=((zj (min its.toArray.size its'.toArray.size)).all f && its.toArray.size == its'.toArray.size):=by rw [<-h',hb,sz1,sz2]
    have rc:SeqAt.RcAt A s (.ref p) (.ref q) k:=by rw [hk'];exact SeqAt.RcAt.tuples p1 p2 hu1 he
    refine ⟨refs (λe=> ?_) rc,rc,by rw [hk'];exact SeqAt.RcNeAt.tuples p1 p2 hu1 he⟩;subst e;exact same rd re h0
   ·cases h
noncomputable def Cq (d e:D) (G:DH):R D:=match eqD 30 G d e with
 | some k=>.ok (.bl k) G
 | none=>.bad
noncomputable def Hz (d e:D) (G:DH):R D:=match eqD 30 G d e with
 | some k=>.ok (.bl (!k)) G
 | none=>.bad
theorem Dm (hu:X.A.units + 64 < cLine):OpR X (xD .Eq) (lR2 X.K E Cq):=by
 intro v8 s σ H x y v u Q I rx ry ⟨a,G,d,e,hk,hH,sm,rd,re,q⟩;subst hH;unfold Cq at q;split at q
 ·rename_i k hd;exact (Y0 I hk sm 30 (by lia) rd re rx ry hd).2.1 _ _ _ _ ⟨.bl k,a.H,I,rfl,q a _ (Ext.refl a) sm rfl⟩
 ·exact q.elim
theorem R9 (hu:X.A.units + 64 < cLine):OpR X (xD .NotEq) (lR2 X.K E Hz):=by
 intro v8 s σ H x y v u Q I rx ry ⟨a,G,d,e,hk,hH,sm,rd,re,q⟩;subst hH;unfold Hz at q;split at q
 ·rename_i k hd;exact (Y0 I hk sm 30 (by lia) rd re rx ry hd).2.2 _ _ _ _ ⟨.bl (!k),a.H,I,rfl,q a _ (Ext.refl a) sm rfl⟩
 ·exact q.elim
end
abbrev DG:=D->DSt->DH->R DSt
variable {g:DG}
noncomputable def Gr (E:XK) (a:Wd) (r:R DSt) (Q:St->Hp->Prop):Prop:=match r with
 | .ok S G=>∀(b:Wd) (σ:St),Ext a b->Sim b G->RepS b S σ->Q σ b.H
 | .err x G=>XOk E a x G
 | .bad=>False
noncomputable def lG (K:PySem.W.Frag) (E:XK) (t:DG):TG:=λv σ H Q=>∃(a:Wd) (S:DSt) (G:DH) (d:D),a.K=K/\a.H=H/\Sim a G/\RepS a S σ/\Rep a d v/\Gr E a (t d S G) Q
def QG (X:Cx) (E:XK) (tg:xJ) (t:DG):Prop:=PG X tg (lG X.K E t)
abbrev DGs:=List D->DSt->DH->R DSt
noncomputable def lGs (K:PySem.W.Frag) (E:XK) (t:DGs):TGs:=λvs σ H Q=>∃(a:Wd) (S:DSt) (G:DH) (ds:List D),a.K=K/\a.H=H/\Sim a G/\RepS a S σ/\Reps a ds vs/\Gr E a (t ds S G) Q
def QGs (X:Cx) (E:XK) (tg:List xJ) (t:DGs):Prop:=PGs X tg (lGs X.K E t)
def gV (i:Nat):DG:=λd S G=>.ok (S.set i (some d)) G
def Ce:DGs:=λds S G=>match ds with
 | []=>.ok S G
 | _=>.bad
noncomputable def Aq (t:DG) (u:DGs):DGs:=λds S G=>match ds with
 | d::r=>(t d S G).bind λS1 G1=>u r S1 G1
 | []=>.bad
noncomputable def Bx (n:Nat) (t:DGs):DG:=λd S G=>match d with
 | .tup ds=>if ds.length=n then t ds S G else .bad
 | _=>.bad
theorem Gr.imp {r:R DSt} {Q Q':St->Hp->Prop} (h:Gr E a r Q) (w:∀v H,Q v H->Q' v H):Gr E a r Q':=by
 cases r with
 | ok d G=>exact λb v x s q=>w _ _ (h b v x s q)
 | err e G=>exact h
 | bad=>exact h
theorem Gr.mono (x:Ext a b) {r:R DSt} {Q:St->Hp->Prop} (h:Gr E a r Q):Gr E b r Q:=by
 cases r with
 | ok d G=>exact λc v y s q=>h c v (x.trans y) s q
 | err e G=>exact XOk.mono (E:=E) (e:=e) (G:=G) x h
 | bad=>exact h
theorem ZLt {r:R DSt} {f:DSt->DH->R DSt} {Q:St->Hp->Prop} (h:Gr E a (r.bind f) Q):
  Gr E a r (λσ H=>∃(b:Wd) (S:DSt) (G:DH),b.H=H/\Ext a b/\Sim b G/\RepS b S σ/\r=.ok S G/\Gr E b (f S G) Q):=by
 cases r with
 | ok d G=>exact λb v x s q=>⟨b,d,G,rfl,x,s,q,rfl,Gr.mono x h⟩
 | err e G=>exact h
 | bad=>exact h
theorem ZIH {f:D->DH->R DSt} {Q:St->Hp->Prop} (h:Gr E a (r.bind f) Q):
  out E a r (λv H=>∃(b:Wd) (d:D) (G:DH),b.H=H/\Ext a b/\Sim b G/\Rep b d v/\r=.ok d G/\Gr E b (f d G) Q):=by
 cases r with
 | ok d G=>exact λb v x s q=>⟨b,d,G,rfl,x,s,q,rfl,Gr.mono x h⟩
 | err e G=>exact h
 | bad=>exact h
theorem ZGj {r:R DSt} {f:DSt->DH->SR} (h:Di E a (r.toS f) W):
  Gr E a r (λσ H=>∃(b:Wd) (S:DSt) (G:DH),b.H=H/\Ext a b/\Sim b G/\RepS b S σ/\r=.ok S G/\Di E b (f S G) W):=by
 cases r with
 | ok d G=>exact λb v x s q=>⟨b,d,G,rfl,x,s,q,rfl,Di.mono x h⟩
 | err e G=>exact h
 | bad=>exact h
section
variable {X:Cx} {E:XK}
theorem _root_.L2.PG.mono {t t':TG} (h:PG X e t) (w:∀v σ H Q,t' v σ H Q->t v σ H Q):PG X e t':=λv8 s σ H v u Q I r q=>h v8 s σ H v u Q I r (w v σ H Q q)
theorem _root_.L2.PGs.mono {e:List xJ} {t t':TGs} (h:PGs X e t) (w:∀v σ H Q,t' v σ H Q->t v σ H Q):PGs X e t':=λv8 s σ H v u Q I r q=>h v8 s σ H v u Q I r (w v σ H Q q)
theorem Bc (i:Nat) {pos:Pos} (hN:X.N.Nodup) (hi:X.N[i]? =some x:=by rfl) (hx:Loc X.env.scope x:=by first | exact Or.inl rfl | exact Or.inr rfl)
  (hf:X.fn x=true∨X.env.scope.names.lookup x=some .local:=by first | exact .inl rfl | exact .inr rfl | assumption):QG X E (.Name x pos) (gV i):=
 (ZQM hN hi hx hf).mono λv σ H Q h=>by obtain ⟨a,S,G,d,hk,rfl,s,r,q,h⟩:=h;exact h a _ (Ext.refl a) s (r.set i q)
theorem Hb:QGs X E [] Ce:=ZKb.mono λvs σ H Q h=>by
 obtain ⟨a,S,G,ds,hk,rfl,s,r,q,h⟩:=h;cases ds with
 | nil=>exact ⟨q,h a σ (Ext.refl a) s r⟩
 | cons d ds=>exact h.elim
theorem Dh {es:List xJ} {t:DG} {u:DGs} (h1:QG X E e t) (h2:QGs X E es u)
  (hs:(xw (e::es) X.env).map (·.2)=assign e X.env::(xw es X.env).map (·.2):=by rfl):QGs X E (e::es) (Aq t u):=(ZKy h1 h2 hs).mono λvs σ H Q h=>by
 obtain ⟨a,S,G,ds,hk,rfl,s,r,q,h⟩:=h;cases ds with
 | nil=>exact h.elim
 | cons d ds=>
  obtain ⟨v,rest,e1,q1,q2⟩:=q;refine ⟨v,rest,e1,a,S,G,d,hk,rfl,s,r,q1,(ZLt h).imp ?_⟩;rintro σ' _ ⟨b,S1,G1,rfl,x,s1,r1,_,h1⟩;exact ⟨b,S1,G1,ds,x.k.trans hk,rfl,s1,r1,q2.mono x,h1⟩
theorem Hc {es:List xJ} {k:Nat} {t:DGs} {n:Nat} {pos:Pos} (hc:X.calm=true) (h:QGs X E es t)
  (hn:(xw es X.env).length=n:=by rfl) (hst:(xw es X.env).findIdx? (·.1)=none:=by rfl):QG X E (.Tuple es k pos) (Bx n t):=(ZQq hc h hn hst).mono λv σ H Q h=>by
 obtain ⟨a,S,G,d,hk,rfl,s,r,q,h⟩:=h;cases d with
 | tup ds=>
  obtain ⟨p,vs,e,h1,r1⟩:=q;unfold Bx at h;dsimp only at h;split at h
  ·rename_i hl;exact ⟨p,vs,e,by rw [<-hk];exact h1,by rw [<-r1.length];exact hl,a,S,G,ds,hk,rfl,s,r,r1,h⟩
  ·exact h.elim
 | _=>exact h.elim
noncomputable def M6 (o i v:D) (G:DH):R D:=match o,i with
 | .ref p,.int k=>match G[p]? with
  | some (.lst xs)=>match ixN xs.length k with
   | some j=>.ok .non (G.set p (.lst (xs.set j v)))
   | none=>.bad
  | _=>.bad
 | _,_=>.bad
noncomputable def gIx (to ti:DE):DG:=λv S G=>(to S G).bind λo G1=>(ti S G1).bind λi G2=>(M6 o i v G2).bind λ_ G3=>.ok S G3
theorem ZB9 {vs':List V} {ds':List D} (s:Sim a G) (hi:i < a.n) (h:a.H (a.m i)=some (.lst vs)) (r:Reps a ds' vs'):
  Ext a (a.put (a.m i) (.lst vs'))/\Sim (a.put (a.m i) (.lst vs')) (G.set i (.lst ds')):=⟨Ext.wr h,s.wr hi h (r.mono (Ext.wr h))⟩
theorem Vb {o i:xJ} {to ti:DE} {pos:Pos} (ho:QE X E o to) (hi:QE X E i ti)
  (ha:∀v,assign (.Subscript o i pos) X.env v=(do
   let ov<-holding [v] (eval o X.env);let iv<-holding [v,ov] (eval i X.env)
   standAt pos
   holding [v,ov,iv] (setItem ov iv v)
   release [v,ov,iv] []):=by intro _;rfl):QG X E (.Subscript o i pos) (gIx to ti):=(ZQr ho hi set_list ha).mono λv σ H Q h=>by
 obtain ⟨a,S,G,d,hk,rfl,s,r,q,h⟩:=h;refine ⟨a,S,G,hk,rfl,s,r,(ZIH h).imp ?_⟩;rintro ov _ ⟨b,e,G1,rfl,x,s1,q1,_,h1⟩;refine ⟨b,S,G1,x.k.trans hk,rfl,s1,r.mono x,(ZIH h1).imp ?_⟩;rintro iv _ ⟨c,f,G2,rfl,y,s2,q2,_,h2⟩;cases e with
 | ref p=>
  cases f with
  | int k=>
   unfold M6 at h2;dsimp only at h2;split at h2
   ·rename_i xs hx;split at h2
    ·rename_i j hj;obtain ⟨vs,e1,r1⟩:=s2.lst hx;have q1':=q1.mono y;have rv:=(q.mono x).mono y;obtain ⟨x3,s3⟩:=ZB9 s2 q1'.1 e1 (r1.set rv j);refine ⟨c.m p,vs,k,j,q1'.2,q2,e1,by rw [<-r1.length];exact hj,?_⟩;exact h2 _ σ x3 s3 (((r.mono x).mono y).mono x3)
    ·exact h2.elim
   ·exact h2.elim
  | _=>exact h2.elim
 | _=>exact h2.elim
variable {st:xq} {rest:List xq} {t u:DS} {e:xJ} {te:DE} {pos:Pos}
def sNx:DS:=λS G=>.nx S G
def Ah (t u:DS):DS:=λS G=>match t S G with
 | .nx S1 G1=>u S1 G1
 | r=>r
def sEx (te:DE):DS:=λS G=>(te S G).toS λ_ G1=>.nx S G1
def sRt (te:DE):DS:=λS G=>(te S G).toS λd G1=>.rt d G1
noncomputable def sIf (c:DB) (t u:DS):DS:=λS G=>(c S G).toS λk G1=>if k=true then t S G1 else u S G1
noncomputable def sAs (te:DE) (g:DG):DS:=λS G=>(te S G).toS λd G1=>(g d S G1).toS λS2 G2=>.nx S2 G2
noncomputable def sAu (i:Nat) (te:DE) (f:D->D->DH->R D):DS:=λS G=>match S[i]? with
 | some (some x)=>(te S G).toS λy G1=>(f x y G1).toS λz G2=>.nx (S.set i (some z)) G2
 | _=>.bad
theorem Ci:QSs X E [] sNx:=ZLf.mono λW σ H h=>by obtain ⟨a,S,G,hk,rfl,s,r,h⟩:=h;exact h a σ (Ext.refl a) s r
theorem Di.nxOf {t:DS} (hk:a.K=K) (h:Di E a (Ah t u S G) W):Di E a (t S G) {W with nx:=lS K E u W}:=by
 unfold Ah at h
 revert h
 cases t S G <;> intro h
 ·exact λb σ x s r=>⟨b,_,_,x.k.trans hk,rfl,s,r,Di.mono x h⟩
 all_goals exact h
theorem Ai (h1:QS X E st t) (h2:QSs X E rest u):QSs X E (st::rest) (Ah t u):=(ZOL h1 h2).mono λW σ H h=>by obtain ⟨a,S,G,hk,rfl,s,r,h⟩:=h;exact ⟨a,S,G,hk,rfl,s,r,h.nxOf hk⟩
theorem Am (h1:QS X E st t):QSs X E [st] t:=ZPQ h1
theorem Es (he:QE X E e te) (hs:swapsWith e none pos.line X.env=pure false:=by rfl):QS X E (.Expr e pos) (sEx te):=(ZL9 he hs).mono λW σ H h=>by obtain ⟨a,S,G,hk,rfl,s,r,h⟩:=h;refine ⟨a,S,G,hk,rfl,s,r,(Iz h).imp ?_⟩;rintro v _ ⟨b,d,G1,rfl,x,s1,q,_,h1⟩;exact h1 b σ (Ext.refl b) s1 (r.mono x)
theorem Bj (he:QE X E e te):QS X E (.Return (some e) pos) (sRt te):=(ZPp he).mono λW σ H h=>by obtain ⟨a,S,G,hk,rfl,s,r,h⟩:=h;refine ⟨a,S,G,hk,rfl,s,r,(Iz h).imp ?_⟩;rintro v _ ⟨b,d,G1,rfl,x,s1,q,_,h1⟩;exact h1 b v (Ext.refl b) s1 q
theorem Bs {c:xJ} {tc:DB} {a b:List xq} (hc:QT X E c tc) (ha:QSs X E a t) (hb:QSs X E b u):QS X E (.If c a b pos) (sIf tc t u):=(ZOi hc ha hb).mono λW σ H h=>by
 obtain ⟨a,S,G,hk,rfl,s,r,h⟩:=h;refine ⟨a,S,G,hk,rfl,s,r,(ZFo h).imp ?_⟩;rintro k _ ⟨b,G1,rfl,x,s1,_,h1⟩;cases k with
 | true=>exact ⟨b,S,G1,x.k.trans hk,rfl,s1,r.mono x,h1⟩
 | false=>exact ⟨b,S,G1,x.k.trans hk,rfl,s1,r.mono x,h1⟩
theorem ZRE (h:lS K E (sAs te g) W σ H):ZC2 (lE K E te) (lG K E g) W σ H:=by obtain ⟨a,S,G,hk,rfl,s,r,h⟩:=h;refine ⟨a,S,G,hk,rfl,s,r,(Iz h).imp ?_⟩;rintro v _ ⟨b,d,G1,rfl,x,s1,q,_,h1⟩;refine ⟨b,S,G1,d,x.k.trans hk,rfl,s1,r.mono x,q,(ZGj h1).imp ?_⟩;rintro σ' _ ⟨c,S2,G2,rfl,y,s2,r2,_,h2⟩;exact h2 c σ' (Ext.refl c) s2 r2
theorem Pz (he:QE X E e te) (hg:QG X E tg g) (hs:swapsWithSole [tg] e pos.line X.env=pure false:=by rfl) (hw:swappedStores [tg] e X.env=pure none:=by rfl)
  (h1:(xw [tg] X.env).map (·.2)= [assign tg X.env]:=by rfl):QS X E (.Assign [tg] e pos) (sAs te g):=(ZQs he hg hs hw h1).mono λ_ _ _ h=>ZRE h
theorem An (i:Nat) {pos':Pos} (hN:X.N.Nodup) (he:QE X E e te) (hi:X.N[i]? =some x:=by rfl) (hx:Loc X.env.scope x:=by first | exact Or.inl rfl | exact Or.inr rfl) (hs:swapsWith e (some (.Name x pos')) pos.line X.env=pure false:=by rfl)
  (hf:X.fn x=true∨X.env.scope.names.lookup x=some .local:=by first | exact .inl rfl | exact .inr rfl | assumption):QS X E (.Assign [.Name x pos'] e pos) (sAs te (gV i)):=
 (ZPu hN hi hx he hs hf).mono λW σ H h=>by obtain ⟨a,S,G,hk,rfl,s,r,h⟩:=h;refine ⟨a,S,G,hk,rfl,s,r,(Iz h).imp ?_⟩;rintro v _ ⟨b,d,G1,rfl,x,s1,q,_,h1⟩;exact h1 b _ (Ext.refl b) s1 ((r.mono x).set i q)
theorem ZFU (i:Nat) {op:Operator} {pos':Pos} (hN:X.N.Nodup) (he:QE X E e te) (ho:OpR X (inplaceOp op) (lR2 X.K E f)) (hi:X.N[i]? =some x:=by rfl) (hx:Loc X.env.scope x:=by first | exact Or.inl rfl | exact Or.inr rfl)
  (hf:X.fn x=true∨X.env.scope.names.lookup x=some .local:=by first | exact .inl rfl | exact .inr rfl | assumption):QS X E (.AugAssign (.Name x pos') op e pos) (sAu i te f):=
 (ZLW (ti:=lR2 X.K E f) hN hi hx he ho hf).mono λW σ H h=>by
  obtain ⟨a,S,G,hk,rfl,s,r,h⟩:=h;unfold sAu at h;split at h
  ·rename_i d hd;obtain ⟨v,e1,q⟩:=r.get i d hd;refine ⟨v,e1,a,S,G,hk,rfl,s,r,(Iz h).imp ?_⟩;rintro w _ ⟨b,d1,G1,rfl,x,s1,q1,_,h1⟩;refine ⟨b,G1,d,d1,x.k.trans hk,rfl,s1,q.mono x,q1,(Iz h1).imp ?_⟩;rintro z _ ⟨c,d2,G2,rfl,y,s2,q2,_,h2⟩;exact h2 c _ (Ext.refl c) s2 (((r.mono x).mono y).set i q2)
  ·exact h.elim
noncomputable def Ml:D->D->DH->R D
 | .int i,.int j,G=>.ok (.int (i + j)) G
 | .str i,.str j,G=>if i.length + j.length<=1000000 then .ok (.str (i++j)) G else .bad
 | _,_,_=>.bad
theorem U6:OpR X (inplaceOp .Add) (lR2 X.K E Ml):=Hv (OpR.or (r:=ipI λi j=>i + j) ZQP ZNQ) λa G d e x y Q hk s rd re q=>by
 cases d <;> cases e <;> first
  | exact q.elim
  | exact .inl ⟨_,_,rd,re,q a _ (Ext.refl a) s rfl⟩
  | (
    unfold Ml at q;dsimp only at q;split at q
    ·rename_i hl;exact .inr ⟨_,_,rd,re,zD hl size6,q a _ (Ext.refl a) s rfl⟩
    ·exact q.elim)
theorem ZMw:OpR X (inplaceOp .Sub) (lR2 X.K E Fq):=Hv (r:=ipI λi j=>i - j) ZOE λa G d e x y Q hk s rd re q=>by
 cases d <;> cases e <;> first
  | exact q.elim
  | exact ⟨_,_,rd,re,q a _ (Ext.refl a) s rfl⟩
end
noncomputable def aft (r:SR) (k:DSt->DH->SR):SR:=match r with
 | .nx S G=>k S G
 | .ct S G=>k S G
 | .bk S G=>.nx S G
 | r=>r
noncomputable def Bp (g:DG) (b:DS):List D->DS
 | [],S,G=>.nx S G
 | x::xs,S,G=>(g x S G).toS λS1 G1=>aft (b S1 G1) (Bp g b xs)
noncomputable def forM (i:Nat) (g:DG) (b:DS):Nat->Nat->DS
 | 0,j,S,G=>match G[i]? with
  | some (.lst xs)=>if xs.length<=j then .nx S G else .bad
  | _=>.bad
 | k + 1,j,S,G=>match G[i]? with
  | some (.lst xs)=>match xs[j]? with
   | some x=>(g x S G).toS λS1 G1=>aft (b S1 G1) (forM i g b k (j + 1))
   | none=>.nx S G
  | _=>.bad
noncomputable def Em (f:Nat->DH->Option (Option D)) (g:DG) (b:DS):Nat->Nat->DS
 | 0,j,S,G=>match f j G with
  | some none=>.nx S G
  | _=>.bad
 | k + 1,j,S,G=>match f j G with
  | some (some x)=>(g x S G).toS λS1 G1=>aft (b S1 G1) (Em f g b k (j + 1))
  | some none=>.nx S G
  | none=>.bad
inductive ItD where
 | pure (xs:List D)
 | mt (i:Nat)
 | fn (n:Nat) (f:Nat->DH->Option (Option D))
abbrev DI:=DSt->DH->R ItD
noncomputable def Dq (it:DI) (g:DG) (b:DS):DS:=λS G=>(it S G).toS λJ G1=>match J with
 | .pure xs=>Bp g b xs S G1
 | .mt i=>match G1[i]? with
  | some (.lst xs)=>forM i g b xs.length 0 S G1
  | _=>.bad
 | .fn n f=>Em f g b n 0 S G1
noncomputable def RepI (a:Wd):ItD->It->Prop
 | .pure xs,J=>∃vs:List V,Reps a xs vs/\∀b:Wd,Ext a b->∀i,(∀v,vs[i]? =some v->J.go i b.H/\∀x H',J.yld i b.H x H'->x=v/\H'=b.H)/\(vs.length<=i->J.stop i b.H)
 | .mt k,J=>k < a.n/\∀b:Wd,Ext a b->∀vs,b.H (b.m k)=some (.lst vs)->∀i,(∀v,vs[i]? =some v->J.go i b.H/\∀x H',J.yld i b.H x H'->x=v/\H'=b.H)/\(vs.length<=i->J.stop i b.H)
 | .fn _ f,J=>∀b:Wd,Ext a b->∀G,Sim b G->∀i,(∀d,f i G=some (some d)->J.go i b.H/\∀x H',J.yld i b.H x H'->∃c:Wd,c.H=H'/\Ext b c/\Sim c G/\Rep c d x)/\(f i G=some none->J.stop i b.H)
noncomputable def outI (E:XK) (a:Wd) (r:R ItD) (Q:It->Hp->Prop):Prop:=match r with
 | .ok J G=>∀(b:Wd) (JJ:It),Ext a b->Sim b G->RepI b J JJ->Q JJ b.H
 | .err x G=>XOk E a x G
 | .bad=>False
noncomputable def lI (K:PySem.W.Frag) (E:XK) (t:DI):TI:=λσ H Q=>∃(a:Wd) (S:DSt) (G:DH),a.K=K/\a.H=H/\Sim a G/\RepS a S σ/\outI E a (t S G) Q
def QI (X:Cx) (E:XK) (tg iter:xJ) (t:DI):Prop:=PI X tg iter (lI X.K E t)
theorem outI.imp {r:R ItD} {Q Q':It->Hp->Prop} (h:outI E a r Q) (w:∀v H,Q v H->Q' v H):outI E a r Q':=by
 cases r with
 | ok d G=>exact λb v x s q=>w _ _ (h b v x s q)
 | err e G=>exact h
 | bad=>exact h
theorem ZOM {r:R ItD} {f:ItD->DH->SR} (h:Di E a (r.toS f) W):
  outI E a r (λJ H=>∃(b:Wd) (d:ItD) (G:DH),b.H=H/\Ext a b/\Sim b G/\RepI b d J/\r=.ok d G/\Di E b (f d G) W):=by
 cases r with
 | ok d G=>exact λb v x s q=>⟨b,d,G,rfl,x,s,q,rfl,Di.mono x h⟩
 | err e G=>exact h
 | bad=>exact h
theorem ZJL {r:SR} {k:DSt->DH->SR} (h:Di E a (aft r k) W):
  Di E a r {W with
            nx:=λσ H=>∃(b:Wd) (S:DSt) (G:DH),b.H=H/\Ext a b/\Sim b G/\RepS b S σ/\Di E b (k S G) W,
            ct:=λσ H=>∃(b:Wd) (S:DSt) (G:DH),b.H=H/\Ext a b/\Sim b G/\RepS b S σ/\Di E b (k S G) W,bk:=W.nx}:=by
 cases r with
 | nx S G=>exact λb σ x s q=>⟨b,S,G,rfl,x,s,q,Di.mono x h⟩
 | ct S G=>exact λb σ x s q=>⟨b,S,G,rfl,x,s,q,Di.mono x h⟩
 | bk S G=>exact h
 | rt d G=>exact h
 | err x G=>exact h
 | bad=>exact h
noncomputable def mtF (i j:Nat) (G:DH):Option (Option D):=match G[i]? with
 | some (.lst xs)=>some xs[j]?
 | _=>none
theorem ZIi {J:It} {n:Nat} (r:RepI a (.pure xs) J):RepI a (.fn n λj _=>some xs[j]?) J:=by
 obtain ⟨vs,rv,h⟩:=r;refine λb x G sm i=>⟨λd e=> ?_,λe=> ?_⟩
 ·obtain ⟨v,ev,q⟩:=rv.get (Option.some.inj e);obtain ⟨h1,h2⟩:=(h b x i).1 v ev;refine ⟨h1,λy H' hy=> ?_⟩;obtain ⟨rfl,rfl⟩:=h2 y H' hy;exact ⟨b,rfl,Ext.refl b,sm,q.mono x⟩
 ·exact (h b x i).2 (by rw [<-rv.length];exact jY.mp (Option.some.inj e))
theorem ZD9 {J:It} {n:Nat} (r:RepI a (.mt k) J):RepI a (.fn n (mtF k)) J:=by
 obtain ⟨hk,h⟩:=r;refine λb x G sm i=> ?_
 unfold mtF;cases hG:G[k]? with
 | none=>exact ⟨λd e=>(by cases e),λe=>(by cases e)⟩
 | some o=>
  cases o with
  | lst xs=>
   obtain ⟨vs,e1,rv⟩:=sm.lst hG;refine ⟨λd e=> ?_,λe=> ?_⟩
   ·obtain ⟨v,ev,q⟩:=rv.get (Option.some.inj e);obtain ⟨h1,h2⟩:=(h b x vs e1 i).1 v ev;refine ⟨h1,λy H' hy=> ?_⟩;obtain ⟨rfl,rfl⟩:=h2 y H' hy;exact ⟨b,rfl,Ext.refl b,sm,q⟩
   ·exact (h b x vs e1 i).2 (by rw [<-rv.length];exact jY.mp (Option.some.inj e))
  | _=>exact ⟨λd e=>(by cases e),λe=>(by cases e)⟩
theorem ZGA {b:DS} :∀(n j:Nat),j + n=xs.length->Bp g b (xs.drop j)=Em (λj _=>some xs[j]?) g b n j
 | 0,j,h=>by
  funext S G;rw [zN (by lia)]
  show SR.nx S G=(match some xs[j]? with | some none=>SR.nx S G | _=>.bad)
  rw [z5 (by lia)]
 | n + 1,j,h=>by
  funext S G;have hj:j < xs.length:=by lia
  rw [zL hj]
  show (g xs[j] S G).toS (λS1 G1=>aft (b S1 G1) (Bp g b (xs.drop (j + 1))))=(match some xs[j]? with | some (some x)=>(g x S G).toS (λS1 G1=>aft (b S1 G1) (Em (λj _=>some xs[j]?) g b n (j + 1))) | some none=>SR.nx S G | none=>.bad)
  rw [zQ hj,ZGA n (j + 1) (by lia)]
theorem ZH2 {b:DS} :∀(n j:Nat),forM i g b n j=Em (mtF i) g b n j
 | 0,j=>by
  funext S G;unfold forM Em mtF;cases G[i]? with
  | none=>rfl
  | some o=>
   cases o with
   | lst xs=>
    dsimp only;by_cases hj:j < xs.length
    ·rw [if_neg (by lia),zQ hj]
    ·rw [if_pos (by lia),z5 (by lia)]
   | _=>rfl
 | n + 1,j=>by
  funext S G;unfold forM Em;rw [ZH2 n (j + 1)];unfold mtF;cases G[i]? with
  | none=>rfl
  | some o=>
   cases o with
   | lst xs=>
    dsimp only
    cases xs[j]? <;> rfl
   | _=>rfl
section
variable {X:Cx} {E:XK} {tg iter:xJ} {pos:Pos}
theorem ZKT {it:DI} {b:DS} (h:lS K E (Dq it g b) W σ H):tFor (lI K E it) (lG K E g) (lS K E b) W σ H:=by
 obtain ⟨a,S,G,hk,rfl,s,r,h⟩:=h;refine ⟨a,S,G,hk,rfl,s,r,(ZOM h).imp ?_⟩;rintro J _ ⟨a1,d,G1,rfl,x1,s1,q1,_,h1⟩;have k1:a1.K=K:=x1.k.trans hk
 suffices fnc:∃n f,RepI a1 (.fn n f) J/\Di E a1 (Em f g b n 0 S G1) W by
  obtain ⟨n,f,q1,h1⟩:=fnc;have walk:∀b:Wd,Ext a1 b->∀G,Sim b G->∀i,(∀d,f i G=some (some d)->J.go i b.H/\∀x H',J.yld i b.H x H'->∃c:Wd,c.H=H'/\Ext b c/\Sim c G/\Rep c d x)/\(f i G=some none->J.stop i b.H):=q1;refine ⟨λi m σ H=>∃(c:Wd) (S:DSt) (G:DH),c.H=H/\Ext a1 c/\Sim c G/\RepS c S σ/\Di E c (Em f g b m i S G) W,⟨_,a1,S,G1,rfl,Ext.refl _,s1,r.mono x1,h1⟩,?_⟩;rintro i m σ2 _ ⟨c,S2,G2,rfl,x2,s2,r2,h2⟩
  cases m with
  | zero=>
   unfold Em at h2;split at h2
   ·rename_i hf;exact .inl ⟨(walk c x2 G2 s2 i).2 hf,h2 c σ2 (Ext.refl c) s2 r2⟩
   ·exact h2.elim
  | succ m=>
   unfold Em at h2;split at h2
   ·rename_i d hf;obtain ⟨go,yl⟩:=(walk c x2 G2 s2 i).1 d hf;refine .inr ⟨go,λσ' H'=>∃(c:Wd) (S:DSt) (G:DH),c.H=H'/\Ext a1 c/\Sim c G/\RepS c S σ'/\Di E c (Em f g b m (i + 1) S G) W,λσ' H' z=>⟨m,qq _,z⟩,λw H' y=> ?_⟩;obtain ⟨cc,rfl,xx,ss,rd⟩:=yl w H' y;refine ⟨cc,S2,G2,d,xx.k.trans (x2.k.trans k1),rfl,ss,r2.mono xx,rd,(ZGj (Di.mono xx h2)).imp ?_⟩;rintro σ3 _ ⟨c3,S3,G3,rfl,x3,s3,r3,_,h3⟩
    have fin:=ZJL h3;refine ⟨c3,S3,G3,x3.k.trans (xx.k.trans (x2.k.trans k1)),rfl,s3,r3,?_⟩
    revert fin
    cases b S3 G3 with
    | nx S4 G4=>
      intro fin c4 σ4 x4 s4 q4;obtain ⟨c5,S5,G5,hh,x5,s5,r5,h5⟩:=fin c4 σ4 x4 s4 q4;exact ⟨c5,S5,G5,hh,x2.trans (xx.trans (x3.trans x5)),s5,r5,h5⟩
    | ct S4 G4=>
      intro fin c4 σ4 x4 s4 q4;obtain ⟨c5,S5,G5,hh,x5,s5,r5,h5⟩:=fin c4 σ4 x4 s4 q4;exact ⟨c5,S5,G5,hh,x2.trans (xx.trans (x3.trans x5)),s5,r5,h5⟩
    | bk S4 G4=>exact λfin=>fin
    | rt S4 G4=>exact λfin=>fin
    | err S4 G4=>exact λfin=>fin
    | bad=>exact λfin=>fin
   ·rename_i hf;exact .inl ⟨(walk c x2 G2 s2 i).2 hf,h2 c σ2 (Ext.refl c) s2 r2⟩
   ·exact h2.elim
 cases d with
 | pure xs=>
  have h1':Di E a1 (Bp g b (xs.drop 0) S G1) W:=h1;rw [ZGA xs.length 0 (by lia)] at h1';exact ⟨_,_,ZIi q1,h1'⟩
 | mt k=>
  dsimp only at h1;split at h1
  ·rw [ZH2] at h1;exact ⟨_,_,ZD9 q1,h1⟩
  ·exact h1.elim
 | fn n f=>exact ⟨n,f,q1,h1⟩
theorem El {body:List xq} {it:DI} {b:DS} (hp:PassesOwn (xR X.prog X.w) X.A X.env X.xe) (hc:X.calm=true) (hi:QI X E tg iter it) (hg:QG X E tg g) (hb:QSs X E body b)
  (hs:∀x,foldedSetIterable iter X.env x=pure x:=by intro _;rfl):QS X E (.For tg iter body [] pos) (Dq it g b):=(ZRT hp hc hi hg hb hs).mono λ_ _ _ h=>ZKT h
theorem _root_.L2.PI.mono {t t':TI} (h:PI X tg iter t) (w:∀σ H Q,t' σ H Q->t σ H Q):PI X tg iter t':=λv8 s σ H Q I q=>h v8 s σ H Q I (w σ H Q q)
def sgn (c:Nat):D:=.str ⟨#[c]⟩
def signs (x:Str):List D:=x.cps.toList.map sgn
noncomputable def Its (x:Str):It:=⟨λi _=>i < x.cps.size,λi H v H'=>H'=H/\∃c,x.cps[i]? =some c/\v=.str ⟨#[c]⟩,λi _=>x.cps.size<=i⟩
theorem ZPW (it:xQ) (x:Str) (t:Tok):Turn P w K tg (Its x) [it] it (λi h=>h.IsStrIter it "str_ascii_iterator" x t i) where
 mem:=by simp
 obj:=λi h st b hb=>by
  have e:b=it:=by simpa using hb
  subst e;obtain ⟨o,e,c,d⟩:=st;exact ⟨o,e,λv z=>by rw [d] at z;cases z⟩
 keep:=λi h h' st k=>let ⟨o,ho,r⟩:=st;⟨o,k it (by simp) o ho,r⟩
 item:=by
  intro X hP hw hK hc i v8 s σ H E I hf st hg;subst hP hw hK;obtain ⟨f0,f1,f2,f3,f4,f5⟩:=hf it (by simp);have hi:i < x.cps.size:=hg;refine wpAny_pyNext_ascii_item st (c:=x.cps[i]) (by simp [hi]) λh' st' sb=> ?_
  have I1:Inv X v8 σ H {s with heap:=h',toks:=s.toks + 1}:=I.turned (λb o hb e=>(sb.2 b hb).trans e) f0 f1 f3 f4 f5;obtain ⟨o,e,c,d⟩:=id st';exact ⟨_,rfl,Sg (s:={s with heap:=h',toks:=s.toks + 1}) e c d (by decide) ⟨.str ⟨#[x.cps[i]]⟩,H,I1,⟨_,rfl⟩,⟨rfl,_,by simp [hi],rfl⟩,st',λb hb=>(hf b hb).1⟩⟩
 done:=by intro X hP hw hK hc i v8 s σ H E I hf st hg;subst hP hw hK;obtain ⟨f0,f1,f2,f3,f4,f5⟩:=hf it (by simp);have hi:x.cps.size<=i:=hg;exact wpAny_pyNext_ascii_end (I.ok.hd hc) st (by simp [hi]) λh' eb=>⟨rfl,I.turned (t':=s.toks) (λb o hb e=>eb b o hb e) f0 f1 f3 f4 f5⟩
 self:=λ_ _ _ _ _ st h=>wpAny_pyIter_striter_ascii st h
theorem ZL5 (it:xQ) (x:Str) (t:Tok):Turn P w K tg (Its x) [it] it (λi h=>h.IsStrIter it "str_iterator" x t i) where
 mem:=by simp
 obj:=λi h st b hb=>by
  have e:b=it:=by simpa using hb
  subst e;obtain ⟨o,e,c,d⟩:=st;exact ⟨o,e,λv z=>by rw [d] at z;cases z⟩
 keep:=λi h h' st k=>let ⟨o,ho,r⟩:=st;⟨o,k it (by simp) o ho,r⟩
 item:=by
  intro X hP hw hK hc i v8 s σ H E I hf st hg;subst hP hw hK;obtain ⟨f0,f1,f2,f3,f4,f5⟩:=hf it (by simp);have hi:i < x.cps.size:=hg;refine wpAny_pyNext_wide_item st (c:=x.cps[i]) (by simp [hi]) λh' st' sb=> ?_
  have I1:Inv X v8 σ H {s with heap:=h',toks:=s.toks + 1}:=I.turned (λb o hb e=>(sb.2 b hb).trans e) f0 f1 f3 f4 f5;obtain ⟨o,e,c,d⟩:=id st';exact ⟨_,rfl,Sg (s:={s with heap:=h',toks:=s.toks + 1}) e c d (by decide) ⟨.str ⟨#[x.cps[i]]⟩,H,I1,⟨_,rfl⟩,⟨rfl,_,by simp [hi],rfl⟩,st',λb hb=>(hf b hb).1⟩⟩
 done:=by intro X hP hw hK hc i v8 s σ H E I hf st hg;subst hP hw hK;obtain ⟨f0,f1,f2,f3,f4,f5⟩:=hf it (by simp);have hi:x.cps.size<=i:=hg;exact wpAny_pyNext_wide_end (I.ok.hd hc) st (by simp [hi]) λh' eb=>⟨rfl,I.turned (t':=s.toks) (λb o hb e=>eb b o hb e) f0 f1 f3 f4 f5⟩
 self:=λ_ _ _ _ _ st h=>wpAny_pyIter_striter_wide st h
def iStr (tl:TE):TI:=λσ H R=>tl σ H λx H1=>∃z,x=.str z/\R (Its z) H1
theorem ZPL {l:xJ} {tl:TE} (hl:PE X l tl):PI X tg l (iStr tl):=by
 intro v8 s σ H R I h;refine thn (hl v8 s σ H _ I h) λv s1 ⟨x,H1,I1,r1,q1⟩=> ?_
 obtain ⟨z,e,q⟩:=q1;subst e;obtain ⟨t,rfl⟩:=r1;have fp:∀b∈ [s1.heap.objs.size],FpOk X v8 H1 b:=λb hb=>by
  have e:b=s1.heap.objs.size:=by simpa using hb
  subst e;exact I1.Lh (zW _) (I1.hok.fresh (zW _))
 cases ha:z.cps.all (· < 128)
 ·refine wpAny_pyIter_wide ha ?_;exact ⟨s1.heap.objs.size,[s1.heap.objs.size],_,_,H1,rfl,I1.kept (t':=s1.toks) λb o e=>zJ _ e,ZL5 _ z t,⟨_,zB _ rfl,rfl,rfl⟩,fp,q⟩
 ·refine wpAny_pyIter_ascii ha ?_;exact ⟨s1.heap.objs.size,[s1.heap.objs.size],_,_,H1,rfl,I1.kept (t':=s1.toks) λb o e=>zJ _ e,ZPW _ z t,⟨_,zB _ rfl,rfl,rfl⟩,fp,q⟩
theorem Reps.signs (x:Str):Reps a (signs x) (x.cps.toList.map λc=>V.str ⟨#[c]⟩):=by
 unfold DL.signs
 induction x.cps.toList with
 | nil=>exact rfl
 | cons c r ih=>exact ⟨_,_,rfl,rfl,ih⟩
noncomputable def H8:D->DH->R ItD
 | .tup xs,G=>.ok (.pure xs) G
 | .str x,G=>.ok (.pure (signs x)) G
 | .fl xs,G=>.ok (.pure xs) G
 | .ref i,G=>match G[i]? with
  | some (.lst _)=>.ok (.mt i) G
  | _=>.bad
 | _,_=>.bad
def Ew (te:DE):DI:=λS G=>(te S G).bind H8
theorem Ft (he:QE X E iter te):QI X E tg iter (Ew te):=by
 intro v8 s σ H R I h;obtain ⟨a,S,G,hk,rfl,sm,r,h⟩:=h;cases ht:te S G with
 | bad=>
  have h':outI E a ((te S G).bind H8) R:=h;rw [ht] at h';exact h'.elim
 | err e G1=>
  have h':outI E a ((te S G).bind H8) R:=h;rw [ht] at h';refine ZAc (tg:=tg) he v8 s σ a.H R I ⟨a,S,G,hk,rfl,sm,r,?_⟩;rw [ht];exact h'
 | ok d G1=>
  have h':outI E a ((te S G).bind H8) R:=h;rw [ht] at h';cases d with
  | tup xs=>
   refine ZNL (tg:=tg) he v8 s σ a.H R I ⟨a,S,G,hk,rfl,sm,r,?_⟩;rw [ht];rintro b v x sb ⟨p,vs,rfl,hq,rv⟩;have hq':SqT X.K b.H p vs:=by rw [<-hk,<-x.k];exact hq
   refine ⟨p,rfl,⟨vs,hq'⟩,h' b _ x sb ⟨vs,rv,λc y i=>⟨λv hv=>⟨⟨vs,v,?_,hv⟩,λw H' z=> ?_⟩,λhl=>⟨vs,?_,hl⟩⟩⟩⟩
   ·have:=y.sqT hq;rw [y.k,x.k,hk] at this;exact this
   ·have:=y.sqT hq;rw [y.k,x.k,hk] at this;exact ⟨Option.some.inj ((z.2 vs this).symm.trans hv),z.1⟩
   ·have:=y.sqT hq;rw [y.k,x.k,hk] at this;exact this
  | fl xs=>
   refine ZAc (tg:=tg) he v8 s σ a.H R I ⟨a,S,G,hk,rfl,sm,r,?_⟩;rw [ht];rintro b v x sb ⟨p,vs,rfl,hq,rv⟩;have hq':SqL X.K b.H p vs:=by rw [<-hk,<-x.k];exact hq.sq
   refine ⟨p,rfl,⟨vs,hq'⟩,h' b _ x sb ⟨vs,rv,λc y i=>⟨λv hv=>⟨⟨vs,v,?_,hv⟩,λw H' z=> ?_⟩,λhl=>⟨vs,?_,hl⟩⟩⟩⟩
   ·have:=(y.fzL hq).sq;rw [y.k,x.k,hk] at this;exact this
   ·have:=(y.fzL hq).sq;rw [y.k,x.k,hk] at this;exact ⟨Option.some.inj ((z.2 vs this).symm.trans hv),z.1⟩
   ·have:=(y.fzL hq).sq;rw [y.k,x.k,hk] at this;exact this
  | ref k=>
   have h2:outI E a (H8 (.ref k) G1) R:=h';unfold H8 at h2;dsimp only at h2;split at h2
   ·rename_i xs hx;refine ZAc (tg:=tg) he v8 s σ a.H R I ⟨a,S,G,hk,rfl,sm,r,?_⟩;rw [ht];rintro b v x sb ⟨hkn,rfl⟩;obtain ⟨vs,hx,_⟩:=sb.lst hx;refine ⟨b.m k,rfl,⟨vs,.of hx⟩,h2 b _ x sb ⟨hkn,λc y us hu i=> ?_⟩⟩;rw [y.m k hkn] at hu;exact ⟨λv hv=>⟨⟨us,v,.of hu,hv⟩,λw H' z=>⟨Option.some.inj ((z.2 us (.of hu)).symm.trans hv),z.1⟩⟩,λhl=>⟨us,.of hu,hl⟩⟩
   ·exact h2.elim
  | str z=>
   refine ZPL (tg:=tg) he v8 s σ a.H R I ⟨a,S,G,hk,rfl,sm,r,?_⟩;rw [ht];intro b v x sb rv
   cases (show v=V.str z from rv)
   refine ⟨z,rfl,h' b _ x sb ⟨_,Reps.signs z,λc y i=>⟨λv hv=> ?_,λhl=> ?_⟩⟩⟩
   ·rw [zw,zP] at hv;obtain ⟨k,hk1,rfl⟩:=hv;have hk2:z.cps[i]? =some k:=by rw [<-qM];exact hk1
    refine ⟨(Array.getElem?_eq_some_iff.mp hk2).1,λw H' q=> ?_⟩;obtain ⟨e1,k',e2,e3⟩:=q;rw [hk2] at e2;cases e2;exact ⟨e3,e1⟩
   ·rw [qW,q9] at hl;exact hl
  | _=>exact h'.elim
end
noncomputable def Cm (lo:Int) (n:Nat):List D:=(zj n).map λ(k:Nat)=>D.int (lo + (k:Int))
def inR (j:Int):Prop:= -(2 ^ 62)<=j/\j < 2 ^ 62
instance (j:Int):Decidable (inR j):=by unfold inR;infer_instance
noncomputable def rng1 (ds:List D) (G:DH):R ItD:=match ds with
 | [.int j]=>if inR j then .ok (.pure (Cm 0 j.toNat)) G else .bad
 | _=>.bad
def Dg (f:List D->DH->R ItD) (ta:DA):DI:=λS G=>(ta S G).bind f
noncomputable def sWh (c:DB) (b:DS):Nat->DS
 | 0,_,_=>.bad
 | n + 1,S,G=>(c S G).toS λk G1=>if k=true then aft (b S G1) (sWh c b n) else .nx S G1
noncomputable def Bt (np nl:Nat) (b:DS):List D->DH->R D:=λds G=>if ds.length=np then tidy G (match b (ds.map some++zV nl none) G with
 | .nx _ G'=>.ok .non G'
 | .rt d G'=>.ok d G'
 | .err x G'=>.err x G'
 | _=>.bad) else .bad
theorem outI.mono (x:Ext a b) {r:R ItD} {Q:It->Hp->Prop} (h:outI E a r Q):outI E b r Q:=by
 cases r with
 | ok d G=>exact λc v y s q=>h c v (x.trans y) s q
 | err e G=>exact XOk.mono (E:=E) (e:=e) (G:=G) x h
 | bad=>exact h
theorem Ym {r:R (List D)} {f:List D->DH->R ItD} {Q:It->Hp->Prop} (h:outI E a (r.bind f) Q):
  H9 E a r (λvs H=>∃(b:Wd) (ds:List D) (G:DH),b.H=H/\Ext a b/\Sim b G/\Reps b ds vs/\r=.ok ds G/\outI E b (f ds G) Q):=by
 cases r with
 | ok d G=>exact λb v x s q=>⟨b,d,G,rfl,x,s,q,rfl,outI.mono x h⟩
 | err e G=>exact h
 | bad=>exact h
section
variable {X:Cx} {E:XK} {tg iter:xJ} {pos:Pos}
theorem ZQK (lo:Int) (n:Nat):RepI a (.pure (Cm lo n)) (Itr lo n):=by
 refine ⟨(zj n).map λ(k:Nat)=>V.int (lo + (k:Int)),?_,λb x i=>⟨λv hv=> ?_,λhl=> ?_⟩⟩
 ·unfold Cm;generalize zj n=l
  induction l with
  | nil=>exact rfl
  | cons k l ih=>exact ⟨_,_,rfl,rfl,ih⟩
 ·rw [zw] at hv;by_cases hi:i < n
  ·rw [zO hi] at hv;have hv':V.int (lo + (i:Int))=v:=by simpa using hv
   exact ⟨hi,λw H' y=>⟨y.2.trans hv',y.1⟩⟩
  ·rw [z5 (by simpa using hi)] at hv;cases hv
 ·show n<=i;simpa using hl
theorem I8 {ta:DA} {p pos:Pos} (hg:Gl X "range") (hm:X.mg "range"=none) (ha:QA X E [e] ta) (hs:vQ [e] X.env= [(false,eval e X.env)]:=by rfl):QI X E tg (.Call (.Name "range" p) [e] [] pos) (Dg rng1 ta):=
 (ZLT hg hm ha hs).mono λσ H Q h=>by
  obtain ⟨a,S,G,hk,rfl,s,r,h⟩:=h;refine ⟨a,S,G,hk,rfl,s,r,(Ym h).imp ?_⟩;rintro vs _ ⟨b,ds,G1,rfl,x,s1,q,-,h1⟩;unfold rng1 at h1;split at h1
  ·rename_i j;split at h1
   ·rename_i hj;obtain ⟨v,r,e1,q1,q2⟩:=q
    cases (show v=V.int j from q1)
    cases (show r= [] from q2)
    exact ⟨j,e1,hj.1,hj.2,h1 b _ (Ext.refl b) s1 (ZQK 0 j.toNat)⟩
   ·exact h1.elim
  ·exact h1.elim
theorem ZJr (n:Nat) {c:xJ} {body:List xq} {tc:DB} {tb:DS} (hp:PassesOwn (xR X.prog X.w) X.A X.env X.xe) (hc:QT X E c tc) (hb:QSs X E body tb):QS X E (.While c body [] pos) (sWh tc tb n):=(ZMx hp hc hb).mono λW σ H h=>by
 obtain ⟨a,S,G,hk,rfl,s,r,h⟩:=h;refine ⟨λm σ H=>∃(b:Wd) (S:DSt) (G:DH),b.H=H/\Ext a b/\Sim b G/\RepS b S σ/\Di E b (sWh tc tb m S G) W,⟨n,a,S,G,rfl,Ext.refl a,s,r,h⟩,?_⟩;rintro m σ2 _ ⟨b,S2,G2,rfl,x2,s2,r2,h2⟩;cases m with
 | zero=>exact h2.elim
 | succ m=>
  refine ⟨b,S2,G2,x2.k.trans hk,rfl,s2,r2,(ZFo h2).imp ?_⟩;rintro k _ ⟨c3,G3,rfl,x3,s3,_,h3⟩;cases k with
  | false=>exact h3 c3 σ2 (Ext.refl c3) s3 (r2.mono x3)
  | true=>
   refine ⟨λσ' H'=>∃(b:Wd) (S:DSt) (G:DH),b.H=H'/\Ext a b/\Sim b G/\RepS b S σ'/\Di E b (sWh tc tb m S G) W,λσ' H' z=>⟨m,qq _,z⟩,c3,S2,G3,x3.k.trans (x2.k.trans hk),rfl,s3,r2.mono x3,?_⟩;have fin:=ZJL h3
   revert fin
   cases tb S2 G3 with
   | nx S4 G4=>
    intro fin c4 σ4 x4 s4 q4;obtain ⟨c5,S5,G5,hh,x5,s5,r5,h5⟩:=fin c4 σ4 x4 s4 q4;exact ⟨c5,S5,G5,hh,x2.trans (x3.trans x5),s5,r5,h5⟩
   | ct S4 G4=>
    intro fin c4 σ4 x4 s4 q4;obtain ⟨c5,S5,G5,hh,x5,s5,r5,h5⟩:=fin c4 σ4 x4 s4 q4;exact ⟨c5,S5,G5,hh,x2.trans (x3.trans x5),s5,r5,h5⟩
   | bk S4 G4=>exact λfin=>fin
   | rt S4 G4=>exact λfin=>fin
   | err S4 G4=>exact λfin=>fin
   | bad=>exact λfin=>fin
end
theorem ZOB (r:Reps a ds vs) (n m:Nat) (h:n=m):RepS a (ds.map some++zV n none) (vs.map some++zV m none):=by
 subst h;refine ⟨by simp [r.length],λi d hd=> ?_⟩;by_cases hi:i < ds.length
 ·rw [zI (by simpa using hi),zw] at hd;cases e:ds[i]? with
  | none=>rw [e] at hd;cases hd
  | some d'=>
   rw [e] at hd;have hd':d'=d:=by simpa using hd
   subst hd';obtain ⟨v,ev,q⟩:=r.get e;exact ⟨v,by rw [zI (by rw [qW,<-r.length];exact hi),zw,ev];rfl,q⟩
 ·rw [zM (by simpa using hi),qT] at hd
  split at hd <;> cases hd
theorem Cd {mg:Str->Option xz} {base:Heap} {qual:Str} {st:xq} {f:xQ} {fd:xX} {N ps:List Str} {b:DS} (F:Fun K x qual st f fd) (S:FnScope N ps (Ax st))
  (hbody:∀(cdv:xz) (A:xZ) (outer:List Env) (s:xY) (H:Hp) (E:XK),Room k (A.deeper (envOfC qual (Ax st) s.heap.objs.size f cdv))->QSs (Ph CX0 P w K mg base N qual (Ax st) f cdv A outer s H E).nox E0 (Ip st) b):
  FnOk P w K mg base CX0 (k + 1) f fd ps (lF K (Bt ps.length (N.length - ps.length) b)):=by
 have hlen:∀vs H Q E,lF K (Bt ps.length (N.length - ps.length) b) vs H Q E->vs.length=ps.length:=λvs H Q E h=>by
  obtain ⟨a,G,ds,hk,rfl,sm,r,h⟩:=h;unfold Bt at h;split at h
  ·rename_i hl;rw [<-r.length];exact hl
  ·exact h.elim
 refine F.ok S hlen (λcdv A outer s H vs Q E hr h=> ?_);refine ⟨lS K E0 b,hbody cdv A outer s H E hr,?_⟩;have hl:=hlen vs H Q E h;obtain ⟨a,G,ds,hk,rfl,sm,r,h⟩:=h;unfold Bt at h;split at h
 ·have h2:=ZFd sm h;refine ⟨a,ds.map some++zV (N.length - ps.length) none,G,hk,rfl,sm,ZOB r _ _ (by rw [hl]),?_⟩
  revert h2
  cases b (ds.map some++zV (N.length - ps.length) none) G with
  | nx S1 G1=>exact λh2 c σ x s1 _=>h2 c .non x s1 rfl
  | rt d G1=>exact λh2=>h2
  | err e G1=>exact λh2=>h2
  | bk S1 G1=>exact λh2=>h2.elim
  | ct S1 G1=>exact λh2=>h2.elim
  | bad=>exact λh2=>h2
 ·exact h.elim
theorem Mh {x:V} (s:Sim a G) (r:Rep a d x) (h:By d G=some xs):∃p vs,x=.ref p/\(SqL a.K a.H p vs∨SqT a.K a.H p vs)/\Reps a xs vs:=by
 cases d with
 | tup ys=>
  have e:ys=xs:=Option.some.inj h;subst e;obtain ⟨p,vs,e,q,rr⟩:=r;exact ⟨p,vs,e,.inr q,rr⟩
 | fl ys=>
  have e:ys=xs:=Option.some.inj h;subst e;obtain ⟨p,vs,e,q,rr⟩:=r;exact ⟨p,vs,e,.inl q.sq,rr⟩
 | ref i=>
  unfold By at h;dsimp only at h;split at h
  ·rename_i ys hi;have e:ys=xs:=Option.some.inj h;subst e;obtain ⟨vs,e1,r1⟩:=s.lst hi;exact ⟨a.m i,vs,r.2,.inl (.of e1),r1⟩
  ·cases h
 | _=>cases h
noncomputable def Aj (d e:D) (G:DH):R D:=match e with
 | .int i=>match d with
  | .str z=>if z.length<=1000000 then (match atI z.cps.toList i with
    | some c=>.ok (.str ⟨#[c]⟩) G
    | none=>.bad) else .bad
  | d=>match By d G with
   | some xs=>match atI xs i with
    | some v=>.ok v G
    | none=>.bad
   | none=>.bad
 | _=>.bad
theorem ZG8 {i:Int} (r:Reps a xs vs) (h:atI xs i=some d):∃v,atI vs i=some v/\Rep a d v:=by
 unfold atI at h ⊢;rw [<-r.length];cases e:ixN xs.length i with
 | none=>rw [e] at h;cases h
 | some j=>
  rw [e] at h
  obtain ⟨v,ev,q⟩:=r.get (show xs[j]? =some d from h)
  exact ⟨v,ev,q⟩
section
variable {X:Cx} {E:XK}
theorem _root_.L2.IxR.mono {r r':R2} (h:IxR X r) (w:∀x y H Q,r' x y H Q->r x y H Q):IxR X r':=λvalue slice v8 s σ H x y v u Q I rx ry q hs=>h value slice v8 s σ H x y v u Q I rx ry (w _ _ _ _ q) hs
theorem _root_.L2.CallR.mono {f:xz} {r r':List V->Hp->VK->Prop} (h:CallR X f r) (w:∀xs H Q,r' xs H Q->r xs H Q):CallR X f r':=λv8 s σ H xs us Q I rs q=>h v8 s σ H xs us Q I rs (w _ _ _ q)
theorem _root_.L2.MtM.mono {id:String} {r r':V->List V->Hp->VK->Prop} (h:MtM X id r) (w:∀x xs H Q,r' x xs H Q->r x xs H Q):MtM X id r':=λv8 s σ H x xs v us Q I rx rs q=>h v8 s σ H x xs v us Q I rx rs (w _ _ _ _ q)
theorem Al:IxR X (lR2 X.K E Aj):=ZKx.mono λx y H Q h=>by
 obtain ⟨a,G,d,e,hk,rfl,s,rd,re,q⟩:=h;cases e with
 | int i=>
  have fin:∀{xs:List D},By d G=some xs->out E a (match atI xs i with | some v=>.ok v G | none=>.bad) Q->rIx X.K x y a.H Q:=λ{xs} hs q=>by
   obtain ⟨p,vs,e1,h1,r1⟩:=Mh s rd hs;rw [hk] at h1;split at q
   ·rename_i v hv;obtain ⟨u,hu,ru⟩:=ZG8 r1 hv;have z:=q a u (Ext.refl a) s ru;rcases h1 with h1 | h1
    ·exact .inl ⟨p,vs,i,u,e1,re,h1,hu,z⟩
    ·exact .inr (.inl ⟨p,vs,i,u,e1,re,h1,hu,z⟩)
   ·exact q.elim
  have fin':out E a (match By d G with | some xs=>(match atI xs i with | some v=>.ok v G | none=>.bad) | none=>.bad) Q->rIx X.K x y a.H Q:=λq=>by
   cases hs:By d G with
   | none=>rw [hs] at q;exact q.elim
   | some xs=>rw [hs] at q;exact fin hs q
  cases d with
  | str z=>
   unfold Aj at q;dsimp only at q;split at q
   ·rename_i hl;split at q
    ·rename_i c hc;exact .inr (.inr ⟨z,i,c,rd,re,zD hl size6,hc,q a _ (Ext.refl a) s rfl⟩)
    ·exact q.elim
   ·exact q.elim
  | tup ys=>exact fin' q
  | fl ys=>exact fin' q
  | ref j=>exact fin' q
  | _=>exact fin' q
 | _=>exact q.elim
noncomputable def Do (ds:List D) (G:DH):R D:=match ds with
 | [.str z]=>if z.length<=1000000 then .ok (.int z.length) G else .bad
 | [d]=>match By d G with
  | some xs=>.ok (.int xs.length) G
  | none=>.bad
 | _=>.bad
theorem reps1 (r:Reps a [d] vs):∃v,vs= [v]/\Rep a d v:=by
 obtain ⟨v,r',e,q,z⟩:=r
 cases (show r'= [] from z)
 exact ⟨v,e,q⟩
theorem reps2 {d':D} (r:Reps a [d,d'] vs):∃v v',vs= [v,v']/\Rep a d v/\Rep a d' v':=by obtain ⟨v,r',e,q,z⟩:=r;obtain ⟨v',e',q'⟩:=reps1 z;subst e';exact ⟨v,v',e,q,q'⟩
theorem Ef:CallR X (.builtin "len") (lRn X.K E Do):=(ZLv.or ZM2).mono λvs H Q h=>by
 obtain ⟨a,G,ds,hk,rfl,s,r,q⟩:=h;unfold Do at q;split at q
 ·rename_i z;split at q
  ·rename_i hl;obtain ⟨v,rfl,rv⟩:=reps1 r
   cases (show v=V.str z from rv)
   exact .inr ⟨z,rfl,zD hl size6,q a _ (Ext.refl a) s rfl⟩
  ·exact q.elim
 ·rename_i d _;split at q
  ·rename_i xs hs;obtain ⟨v,rfl,rv⟩:=reps1 r;obtain ⟨p,us,rfl,h1,r1⟩:=Mh s rv hs;rw [hk] at h1;exact .inl ⟨p,us,rfl,h1,q a _ (Ext.refl a) s (by rw [<-r1.length];exact rfl)⟩
  ·exact q.elim
 ·exact q.elim
noncomputable def Gp (ds:List D) (G:DH):R D:=match ds with
 | [d]=>match By d G with
  | some xs=>.ok (.tup xs) G
  | none=>.bad
 | _=>.bad
theorem Jo:CallR X (.type "tuple") (lRn X.K E Gp):=ZQt.mono λvs H Q h=>by
 obtain ⟨a,G,ds,hk,rfl,s,r,q⟩:=h;unfold Gp at q;split at q
 ·rename_i d;split at q
  ·rename_i xs hs;obtain ⟨v,rfl,rv⟩:=reps1 r;obtain ⟨p,us,rfl,h1,r1⟩:=Mh s rv hs;refine ⟨p,us,rfl,?_⟩;rcases h1 with h1 | h1
   ·exact .inl ⟨by rw [<-hk];exact h1,λl hl=>ZCv s r1 q l hl⟩
   ·exact .inr ⟨by rw [<-hk];exact h1,q a _ (Ext.refl a) s ⟨p,us,rfl,h1,r1⟩⟩
  ·exact q.elim
 ·exact q.elim
noncomputable def Ob (ds:List D) (G:DH):R D:=match ds with
 | [.str z]=>if z.length<=1000000 then .ok (.ref G.length) (G++ [.lst (signs z)]) else .bad
 | [d]=>match By d G with
  | some xs=>.ok (.ref G.length) (G++ [.lst xs])
  | none=>.bad
 | _=>.bad
theorem ZBX:∀{vs:List V} {us:List xz},vs.length=us.length->(∀(i:Nat) (v:V) (u:xz),vs[i]? =some v->us[i]? =some u->RelV v u)->Vals vs us
 | [],[],_,_=>.nil
 | [],_::_,h,_=>by cases h
 | _::_,[],h,_=>by cases h
 | v::vs,u::us,h,f=>.cons (f 0 v u rfl rfl) (ZBX (by simpa using h) λi v' u' h1 h2=>f (i + 1) v' u' (by simpa using h1) (by simpa using h2))
theorem ZNT (hc:X.calm=true):CallR X (.type "list") (λxs H Q=>∃z:Str,xs= [.str z]/\z.length<=sizeLine/\∀l,H l=none->Q (.ref l) (upd H l (.lst (z.cps.toList.map λc=>V.str ⟨#[c]⟩)))):=by
 intro v8 s σ H xs us Q I r h;obtain ⟨z,rfl,hz,q⟩:=h;obtain ⟨u,rfl,t,rfl⟩:=vals1 r;refine PySem.call_list_str (I.ok.hd hc) z t (λh' tk acc c hk hS hacc=> ?_) hz;have hn:H s.heap.objs.size=none:=I.hok.fresh (zW _);refine ⟨.ref s.heap.objs.size,upd H s.heap.objs.size (.lst (z.cps.toList.map λc=>V.str ⟨#[c]⟩)),I.laid (t':=tk) (h':=h') hk (zW _) ?_,rfl,q _ hn⟩;refine ⟨by rw [qW,q9];exact hz,acc.toList,c,ZBX ?_ λi v u h1 h2=> ?_,by simpa using hS⟩
 ·rw [qW,q9,q9];exact hacc.1.symm
 ·rw [zw,zP] at h1;obtain ⟨k,e1,rfl⟩:=h1;obtain ⟨k',t',e2,rfl⟩:=hacc.2 i u (by rw [<-qM];exact h2);rw [qM,e2] at e1;cases e1;exact ⟨t',rfl⟩
theorem ZER (hc:X.calm=true):CallR X (.type "list") (lRn X.K E Ob):=(ZLg.or (ZNT hc)).mono λvs H Q h=>by
 obtain ⟨a,G,ds,hk,rfl,s,r,q⟩:=h;unfold Ob at q;split at q
 ·rename_i z;split at q
  ·rename_i hl;obtain ⟨v,rfl,rv⟩:=reps1 r
   cases (show v=V.str z from rv)
   exact .inr ⟨z,rfl,zD hl size6,λl hl=>Mj s (Reps.signs z) q l hl⟩
  ·exact q.elim
 ·rename_i d _;split at q
  ·rename_i xs hs;obtain ⟨v,rfl,rv⟩:=reps1 r;obtain ⟨p,us,rfl,h1,r1⟩:=Mh s rv hs;exact .inl ⟨p,us,rfl,by rw [<-hk];exact h1,λl hl=>Mj s r1 q l hl⟩
  ·exact q.elim
 ·exact q.elim
noncomputable def Y9 (ds:List D) (G:DH):R D:=match ds with
 | [.int i,.int j]=>.ok (.int (if j > i then j else i)) G
 | _=>.bad
noncomputable def Oc (ds:List D) (G:DH):R D:=match ds with
 | [.int i,.int j]=>.ok (.int (if j < i then j else i)) G
 | _=>.bad
theorem ZNv (hc:X.calm=true):CallR X (.builtin "max") (lRn X.K E Y9):=(ZP5 hc).mono λvs H Q h=>by
 obtain ⟨a,G,ds,hk,rfl,s,r,q⟩:=h;unfold Y9 at q;split at q
 ·obtain ⟨v,v',rfl,h1,h2⟩:=reps2 r
  cases (show v=V.int _ from h1)
  cases (show v'=V.int _ from h2)
  exact ⟨_,_,rfl,q a _ (Ext.refl a) s rfl⟩
 ·exact q.elim
theorem Z8 (hc:X.calm=true):CallR X (.builtin "min") (lRn X.K E Oc):=(ZK1 hc).mono λvs H Q h=>by
 obtain ⟨a,G,ds,hk,rfl,s,r,q⟩:=h;unfold Oc at q;split at q
 ·obtain ⟨v,v',rfl,h1,h2⟩:=reps2 r
  cases (show v=V.int _ from h1)
  cases (show v'=V.int _ from h2)
  exact ⟨_,_,rfl,q a _ (Ext.refl a) s rfl⟩
 ·exact q.elim
noncomputable def K5 (ds:List D) (G:DH):R D:=match ds with
 | [.int i]=>.ok (.int i) G
 | [.bl k]=>.ok (.int (if k then 1 else 0)) G
 | _=>.bad
theorem ZEb:CallR X (.type "int") (lRn X.K E K5):=ZMe.mono λvs H Q h=>by
 obtain ⟨a,G,ds,hk,rfl,s,r,q⟩:=h;unfold K5 at q;split at q
 ·obtain ⟨v,rfl,h1⟩:=reps1 r
  cases (show v=V.int _ from h1)
  exact .inl ⟨_,rfl,q a _ (Ext.refl a) s rfl⟩
 ·obtain ⟨v,rfl,h1⟩:=reps1 r
  cases (show v=V.bl _ from h1)
  exact .inr ⟨_,rfl,q a _ (Ext.refl a) s rfl⟩
 ·exact q.elim
noncomputable def Fp (o:D) (ds:List D) (G:DH):R D:=match o,ds with
 | .ref i,[d]=>match G[i]? with
  | some (.lst xs)=>if xs.length < 1000000 then .ok .non (G.set i (.lst (xs++ [d]))) else .bad
  | _=>.bad
 | _,_=>.bad
noncomputable def lRm (K:PySem.W.Frag) (E:XK) (f:D->List D->DH->R D):V->List V->Hp->VK->Prop:=λx xs H Q=>∃(a:Wd) (G:DH) (d:D) (ds:List D),a.K=K/\a.H=H/\Sim a G/\Rep a d x/\Reps a ds xs/\out E a (f d ds G) Q
theorem Sim.isList (s:Sim a G) (h:G[i]? =some (.lst xs)):∃vs,SqL a.K a.H (a.m i) vs:=let ⟨vs,e,_⟩:=s.lst h;⟨vs,.of e⟩
theorem Hh:MtM X "list.append" (lRm X.K E Fp):=ZPC.mono λx xs H Q h=>by
 obtain ⟨a,G,d,ds,hk,rfl,s,rd,r,q⟩:=h;unfold Fp at q;split at q
 ·rename_i i d;obtain ⟨v,rfl,rv⟩:=reps1 r;split at q
  ·rename_i ys hy;split at q
   ·rename_i hl;obtain ⟨vs,e1,r1⟩:=s.lst hy;obtain ⟨x3,s3⟩:=ZB9 s rd.1 e1 (r1.append (Reps.cons rv Reps.nil));refine ⟨a.m i,vs,v,rd.2,rfl,e1,by rw [<-r1.length];exact zq hl size6,?_⟩;exact q _ .non x3 s3 rfl
   ·exact q.elim
  ·exact q.elim
 ·exact q.elim
variable {o e:xJ} {es:List xJ} {to:DE} {t:DA} {name:Str} {apos cpos:Pos} {T id:String} {f:D->List D->DH->R D}
noncomputable def isL (d:D) (G:DH):Bool:=match d with
 | .ref i=>match G[i]? with
  | some (.lst _)=>true
  | _=>false
 | .fl _=>true
 | _=>false
noncomputable def Fv (f:D->List D->DH->R D) (o:DE) (t:DA):DE:=λS G=>(o S G).bind λx G1=>if isL x G1=true then (t S G1).bind λxs G2=>f x xs G2 else .bad
theorem ZMI {x:V} (s:Sim a G) (r:Rep a d x) (h:isL d G=true):tyV a.K "list" x a.H:=by
 cases d with
 | ref i=>
  unfold isL at h;dsimp only at h;split at h
  ·rename_i xs hx;cases r.2;exact .inl ⟨rfl,s.isList hx⟩
  ·cases h
 | fl xs=>
  obtain ⟨p,vs,rfl,q,_⟩:=r;exact .inl ⟨rfl,vs,q.sq⟩
 | _=>cases h
theorem Hd (slot:Slot "list" name id) (hty:typeOf (.builtin id)=pure (.type "method_descriptor")) (hm:MtM X id (lRm X.K E f)) (ho:QE X E o to) (ha:QA X E (e::es) t)
  (hbase:xk o name X.env (eval o X.env)=eval o X.env:=by rfl)
  (hfew:((xy cpos (vQ (e::es) X.env)).all (λx=> !x.1) && (backToKw cpos (xN [] X.env)).all (λx=>x.1.isSome)
   && decide ((e::es).length + ([]:List Keyword).length + (if ([]:List Keyword).isEmpty then 0 else 1) < 30))=true:=by rfl)
  (hline:(apos.endLine == cpos.line)=true:=by rfl) (hs:vQ (e::es) X.env=(false,eval e X.env)::vQ es X.env:=by rfl) (hplain:(xy cpos (vQ es X.env)).any (·.1)=false:=by rfl):
  QE X E (.Call (.Attribute o name apos) (e::es) [] cpos) (Fv f to t):=(ZPk PySem.F.plainAttrs_list slot hty hm ho ha hbase hfew hline hs hplain).mono λσ H Q h=>by
 obtain ⟨a,S,G,hk,rfl,s,r,h⟩:=h;refine ⟨a,S,G,hk,rfl,s,r,(Gn h).imp ?_⟩;rintro v _ ⟨b,d,G1,rfl,x,s1,q,-,h1⟩;split at h1
 ·rename_i hl;have ty:=ZMI s1 q hl;rw [x.k,hk] at ty;refine ⟨ty,b,S,G1,x.k.trans hk,rfl,s1,r.mono x,(Nx h1).imp ?_⟩;rintro vs _ ⟨c,ds,G2,rfl,y,s2,q2,-,h2⟩;exact ⟨c,G2,d,ds,y.k.trans (x.k.trans hk),rfl,s2,q.mono y,q2,h2⟩
 ·exact h1.elim
end
inductive Ty where | non | bl | int | str | tup | lst
noncomputable def tyD (G:DH):D->Option Ty
 | .non=>some .non
 | .bl _=>some .bl
 | .int _=>some .int
 | .str _=>some .str
 | .tup _=>some .tup
 | .fl _=>some .lst
 | .ref i=>match G[i]? with
  | some (.lst _)=>some .lst
  | _=>none
 | .ty _=>none
noncomputable def Ty.sub (t:Ty):String->Option Bool
 | "int"=>some (match t with | .int=>true | .bl=>true | _=>false)
 | "bool"=>some (match t with | .bl=>true | _=>false)
 | "str"=>some (match t with | .str=>true | _=>false)
 | "tuple"=>some (match t with | .tup=>true | _=>false)
 | "list"=>some (match t with | .lst=>true | _=>false)
 | _=>none
noncomputable def Ge (ds:List D) (G:DH):R D:=match ds with
 | [d,.ty T]=>match tyD G d with
  | some t=>match t.sub T with
   | some k=>.ok (.bl k) G
   | none=>.bad
  | none=>.bad
 | _=>.bad
section
variable {prog:xW} {w:xj} {A:xZ} {E:xz->xY->Prop} {s:xY}
theorem Pa {x:xz} {Tx T:String} {Q:xz->xY->Prop} (hx:s.TypeIs x Tx) (hty:typeOf (.type T)=pure (.type "type")) (hsub:xF (.type Tx) (.type T)=pure true) (h:Q (.bool true) s):
  vJ (xR prog w) A (call (.builtin "isinstance") [x,.type T]) Q E s:=xC (isinstance_true hty hsub) ⟨hx,h⟩
end
theorem ty_int:typeOf (.type "int")=pure (.type "type"):=by with_unfolding_all rfl
theorem ty_bool:typeOf (.type "bool")=pure (.type "type"):=by with_unfolding_all rfl
theorem ty_str:typeOf (.type "str")=pure (.type "type"):=by with_unfolding_all rfl
theorem ty_tuple:typeOf (.type "tuple")=pure (.type "type"):=by with_unfolding_all rfl
theorem ty_list:typeOf (.type "list")=pure (.type "type"):=by with_unfolding_all rfl
theorem ZRl:xF (.type "NoneType") (.type "int")=pure false:=by with_unfolding_all rfl
theorem ZPK:xF (.type "NoneType") (.type "bool")=pure false:=by with_unfolding_all rfl
theorem ZND:xF (.type "NoneType") (.type "str")=pure false:=by with_unfolding_all rfl
theorem ZKN:xF (.type "NoneType") (.type "tuple")=pure false:=by with_unfolding_all rfl
theorem ZMS:xF (.type "NoneType") (.type "list")=pure false:=by with_unfolding_all rfl
theorem ZP4:xF (.type "bool") (.type "int")=pure true:=by with_unfolding_all rfl
theorem ZNK:xF (.type "bool") (.type "bool")=pure true:=by with_unfolding_all rfl
theorem ZOo:xF (.type "bool") (.type "str")=pure false:=by with_unfolding_all rfl
theorem ZM7:xF (.type "bool") (.type "tuple")=pure false:=by with_unfolding_all rfl
theorem ZNk:xF (.type "bool") (.type "list")=pure false:=by with_unfolding_all rfl
theorem ZNx:xF (.type "int") (.type "int")=pure true:=by with_unfolding_all rfl
theorem ZQN:xF (.type "int") (.type "bool")=pure false:=by with_unfolding_all rfl
theorem ZRJ:xF (.type "int") (.type "str")=pure false:=by with_unfolding_all rfl
theorem ZPH:xF (.type "int") (.type "tuple")=pure false:=by with_unfolding_all rfl
theorem ZKQ:xF (.type "int") (.type "list")=pure false:=by with_unfolding_all rfl
theorem ZPB:xF (.type "str") (.type "int")=pure false:=by with_unfolding_all rfl
theorem ZLX:xF (.type "str") (.type "bool")=pure false:=by with_unfolding_all rfl
theorem ZKp:xF (.type "str") (.type "str")=pure true:=by with_unfolding_all rfl
theorem ZOZ:xF (.type "str") (.type "tuple")=pure false:=by with_unfolding_all rfl
theorem ZNH:xF (.type "str") (.type "list")=pure false:=by with_unfolding_all rfl
theorem ZNw:xF (.type "tuple") (.type "int")=pure false:=by with_unfolding_all rfl
theorem ZRY:xF (.type "tuple") (.type "bool")=pure false:=by with_unfolding_all rfl
theorem ZMm:xF (.type "tuple") (.type "str")=pure false:=by with_unfolding_all rfl
theorem ZKd:xF (.type "tuple") (.type "tuple")=pure true:=by with_unfolding_all rfl
theorem ZL1:xF (.type "tuple") (.type "list")=pure false:=by with_unfolding_all rfl
theorem ZHH:xF (.type "list") (.type "int")=pure false:=by with_unfolding_all rfl
theorem ZET:xF (.type "list") (.type "bool")=pure false:=by with_unfolding_all rfl
theorem ZFY:xF (.type "list") (.type "str")=pure false:=by with_unfolding_all rfl
theorem ZHQ:xF (.type "list") (.type "tuple")=pure false:=by with_unfolding_all rfl
theorem ZHS:xF (.type "list") (.type "list")=pure true:=by with_unfolding_all rfl
section
variable {X:Cx} {E:XK}
theorem Oz:CallR X (.builtin "isinstance") (lRn X.K E Ge):=by
 intro v8 s σ H vs us Q I rs h;obtain ⟨a,G,ds,hk,rfl,sm,r,q⟩:=h;unfold Ge at q;split at q
 ·rename_i d T;obtain ⟨v,v',rfl,h1,h2⟩:=reps2 r
  cases (show v'=V.ty T from h2)
  obtain ⟨u,u',rfl,ru,ru'⟩:∃u u',us= [u,u']/\RelV v u/\RelV (.ty T) u':=by
   cases rs with
   | cons p q=>cases q with
    | cons p' q'=>cases q';exact ⟨_,_,rfl,p,p'⟩
  cases (show u'=Value.type T from ru')
  split at q
  ·rename_i t ht;split at q
   ·rename_i k hk';have fin:∀{n:Nat},EP X v8 σ Q (.bool k) {s with toks:=n}:=λ{n}=>⟨.bl k,a.H,I.tok _,rfl,q a _ (Ext.refl a) sm rfl⟩
    have fin0:EP X v8 σ Q (.bool k) s:=⟨.bl k,a.H,I,rfl,q a _ (Ext.refl a) sm rfl⟩;unfold Ty.sub at hk';split at hk'
    ·cases d with
     | non=>
      cases ht;cases hk'
      cases (show v=_ from h1)
      cases ru;exact xC (xI (by decide) ty_int ZRl) fin
     | bl b=>
      cases ht;cases hk'
      cases (show v=_ from h1)
      cases ru;exact Pa (Tx:="bool") rfl ty_int ZP4 fin0
     | int b=>
      cases ht;cases hk'
      cases (show v=_ from h1)
      obtain ⟨tk,rfl⟩:=ru;exact Pa (Tx:="int") (typeIs_int s _ _) ty_int ZNx fin0
     | str b=>
      cases ht;cases hk'
      cases (show v=_ from h1)
      obtain ⟨tk,rfl⟩:=ru;exact xC (xL (by decide) ty_int ZPB) fin
     | tup b=>
      cases ht;cases hk';obtain ⟨p,ws,rfl,hq,_⟩:=h1;cases ru;rw [hk] at hq;obtain ⟨its,_,pl,_⟩:=I.tuple hq;exact xC (xM (by decide) ty_int ZNw) ⟨(let ⟨o,e,c,_⟩:=pl;⟨o,e,c⟩),fin⟩
     | fl b=>
      cases ht;cases hk';obtain ⟨p,ws,rfl,hq,_⟩:=h1;cases ru;have hq:=hq.sq;rw [hk] at hq;obtain ⟨its,_,pl,_⟩:=I.list hq;exact xC (xH (by decide) ty_int ZHH) ⟨(let ⟨o,e,c,_⟩:=pl.isList;⟨o,e,c⟩),fin⟩
     | ref b=>
      unfold tyD at ht;dsimp only at ht;split at ht
      ·rename_i xs hx;cases ht;cases hk';obtain ⟨ws,e1,_⟩:=sm.lst hx;cases h1.2;cases ru;obtain ⟨its,_,pl,_⟩:=I.list (.of e1);exact xC (xH (by decide) ty_int ZHH) ⟨(let ⟨o,e,c,_⟩:=pl.isList;⟨o,e,c⟩),fin⟩
      ·cases ht
     | ty n=>cases ht
    ·cases d with
     | non=>
      cases ht;cases hk'
      cases (show v=_ from h1)
      cases ru;exact xC (xI (by decide) ty_bool ZPK) fin
     | bl b=>
      cases ht;cases hk'
      cases (show v=_ from h1)
      cases ru;exact Pa (Tx:="bool") rfl ty_bool ZNK fin0
     | int b=>
      cases ht;cases hk'
      cases (show v=_ from h1)
      obtain ⟨tk,rfl⟩:=ru;exact xC (xG (by decide) ty_bool ZQN) fin
     | str b=>
      cases ht;cases hk'
      cases (show v=_ from h1)
      obtain ⟨tk,rfl⟩:=ru;exact xC (xL (by decide) ty_bool ZLX) fin
     | tup b=>
      cases ht;cases hk';obtain ⟨p,ws,rfl,hq,_⟩:=h1;cases ru;rw [hk] at hq;obtain ⟨its,_,pl,_⟩:=I.tuple hq;exact xC (xM (by decide) ty_bool ZRY) ⟨(let ⟨o,e,c,_⟩:=pl;⟨o,e,c⟩),fin⟩
     | fl b=>
      cases ht;cases hk';obtain ⟨p,ws,rfl,hq,_⟩:=h1;cases ru;have hq:=hq.sq;rw [hk] at hq;obtain ⟨its,_,pl,_⟩:=I.list hq;exact xC (xH (by decide) ty_bool ZET) ⟨(let ⟨o,e,c,_⟩:=pl.isList;⟨o,e,c⟩),fin⟩
     | ref b=>
      unfold tyD at ht;dsimp only at ht;split at ht
      ·rename_i xs hx;cases ht;cases hk';obtain ⟨ws,e1,_⟩:=sm.lst hx;cases h1.2;cases ru;obtain ⟨its,_,pl,_⟩:=I.list (.of e1);exact xC (xH (by decide) ty_bool ZET) ⟨(let ⟨o,e,c,_⟩:=pl.isList;⟨o,e,c⟩),fin⟩
      ·cases ht
     | ty n=>cases ht
    ·cases d with
     | non=>
      cases ht;cases hk'
      cases (show v=_ from h1)
      cases ru;exact xC (xI (by decide) ty_str ZND) fin
     | bl b=>
      cases ht;cases hk'
      cases (show v=_ from h1)
      cases ru;exact xC (isinstance_false_bool (by decide) ty_str ZOo) fin
     | int b=>
      cases ht;cases hk'
      cases (show v=_ from h1)
      obtain ⟨tk,rfl⟩:=ru;exact xC (xG (by decide) ty_str ZRJ) fin
     | str b=>
      cases ht;cases hk'
      cases (show v=_ from h1)
      obtain ⟨tk,rfl⟩:=ru;exact Pa (Tx:="str") (typeIs_str s _ _) ty_str ZKp fin0
     | tup b=>
      cases ht;cases hk';obtain ⟨p,ws,rfl,hq,_⟩:=h1;cases ru;rw [hk] at hq;obtain ⟨its,_,pl,_⟩:=I.tuple hq;exact xC (xM (by decide) ty_str ZMm) ⟨(let ⟨o,e,c,_⟩:=pl;⟨o,e,c⟩),fin⟩
     | fl b=>
      cases ht;cases hk';obtain ⟨p,ws,rfl,hq,_⟩:=h1;cases ru;have hq:=hq.sq;rw [hk] at hq;obtain ⟨its,_,pl,_⟩:=I.list hq;exact xC (xH (by decide) ty_str ZFY) ⟨(let ⟨o,e,c,_⟩:=pl.isList;⟨o,e,c⟩),fin⟩
     | ref b=>
      unfold tyD at ht;dsimp only at ht;split at ht
      ·rename_i xs hx;cases ht;cases hk';obtain ⟨ws,e1,_⟩:=sm.lst hx;cases h1.2;cases ru;obtain ⟨its,_,pl,_⟩:=I.list (.of e1);exact xC (xH (by decide) ty_str ZFY) ⟨(let ⟨o,e,c,_⟩:=pl.isList;⟨o,e,c⟩),fin⟩
      ·cases ht
     | ty n=>cases ht
    ·cases d with
     | non=>
      cases ht;cases hk'
      cases (show v=_ from h1)
      cases ru;exact xC (xI (by decide) ty_tuple ZKN) fin
     | bl b=>
      cases ht;cases hk'
      cases (show v=_ from h1)
      cases ru;exact xC (isinstance_false_bool (by decide) ty_tuple ZM7) fin
     | int b=>
      cases ht;cases hk'
      cases (show v=_ from h1)
      obtain ⟨tk,rfl⟩:=ru;exact xC (xG (by decide) ty_tuple ZPH) fin
     | str b=>
      cases ht;cases hk'
      cases (show v=_ from h1)
      obtain ⟨tk,rfl⟩:=ru;exact xC (xL (by decide) ty_tuple ZOZ) fin
     | tup b=>
      cases ht;cases hk';obtain ⟨p,ws,rfl,hq,_⟩:=h1;cases ru;rw [hk] at hq;obtain ⟨its,_,pl,_⟩:=I.tuple hq;exact Pa (Tx:="tuple") pl.typeIs ty_tuple ZKd fin0
     | fl b=>
      cases ht;cases hk';obtain ⟨p,ws,rfl,hq,_⟩:=h1;cases ru;have hq:=hq.sq;rw [hk] at hq;obtain ⟨its,_,pl,_⟩:=I.list hq;exact xC (xH (by decide) ty_tuple ZHQ) ⟨(let ⟨o,e,c,_⟩:=pl.isList;⟨o,e,c⟩),fin⟩
     | ref b=>
      unfold tyD at ht;dsimp only at ht;split at ht
      ·rename_i xs hx;cases ht;cases hk';obtain ⟨ws,e1,_⟩:=sm.lst hx;cases h1.2;cases ru;obtain ⟨its,_,pl,_⟩:=I.list (.of e1);exact xC (xH (by decide) ty_tuple ZHQ) ⟨(let ⟨o,e,c,_⟩:=pl.isList;⟨o,e,c⟩),fin⟩
      ·cases ht
     | ty n=>cases ht
    ·cases d with
     | non=>
      cases ht;cases hk'
      cases (show v=_ from h1)
      cases ru;exact xC (xI (by decide) ty_list ZMS) fin
     | bl b=>
      cases ht;cases hk'
      cases (show v=_ from h1)
      cases ru;exact xC (isinstance_false_bool (by decide) ty_list ZNk) fin
     | int b=>
      cases ht;cases hk'
      cases (show v=_ from h1)
      obtain ⟨tk,rfl⟩:=ru;exact xC (xG (by decide) ty_list ZKQ) fin
     | str b=>
      cases ht;cases hk'
      cases (show v=_ from h1)
      obtain ⟨tk,rfl⟩:=ru;exact xC (xL (by decide) ty_list ZNH) fin
     | tup b=>
      cases ht;cases hk';obtain ⟨p,ws,rfl,hq,_⟩:=h1;cases ru;rw [hk] at hq;obtain ⟨its,_,pl,_⟩:=I.tuple hq;exact xC (xM (by decide) ty_list ZL1) ⟨(let ⟨o,e,c,_⟩:=pl;⟨o,e,c⟩),fin⟩
     | fl b=>
      cases ht;cases hk';obtain ⟨p,ws,rfl,hq,_⟩:=h1;cases ru;have hq:=hq.sq;rw [hk] at hq;obtain ⟨its,_,pl,_⟩:=I.list hq;exact Pa (Tx:="list") pl.isList.typeIs ty_list ZHS fin0
     | ref b=>
      unfold tyD at ht;dsimp only at ht;split at ht
      ·rename_i xs hx;cases ht;cases hk';obtain ⟨ws,e1,_⟩:=sm.lst hx;cases h1.2;cases ru;obtain ⟨its,_,pl,_⟩:=I.list (.of e1);exact Pa (Tx:="list") pl.isList.typeIs ty_list ZHS fin0
      ·cases ht
     | ty n=>cases ht
    ·cases hk'
   ·exact q.elim
  ·exact q.elim
 ·exact q.elim
end
noncomputable def Hg:List D->Option (List Int)
 | []=>some []
 | .int i::r=>(Hg r).map (i::·)
 | _=>none
noncomputable def Iw:List D->Option (List Bool)
 | []=>some []
 | .bl i::r=>(Iw r).map (i::·)
 | _=>none
@[simp] theorem ZBL (ns:List Int):Hg (ns.map D.int)=some ns:=by
 induction ns with
 | nil=>rfl
 | cons n ns ih=>simp [Hg,ih]
@[simp] theorem ZSx (ns:List Bool):Iw (ns.map D.bl)=some ns:=by
 induction ns with
 | nil=>rfl
 | cons n ns ih=>simp [Iw,ih]
theorem Zn:∀{xs:List D} {ns:List Int},Hg xs=some ns->xs=ns.map D.int
 | [],ns,h=>by cases h;rfl
 | .int i::r,ns,h=>by simp only [Hg,zP] at h;obtain ⟨ms,h1,rfl⟩:=h;rw [zA,Zn h1]
 | .non::r,ns,h=>by simp [Hg] at h
 | .bl _::r,ns,h=>by simp [Hg] at h
 | .str _::r,ns,h=>by simp [Hg] at h
 | .ty _::r,ns,h=>by simp [Hg] at h
 | .tup _::r,ns,h=>by simp [Hg] at h
 | .fl _::r,ns,h=>by simp [Hg] at h
 | .ref _::r,ns,h=>by simp [Hg] at h
theorem ZGM:∀{xs:List D} {ns:List Bool},Iw xs=some ns->xs=ns.map D.bl
 | [],ns,h=>by cases h;rfl
 | .bl i::r,ns,h=>by simp only [Iw,zP] at h;obtain ⟨ms,h1,rfl⟩:=h;rw [zA,ZGM h1]
 | .non::r,ns,h=>by simp [Iw] at h
 | .int _::r,ns,h=>by simp [Iw] at h
 | .str _::r,ns,h=>by simp [Iw] at h
 | .ty _::r,ns,h=>by simp [Iw] at h
 | .tup _::r,ns,h=>by simp [Iw] at h
 | .fl _::r,ns,h=>by simp [Iw] at h
 | .ref _::r,ns,h=>by simp [Iw] at h
noncomputable def Vh (ds:List D) (G:DH):R D:=match ds with
 | [d]=>match By d G with
  | some xs=>match Iw xs with
   | some ns=>.ok (.bl (ns.all id)) G
   | none=>.bad
  | none=>.bad
 | _=>.bad
section
variable {X:Cx} {E:XK} {v8:List (xQ×Obj)} {σ:St} {s:xY} {H:Hp}
theorem ZDX (I:Inv X v8 σ H s) (hc:X.calm=true) (h:SqL X.K H p vs∨SqT X.K H p vs) {E':xz->xY->Prop} {Q:xz->xY->Prop}
  (hQ:∀(it:xQ) (fp wr:List xQ) (its:List xz) (St:Nat->Heap->Prop) (s₂:xY),Vals vs its->Walks X.prog X.w X.A.in1 it fp wr its.toArray.size (λi v=>its.toArray[i]? =some v) St->St 0 s₂.heap->(∀b∈fp,b < s₂.heap.objs.size)->
   (∀h' tk,(∀b o,b ∉ wr->s₂.heap.get? b=some o->h'.get? b=some o)->Inv X v8 σ H {s₂ with heap:=h',toks:=tk})->Q (.ref it) s₂):
  vJ (xR X.prog X.w) X.A.in1 (pyIter (.ref p)) Q E' s:=by
 have hh:X.A.in1.handled=none:=I.ok.hd hc;rcases h with h | h
 ·obtain ⟨its,r,pl,hz⟩:=I.list h;refine wpAny_pyIter_list pl.isList ?_;have hp:p < s.heap.objs.size:=by obtain ⟨o,e,_⟩:=pl.isList;exact zk e
  refine hQ _ _ _ its _ _ r (Walks.list hh _ p (zE hp) its.toArray) ⟨⟨_,zB _ rfl,rfl,rfl⟩,?_⟩ (λb hb=> ?_) λh' tk kk=> ?_
  ·obtain ⟨o,e,c⟩:=pl.isList;exact ⟨o,zJ _ e,c⟩
  ·show b < (s.heap.push _).objs.size;rw [qE];rcases zK.mp hb with rfl | hb
   ·exact qq _
   ·have e:b=p:=by simpa using hb
    subst e;exact qF hp
  ·refine I.kept λb o e=>kk b o (λhb=> ?_) (zJ _ e)
   have e2:b=s.heap.objs.size:=by simpa using hb
   subst e2;exact absurd (zk e) (qX _)
 ·obtain ⟨its,r,pl,hz⟩:=I.tuple h
  refine wpAny_pyIter_tuple (show s.heap.IsTuple p its.toArray from pl) ?_
  have hp:p < s.heap.objs.size:=by obtain ⟨o,e,_⟩:=pl;exact zk e
  refine hQ _ _ _ its _ _ r (Walks.tuple hh _ p (zE hp) its.toArray) ⟨⟨_,zB _ rfl,rfl,rfl⟩,?_⟩ (λb hb=> ?_) λh' tk kk=> ?_
  ·obtain ⟨o,e,c⟩:=pl;exact ⟨o,zJ _ e,c⟩
  ·show b < (s.heap.push _).objs.size;rw [qE];rcases zK.mp hb with rfl | hb
   ·exact qq _
   ·have e:b=p:=by simpa using hb
    subst e;exact qF hp
  ·refine I.kept λb o e=>kk b o (λhb=> ?_) (zJ _ e)
   have e2:b=s.heap.objs.size:=by simpa using hb
   subst e2;exact absurd (zk e) (qX _)
theorem ZBa:∀{ns:List Int} {vs:List V},Reps a (ns.map D.int) vs->vs=ns.map V.int
 | [],vs,h=>h
 | n::ns,vs,h=>by
  obtain ⟨v,r,e,h1,h2⟩:=h
  cases (show v=V.int n from h1)
  rw [e,ZBa h2]
  rfl
theorem ZGO:∀{ns:List Bool} {vs:List V},Reps a (ns.map D.bl) vs->vs=ns.map V.bl
 | [],vs,h=>h
 | n::ns,vs,h=>by
  obtain ⟨v,r,e,h1,h2⟩:=h
  cases (show v=V.bl n from h1)
  rw [e,ZGO h2]
  rfl
theorem all_range (ns:List Bool):(zj ns.length).all (λi=>ns.getD i true)=ns.all id:=by
 rw [Bool.eq_iff_iff,qk,qk];constructor
 ·intro h b hb;obtain ⟨i,hi,rfl⟩:=qD hb;simpa [hi] using h i (zS.mpr hi)
 ·intro h i hi;have hi':i < ns.length:=zS.mp hi;simpa [hi'] using h ns[i] (qz hi')
theorem ZKH (hc:X.calm=true):CallR X (.builtin "all") (lRn X.K E Vh):=by
 intro v8 s σ H vs us Q I rs h;obtain ⟨a,G,ds,hk,rfl,sm,r,q⟩:=h;unfold Vh at q;split at q
 ·rename_i d;obtain ⟨v,rfl,rv⟩:=reps1 r;split at q
  ·rename_i xs hs;split at q
   ·rename_i ns hn;cases ZGM hn;obtain ⟨p,ws,rfl,h1,r1⟩:=Mh sm rv hs;cases ZGO r1;rw [hk] at h1;obtain ⟨u,rfl,ru⟩:=vals1 rs;cases ru;refine call_all_walk (ZDX I hc h1 λit fp wr its St s₂ hv W st hfp fin=>⟨it,fp,wr,its.toArray.size,_,St,λi=>ns.getD i true,rfl,W,st,λi w s' Q' E' hw hQ'=> ?_,λh' tk kk=> ?_⟩)
    ·have hw':its[i]? =some w:=by simpa using hw
     have hl:i < (ns.map V.bl).length:=by rw [hv.length];exact (zF.mp hw').1
     have hl':i < ns.length:=by simpa using hl
     obtain ⟨u,hu,ru⟩:=hv.get (i:=i) (x:=V.bl ns[i]) (by simp [hl']);rw [hw'] at hu;cases hu;cases ru;refine v4 ?_;simpa [hl'] using hQ'
    ·refine ⟨.bl (ns.all id),a.H,fin h' tk kk,?_,q a _ (Ext.refl a) sm rfl⟩;have hl:its.toArray.size=ns.length:=by rw [zY,<-hv.length];simp
     rw [hl,all_range]
     rfl
   ·exact q.elim
  ·exact q.elim
 ·exact q.elim
end
section
variable {X:Cx} {v8:List (xQ×Obj)} {σ:St} {H:Hp} {s:xY}
theorem ZB4 {a:xQ} {o:HO} (I:Inv X v8 σ H s) (hn:H a=none) (hy:X.s₀.heap.objs.size<=a) (hL:a≠X.env.locals) (hc:∀x c,X.env.cells.lookup x=some c->c≠a) (hp:∀p∈X.pn++v8,p.1≠a)
  (new:ObjOk X.prog X.w (upd H a o) s.heap a o):Inv X v8 σ (upd H a o) s:=by
 have ne:∀b u,H b=some u->b≠a:=λb u e z=>by rw [z,hn] at e;cases e
 refine ⟨I.ok,I.os,I.bare,⟨I.base.keep,I.base.slot,λb ob q n hx=> ?_,I.base.there,λb xs q=> ?_,λb ob u q=> ?_,λb ps q=> ?_⟩,I.loc,I.cell,?_,λx c e=> ?_,λp hp'=> ?_,λb u e=> ?_,I.len⟩
 ·rw [Bd (zE (zq (zk q) hy))];exact I.base.free b ob q n hx
 ·have:=I.base.tups b xs q;rw [Bd (ne _ _ this)];exact this
 ·have:=I.base.frzs b ob u q;rw [Bd (ne _ _ this)];exact this
 ·obtain ⟨more,this⟩:=I.base.tbls b ps q;exact ⟨more,by rw [Bd (ne _ _ this)];exact this⟩
 ·rw [Bd (Ne.symm hL)];exact I.free
 ·rw [Bd (hc x c e)];exact I.Jm x c e
 ·obtain ⟨e1,e2,e3⟩:=I.pin p hp';exact ⟨e1,by rw [Bd (hp p hp')];exact e2,e3⟩
 ·by_cases hb:b=a
  ·subst hb;rw [Ha] at e;cases e;exact new
  ·rw [Bd hb] at e;exact (I.hok b u e).stay (λ_ _ _ q=>q) (λc q=>by rw [Bd (ne _ _ q)];exact q) λc xs q=>by rw [Bd (ne _ _ q)];exact q
end
noncomputable def G7 (env:Env):List (Str×xV)->List (Str×xQ)->List (Str×xQ)
 | [],cs=>cs
 | (n,k)::r,cs=>if (k == NameKind.free)=true then G7 env r ((n,(env.cells.lookup n).getD 0)::cs) else G7 env r cs
theorem ZIS (h:∀y∈scope.names,y.2=.free->∃c,env.cells.lookup y.1=some c):closureFor scope env=pure (G7 env scope.names []):=by
 unfold closureFor;obtain ⟨kind,names,g1,g2⟩:=scope;have key:∀(names:List (Str×xV)) (cs:List (Str×xQ)),(∀y∈names,y.2=.free->∃c,env.cells.lookup y.1=some c)->
   (forIn names cs (λx r=>match x with
    | (name,kind)=>if (kind == NameKind.free)=true then (do let c<-cellOf env name;pure (ForInStep.yield ((name,c)::r))) else pure (ForInStep.yield r)):Sem (List (Str×xQ)))=pure (G7 env names cs):=by
  intro names
  induction names with
  | nil=>intro cs _;rfl
  | cons y r ih=>
   intro cs hy;obtain ⟨n,k⟩:=y;rw [jT];by_cases hk:(k == NameKind.free)=true
   ·obtain ⟨c,hc⟩:=hy (n,k) zX (by simpa using hk)
    have e1:cellOf env n=pure c:=by unfold cellOf;rw [show env.cells.lookup n=some c from hc]
    have e2:G7 env ((n,k)::r) cs=G7 env r ((n,c)::cs):=by rw [G7,if_pos hk,show env.cells.lookup n=some c from hc];rfl
    rw [e2,<-ih ((n,c)::cs) λy' hy'=>hy y' (zZ _ hy')];simp only [hk,if_true,e1]
    rfl
   ·have e2:G7 env ((n,k)::r) cs=G7 env r cs:=by rw [G7,if_neg hk]
    rw [e2,<-ih cs λy' hy'=>hy y' (zZ _ hy')];simp only [hk]
    rfl
 have:=key names [] h;exact congrArg (λm:Sem (List (Str×xQ))=>m >>=λr=>pure r) this
theorem ZAi:∀{names:List (Str×xV)} {cs:List (Str×xQ)},(∀y∈names,y.2=.free->∃c,env.cells.lookup y.1=some c)->(∀p∈cs,env.cells.lookup p.1=some p.2)->∀p∈G7 env names cs,env.cells.lookup p.1=some p.2
 | [],cs,_,hc,p,hp=>hc p hp
 | (n,k)::r,cs,hn,hc,p,hp=>by
  rw [G7] at hp;split at hp
  ·rename_i hk;obtain ⟨c,e⟩:=hn (n,k) zX (by simpa using hk);refine ZAi (λy hy=>hn y (zZ _ hy)) (λq hq=> ?_) p hp;rcases zK.mp hq with rfl | hq
   ·rw [show env.cells.lookup n=some c from e];rfl
   ·exact hc q hq
  ·exact ZAi (λy hy=>hn y (zZ _ hy)) hc p hp
theorem Xv:∀{names:List (Str×xV)} {cs:List (Str×xQ)},((x,.free)∈names∨∃c,(x,c)∈cs)->∃c,(x,c)∈G7 env names cs
 | [],cs,h=>by
  rcases h with h | h
  ·cases h
  ·exact h
 | (n,k)::r,cs,h=>by
  rw [G7];split
  ·refine Xv ?_;rcases h with h | ⟨c,h⟩
   ·rcases zK.mp h with e | h
    ·cases e;exact .inr ⟨_,zX⟩
    ·exact .inl h
   ·exact .inr ⟨c,zZ _ h⟩
  ·rename_i hk;refine Xv ?_;rcases h with h | h
   ·rcases zK.mp h with e | h
    ·cases e;exact absurd rfl hk
    ·exact .inl h
   ·exact .inr h
theorem ZDh {c:xQ}:∀{l:List (Str×xQ)},(x,c)∈l->∃d,l.lookup x=some d
 | [],h=>by cases h
 | (y,d)::l,h=>by
  by_cases e:x=y
  ·subst e;exact ⟨d,by simp⟩
  ·rcases zK.mp h with z | h
   ·cases z;exact absurd rfl e
   ·obtain ⟨d',q⟩:=ZDh h;exact ⟨d',by rw [jZ,beq_eq_false_iff_ne.mpr e];exact q⟩
theorem ZEd (x:Str):(relabel scope env).names.lookup x=(scope.names.lookup x).map λk=>if (k == NameKind.free && env.scope.kind == .function && env.kindOf x == some .cell)=true then .cell else k:=by
 unfold relabel;generalize scope.names=l
 induction l with
 | nil=>rfl
 | cons y r ih=>
  obtain ⟨n,k⟩:=y;by_cases e:x=n
  ·subst e;simp only [zA]
   cases hc:(k == NameKind.free && env.scope.kind == ScopeKind.function && env.kindOf x == some NameKind.cell) <;>
    simp only [hc,if_true,jZ,beq_self_eq_true,Option.map_some,Bool.false_eq_true,if_false]
  ·have hb:(x == n)=false:=beq_eq_false_iff_ne.mpr e;simp only [zA];split
   ·rw [jZ,jZ,hb];exact ih
   ·rw [jZ,jZ,hb];exact ih
noncomputable def blk (X:Cx) (N:List Str) (scope:xK) (C:xQ) (s₀:xY) (H₀:Hp) (ex:List xQ):Cx where
 prog:=X.prog
 w:=X.w
 K:=X.K
 mg:=X.mg
 base:=X.base
 A:=X.A
 N:=N
 s₀:=s₀
 H₀:=H₀
 env:=compEnvC scope (G7 X.env scope.names []) C X.env
 outer:=X.stack
 stack:=X.stack
 ex:=ex
 fn:=λ_=>false
 calm:=X.calm
 pn:= []
 xe:=λ_ _=>False
structure CompSc (X:Cx) (N:List Str) (scope:xK) (nt:Nat) (caps:List Nat):Prop where
 kind:scope.kind=.function
 names:∀y∈scope.names,y.2=.local->scope.names.lookup y.1=some .local
 nocell:∀y∈scope.names,y.2≠ .cell
 free:∀y∈scope.names,y.2=.free->X.env.kindOf y.1=some .cell∨X.env.kindOf y.1=some .free
 nd:N.Nodup
 len:N.length=nt + caps.length
 cap:∀(k j:Nat),caps[k]? =some j->∃x,X.N[j]? =some x/\N[nt + k]? =some x/\scope.names.lookup x=some .free
section
variable {X:Cx} {v8:List (xQ×Obj)} {σ:St} {H:Hp} {s:xY} {N:List Str} {scope:xK} {nt:Nat} {caps:List Nat}
theorem CompSc.cells (c:CompSc X N scope nt caps) (ok:X.Ok):∀y∈scope.names,y.2=.free->∃c,X.env.cells.lookup y.1=some c:=λy hy hk=>ok.has y.1 (c.free y hy hk)
theorem CompSc.cl (c:CompSc X N scope nt caps) (ok:X.Ok) {d:xQ} (h:(G7 X.env scope.names []).lookup x=some d):X.env.cells.lookup x=some d:=
 ZAi (c.cells ok) (λp hp=>by cases hp) (x,d) (PySem.mem_of_lookup h)
theorem ZRg (c:CompSc X N scope nt caps) (I:Inv X v8 σ H s) {fp:List xQ} (hf:∀b∈fp,FpOk X v8 H b) {C:xQ} (hC:s.heap.objs.size<=C) (hCf:C ∉ fp):(blk X N scope C s H fp).Ok where
 mod:=I.ok.mod
 kind:=c.kind
 glob:=I.ok.glob
 blt:=I.ok.blt
 above:=hC
 inj:=λx y d h1 h2=>I.ok.inj x y d (c.cl I.ok h1) (c.cl I.ok h2)
 has:=λx h=>by
  have h':(relabel scope X.env).names.lookup x=some .cell∨(relabel scope X.env).names.lookup x=some .free:=h;rw [ZEd] at h';have hfree:scope.names.lookup x=some .free:=by
   cases e:scope.names.lookup x with
   | none=>rw [e] at h';rcases h' with h' | h' <;> cases h'
   | some k=>
    rw [e] at h';cases k with
    | free=>rfl
    | cell=>exact absurd rfl (c.nocell _ (PySem.mem_of_lookup e))
    | _=>rcases h' with h' | h' <;> (simp at h')
  obtain ⟨d,hd⟩:=Xv (env:=X.env) (x:=x) (names:=scope.names) (cs:= []) (.inl (PySem.mem_of_lookup hfree));exact ZDh hd
 cab:=λx d h=>by cases h
 hd:=I.ok.hd
 frames:=I.ok.frames
 stk:=.inl rfl
 exf:=λb hb=>⟨λz=>hCf (by rw [<-show b=C from z];exact hb),λx d h=>(hf b hb).2.2.2.2.1 x d (c.cl I.ok h)⟩
 bs:=I.bs
 bsz:=zD I.ok.bsz I.sz
 noex:=λb o e hb=>by
  rcases (hf b hb).2.2.2.1 with h | h
  ·exact I.ok.noex b o e h
  ·exact absurd (zq (zk (I.ok.bs b o e).1) h) (qX _)
 exfs:=λb hb hz=>by
  rcases zK.mp (I.Wj b hz) with z | z
  ·exact (hf b hb).2.1 z
  ·exact (hf b hb).2.2.1 z
 funs:=I.stack
 frf:=I.ZEA
end
noncomputable def Dy (g:DG) (c:DB) (te:DE) (S:DSt):List D->DH->R (List D)
 | [],G=>.ok [] G
 | x::xs,G=>(g x S G).bind λS1 G1=>(c S1 G1).bind λk G2=>
   if k=true then (te S1 G2).bind λd G3=>(Dy g c te S xs G3).bind λds G4=>.ok (d::ds) G4 else Dy g c te S xs G2
noncomputable def Hn (i:Nat) (g:DG) (c:DB) (te:DE) (S:DSt):Nat->Nat->DH->R (List D)
 | 0,j,G=>match G[i]? with
  | some (.lst xs)=>if xs.length<=j then .ok [] G else .bad
  | _=>.bad
 | n + 1,j,G=>match G[i]? with
  | some (.lst xs)=>match xs[j]? with
   | some x=>(g x S G).bind λS1 G1=>(c S1 G1).bind λk G2=>
     if k=true then (te S1 G2).bind λd G3=>(Hn i g c te S n (j + 1) G3).bind λds G4=>.ok (d::ds) G4 else Hn i g c te S n (j + 1) G2
   | none=>.ok [] G
  | _=>.bad
noncomputable def Ed (f:Nat->DH->Option (Option D)) (g:DG) (c:DB) (te:DE) (S:DSt):Nat->Nat->DH->R (List D)
 | 0,j,G=>match f j G with
  | some none=>.ok [] G
  | _=>.bad
 | n + 1,j,G=>match f j G with
  | some (some x)=>(g x S G).bind λS1 G1=>(c S1 G1).bind λk G2=>
     if k=true then (te S1 G2).bind λd G3=>(Ed f g c te S n (j + 1) G3).bind λds G4=>.ok (d::ds) G4 else Ed f g c te S n (j + 1) G2
  | some none=>.ok [] G
  | none=>.bad
noncomputable def Bl (nt:Nat) (caps:List Nat) (S:DSt):DSt:=zV nt none++caps.map λj=>(S[j]?).join
noncomputable def Ej (it:DI) (nt:Nat) (caps:List Nat) (g:DG) (c:DB) (te:DE):DE:=λS G=>(it S G).bind λJ G1=>(match J with
 | .pure xs=>Dy g c te (Bl nt caps S) xs G1
 | .mt i=>match G1[i]? with
  | some (.lst xs)=>Hn i g c te (Bl nt caps S) xs.length 0 G1
  | _=>.bad
 | .fn n f=>Ed f g c te (Bl nt caps S) n 0 G1).bind Av
def Ck:DB:=λ_ G=>.ok true G
noncomputable def GK (nt:Nat) (g:DG):Prop:=∀d S G S1 G1,g d S G=.ok S1 G1->∀i e,nt<=i->S[i]? =some (some e)->S1[i]? =some (some e)
noncomputable def GKs (nt:Nat) (g:DGs):Prop:=∀d S G S1 G1,g d S G=.ok S1 G1->∀i e,nt<=i->S[i]? =some (some e)->S1[i]? =some (some e)
theorem Er (h:i < nt):GK nt (gV i):=λd S G S1 G1 e j x hj hx=>by cases e;rw [qP (by lia)];exact hx
theorem Tv:GKs nt Ce:=λd S G S1 G1 e j x hj hx=>by
 cases d with
 | nil=>cases e;exact hx
 | cons _ _=>cases e
theorem Ka {t:DG} {u:DGs} (h1:GK nt t) (h2:GKs nt u):GKs nt (Aq t u):=λd S G S1 G1 e j x hj hx=>by
 cases d with
 | nil=>cases e
 | cons a r=>
  have e':(t a S G).bind (λS1 G1=>u r S1 G1)=.ok S1 G1:=e;cases ht:t a S G with
  | ok S2 G2=>rw [ht] at e';exact h2 _ _ _ _ _ e' j x hj (h1 _ _ _ _ _ ht j x hj hx)
  | err _ _=>rw [ht] at e';cases e'
  | bad=>rw [ht] at e';cases e'
theorem Ur {n:Nat} {t:DGs} (h:GKs nt t):GK nt (Bx n t):=λd S G S1 G1 e j x hj hx=>by
 cases d with
 | tup ds=>
  unfold Bx at e;dsimp only at e;split at e
  ·exact h _ _ _ _ _ e j x hj hx
  ·cases e
 | _=>cases e
theorem ZNV {r:R DSt} {f:DSt->DH->R D} (h:out E a (r.bind f) Q):
  Gr E a r (λσ H=>∃(b:Wd) (S:DSt) (G:DH),b.H=H/\Ext a b/\Sim b G/\RepS b S σ/\r=.ok S G/\out E b (f S G) Q):=by
 cases r with
 | ok d G=>exact λb v x s q=>⟨b,d,G,rfl,x,s,q,rfl,out.mono x h⟩
 | err e G=>exact h
 | bad=>exact h
theorem R.bind_assoc {γ:Type} (r:R α) (f:α->DH->R β) (g:β->DH->R γ):(r.bind f).bind g=r.bind λa G=>(f a G).bind g:=by cases r <;> rfl
theorem ZGk {r:R ItD} {f:ItD->DH->R D} (h:out E a (r.bind f) Q):
  outI E a r (λJ H=>∃(b:Wd) (d:ItD) (G:DH),b.H=H/\Ext a b/\Sim b G/\RepI b d J/\r=.ok d G/\out E b (f d G) Q):=by
 cases r with
 | ok d G=>exact λb v x s q=>⟨b,d,G,rfl,x,s,q,rfl,out.mono x h⟩
 | err e G=>exact h
 | bad=>exact h
section
variable {prog:xW} {w:xj} {A:xZ} {R':Result->xY->Prop} {s:xY}
theorem ZKW {elt target iter:xJ} {ifs:List xJ} {scope:xK} {pos:Pos} {it acc:xz} {env:Env} (I:Nat->xY->Prop)
  (turn:∀n s,I n s->vJ (xR prog w) A (pyNext it) (λr s₁=>match r with
   | none=>R' (.ok .next) s₁
   | some v=>vJ (xR prog w) A (xO target it v) (λ_ s₁=>vJ (xR prog w) A (assign target env v) (λ_ s₂=>
     vJ (xR prog w) A (forIn ifs true λc r=>if r=true then do let ok<-isTrue c env (eval c env);pure (ForInStep.yield ok) else pure (ForInStep.yield r)) (λok s₃=>
      if ok=true then vJ (xR prog w) A (eval elt env) (λx s₄=>
       vJ (xR prog w) A (call (.builtin "list.append") [acc,x]) (λ_ s₅=>∃m,m < n/\I m s₅) (λ_ _=>False) s₄) (λ_ _=>False) s₃
      else∃m,m < n/\I m s₃) (λ_ _=>False) s₂) (λ_ _=>False) s₁) (λ_ _=>False) s₁) (λ_ _=>False) s)
  (n:Nat) (h:I n s):
  codeAny (xR prog w) A (.compLoop (.ListComp elt [⟨target,iter,ifs,0⟩] scope pos) 0 it acc env) R' s:=by
 refine codeAny_loop rfl I (λn s hI=> ?_) n h
 show vJ _ A ((compTurn (.ListComp elt [⟨target,iter,ifs,0⟩] scope pos) 0 it acc env).onRaise (λx=>do noteFrame x env;theTreesLotGoes x)) _ _ s
 refine wpAny_noted ?_;rw [compTurn_list];refine vz ?_ (λ_ _ q=>q) (λ_ _ (f:False)=>f.elim);refine vV (wpAny_standAt (vV (vz (turn n s hI) (λr s₁ h₁=> ?_) λ_ _ h'=>h')));cases r with
 | none=>exact vv h₁
 | some v=>
  refine vV (vz h₁ (λ_ s₂' h₁=> ?_) λ_ _ h'=>h');refine vV (vz h₁ (λ_ s₂ h₂=>vV (vz h₂ (λok s₃ h₃=> ?_) λ_ _ h'=>h')) λ_ _ h'=>h');cases ok with
  | false=>exact vv ⟨rfl,h₃⟩
  | true=>
   exact vV (vV (vz h₃ (λx s₄ h₄=>vV (vz h₄ (λ_ s₅ h₅=>vv (vv ⟨rfl,h₅⟩)) λ_ _ h'=>h')) λ_ _ h'=>h'))
end
noncomputable def QTs (X:Cx) (E:XK) (ifs:List xJ) (t:DB):Prop:=
 ∀(v8:List (xQ×Obj)) (s:xY) (σ:St) (H:Hp) (Q:Bool->Hp->Prop),Inv X v8 σ H s->lB X.K E t σ H Q->
  vJ (xR X.prog X.w) X.A (forIn ifs true λc r=>if r=true then do let ok<-isTrue c X.env (eval c X.env);pure (ForInStep.yield ok) else pure (ForInStep.yield r)) (TP X v8 σ Q) X.xe s
theorem Gh:QTs X E [] Ck:=λv8 s σ H Q I h=>by obtain ⟨a,S,G,hk,rfl,sm,r,h⟩:=h;exact wpAny_tests_nil ⟨a.H,I,h a (Ext.refl a) sm⟩
theorem ZHe {c:xJ} {t:DB} (hc:QT X E c t):QTs X E [c] t:=λv8 s σ H Q I h=>wpAny_tests_one (hc v8 s σ H Q I h)
section
variable {X:Cx} {E:XK} {N:List Str} {scope:xK} {nt:Nat} {caps:List Nat} {tg elt iter:xJ} {ifs:List xJ} {pos:Pos} {it:DI} {g:DG} {c:DB} {te:DE}
theorem ZM3 (r:RepS a S σ):RepS a (Bl nt caps S) (zV nt none++caps.map λj=>(σ[j]?).join):=by
 refine ⟨by simp [Bl],λi d h=> ?_⟩;unfold Bl at h;by_cases hi:i < nt
 ·rw [zI (by simpa using hi),qT] at h
  split at h <;> cases h
 ·rw [zM (by simpa using hi),zw] at h;rw [zM (by simpa using hi),zw];rw [jL] at h ⊢;cases e:caps[i - nt]? with
  | none=>rw [e] at h;cases h
  | some j=>
   rw [e] at h;have h1:(S[j]?).join=some d:=by simpa using h
   have h2:S[j]? =some (some d):=by
    cases q:S[j]? with
    | none=>rw [q] at h1;cases h1
    | some o=>
     rw [q] at h1;have h1':o=some d:=h1;rw [h1']
   obtain ⟨v,ev,rv⟩:=r.get j d h2;exact ⟨v,by simp [ev],rv⟩
theorem ZQY (h:(Bl nt caps S)[i]? =some (some d)):nt<=i:=by
 unfold Bl at h;by_cases hi:i < nt
 ·rw [zI (by simpa using hi),qT] at h
  split at h <;> cases h
 ·lia
theorem ZAM (hc:X.calm=true) (cs:CompSc X N scope nt caps)
  (hg:∀C s₀ H₀ ex,QG (blk X N scope C s₀ H₀ ex) E0 tg g) (gk:GK nt g) (hts:∀C s₀ H₀ ex,QTs (blk X N scope C s₀ H₀ ex) E0 ifs c) (he:∀C s₀ H₀ ex,QE (blk X N scope C s₀ H₀ ex) E0 elt te)
  {v8:List (xQ×Obj)} {σ:St} {s:xY} {a:Wd} {S:DSt} {G:DH} {J:It} {n0:Nat} {f:Nat->DH->Option (Option D)} {i0:xQ} {fp:List xQ} {tn:Nat->Heap->Prop} (I:Inv X v8 σ a.H s) (hk:a.K=X.K) (sm:Sim a G) (rS:RepS a S σ)
  (T:Turn X.prog X.w X.K tg J fp i0 tn) (t0:tn 0 s.heap) (hf:∀b∈fp,FpOk X v8 a.H b) (rJ:RepI a (.fn n0 f) J) {Q:VK}
  (h:out E0 a ((Ed f g c te (Bl nt caps S) n0 0 G).bind Av) Q)
  {RR:xz->xQ->Result->xY->Prop} {E':xz->xY->Prop}
  (hRR:∀(D C:xQ) (s':xY) (b:Wd) (vs:List V),Inv X v8 σ (upd b.H D (.lst vs)) s'->b.H D=none->s.heap.objs.size<=C->D≠C->(∃m,s'.heap.Ns C m)->b.H C=none->Q (.ref D) (upd b.H D (.lst vs))->RR (.ref D) C (.ok .next) s'):
  vJ (xR X.prog X.w) X.A (newList []) (λacc s₃=>vJ (xR X.prog X.w) X.A (newFunctionEnv scope X.env.globals (G7 X.env scope.names []) [] X.env.qual none .none (some X.env)) (λcenv s₄=>
   codeAny (xR X.prog X.w) X.A (.compStart (.ListComp elt [⟨tg,iter,ifs,0⟩] scope pos) 0 (.ref i0) acc {cenv with scope:=relabel scope X.env}) (RR acc cenv.locals) s₄) E' s₃) E' s:=by
 refine vj (wpAny_newFunctionEnv cs.nocell (by intro y hy;simp at hy) (λh₁ hns₁ hsb₁=> ?_) cs.kind);dsimp only at hns₁ hsb₁ ⊢;generalize hH2:s.heap.push {cls:=.type "list",dict:=none,data:=.seq ([]:List xz).toArray}=H2 at hns₁ hsb₁ ⊢;have hC:H2.objs.size=s.heap.objs.size + 1:=by rw [<-hH2,qE]
 have hDC:s.heap.objs.size≠H2.objs.size:=by rw [hC];exact zE (qq _)
 have hCle:s.heap.objs.size<=H2.objs.size:=by rw [hC];exact j3 _
 have fpOld:∀b∈fp,b < s.heap.objs.size:=λb hb=>by obtain ⟨o,e,_⟩:=T.obj 0 _ t0 b hb;exact zk e
 have hDf:s.heap.objs.size ∉ fp:=λhm=>qX _ (fpOld _ hm)
 have hCf:H2.objs.size ∉ fp:=λhm=>by have:=fpOld _ hm;rw [hC] at this;exact qX _ (Nat.lt_of_succ_lt this)
 have old:∀b o,s.heap.get? b=some o->h₁.get? b=some o:=λb o e=>
  hsb₁.extBut b o (by rw [hC];exact zE (qF (zk e))) (zJ _ (hH2 ▸ zJ _ e))
 have hacc:h₁.PlainList s.heap.objs.size ([]:List xz).toArray:=⟨_,hsb₁.extBut _ _ hDC (zJ _ (hH2 ▸ zB _ rfl))⟩;generalize hCe:H2.objs.size=C at *;generalize hDe:s.heap.objs.size=Dd at *;let B:=blk X N scope C s a.H fp;have okB:B.Ok:=ZRg cs I hf (by rw [hDe];exact hCle) hCf;let σ0:St:=zV nt none++caps.map λj=>(σ[j]?).join
 have start:∀tk,Inv B [] σ0 a.H {s with heap:=h₁,toks:=tk}:=λtk=>by
  refine ⟨okB,rfl,I.bare,Un.kept old,⟨_,hns₁,λi x v e1 e2 e3=> ?_⟩,λx d' e=> ?_,I.hok.fresh (by rw [hDe];exact hCle),λx d' e=> ?_,λp hp=> ?_,I.hok.kept old,?_⟩
  ·have hi:nt<=i:=by
    by_cases hi:i < nt
    ·have e2':σ0[i]? =some (some v):=e2;rw [zI (by simpa using hi),qT] at e2'
     split at e2' <;> cases e2'
    ·lia
   have e2':σ0[i]? =some (some v):=e2;rw [zM (by simpa using hi),zw,jL] at e2';cases ej:caps[i - nt]? with
   | none=>rw [ej] at e2';cases e2'
   | some j=>
    rw [ej] at e2';have h1:(σ[j]?).join=some v:=by simpa using e2'
    have h2:σ[j]? =some (some v):=by
     cases q:σ[j]? with
     | none=>rw [q] at h1;cases h1
     | some o=>
      rw [q] at h1;have h1':o=some v:=h1;rw [h1']
    obtain ⟨y,ey,en,ek⟩:=cs.cap (i - nt) j ej;have exy:x=y:=by
     have:nt + (i - nt)=i:=by lia
     rw [this] at en;have e1':N[i]? =some x:=e1;rw [e1'] at en;exact Option.some.inj en
    subst exy;have kx:=cs.free (x,.free) (PySem.mem_of_lookup ek) rfl;have vis:Vis X.env.scope x:=by
     rcases kx with kx | kx
     ·exact .inr (.inl kx)
     ·exact .inr (.inr kx)
    obtain ⟨m,hn,hl⟩:=I.loc;obtain ⟨u,ru,lk⟩:=hl j x v ey h2 vis;refine ⟨u,ru,?_⟩;rcases lk with ⟨k1,_⟩ | ⟨k1,c1,ec,hcell⟩
    ·rcases kx with kx | kx
     ·rw [k1] at kx;cases kx
     ·rw [k1] at kx;cases kx
    ·refine .inr ⟨?_,c1,?_,?_⟩
     ·show (relabel scope X.env).names.lookup x=some .cell∨(relabel scope X.env).names.lookup x=some .free;rw [ZEd,ek];simp only [Option.map_some];split
      ·exact .inl rfl
      ·exact .inr rfl
     ·obtain ⟨d1,hd1⟩:=Xv (env:=X.env) (x:=x) (names:=scope.names) (cs:= []) (.inl (PySem.mem_of_lookup ek));obtain ⟨d2,hd2⟩:=ZDh hd1;have:=cs.cl I.ok hd2;rw [ec] at this;cases this;exact hd2
     ·obtain ⟨o,e,dd⟩:=hcell;exact ⟨o,old _ _ e,dd⟩
  ·obtain ⟨v,o,e',dd⟩:=I.cell x d' (cs.cl I.ok e);exact ⟨v,o,old _ _ e',dd⟩
  ·exact I.Jm x d' (cs.cl I.ok e)
  ·exact absurd hp (by simp [B,blk])
  ·show σ0.length=N.length;rw [cs.len];simp [σ0]
 have rS0:RepS a (Bl nt caps S) σ0:=ZM3 rS;have aD:a.H Dd=none:=I.hok.fresh (by rw [hDe];exact zW _);have young:∀b∈fp,b≠C:=λb hb z=>hCf (z ▸ hb)
 have fpB:∀{H':Hp} {ps:List (xQ×Obj)},(∀b∈fp,H' b=none)->(∀p∈ps,p.1 ∉ fp)->∀b∈fp,FpOk B ps H' b:=λ{H' ps} hn hps b hb=>
  ⟨hn b hb,young b hb,okB.exfs b hb,.inl hb,λx d' e=>(hf b hb).2.2.2.2.1 x d' (cs.cl I.ok e),λp hp z=>by
   have hp':p∈ps:=by simpa [B,blk] using hp
   exact hps p hp' (z ▸ hb)⟩
 have nstk:Dd ∉ frs X.stack:=λz=>by
  rcases zK.mp (I.Wj Dd z) with z | z
  ·have:=I.lt;rw [hDe,<-z] at this;exact qX _ this
  ·exact I.nofs (by rw [hDe];exact zW _) z
 have pinD:∀{σ':St} {H':Hp} {s':xY} {its:List xz} {nD:Nat},Inv B [] σ' H' s'->s'.heap.get? Dd=some {cls:=.type "list",data:=.seq its.toArray nD}->H' Dd=none->Inv B [(Dd,{cls:=.type "list",data:=.seq its.toArray nD})] σ' H' s':=λ{σ' H' s' its nD} J e n=>
  J.M9 λp hp=>by
   have ep:p=(Dd,{cls:=.type "list",data:=.seq its.toArray nD}):=by simpa using hp
   subst ep;exact ⟨e,n,hDC,nstk,λv' z=>by cases z⟩
 have fin:∀(s':xY) (b:Wd) (σ':St) (its:List xz) (ds:List D) (G':DH),Inv B [] σ' b.H s'->Ext a b->Sim b G'->s'.heap.PlainList Dd its.toArray->b.H Dd=none->(∃vs,Vals vs its/\Reps b ds vs)->out E0 b (Av ds G') Q->RR (.ref Dd) C (.ok .next) s':=by
  intro s' b σ' its ds G' IB x sb pl hD ⟨vs,hv,rv⟩ hq;have hz:ds.length<=1000000:=by
   unfold Av at hq;split at hq
   ·assumption
   ·exact hq.elim
  have Ix:Inv X v8 σ b.H s':=I.call' IB.os IB.base IB.hok IB.bare λb hb=>⟨(hf b hb).2.2.2.1,(hf b hb).2.1,(hf b hb).2.2.2.2.1,(hf b hb).2.2.2.2.2⟩
  obtain ⟨n,eD⟩:=pl;have ylt:∀{q:xQ} {o:Obj},s.heap.get? q=some o->q≠Dd:=λe z=>by rw [z,<-hDe] at e;exact absurd (zk e) (qX _)
  have Ia:Inv X v8 σ (upd b.H Dd (.lst vs)) s':=by
   refine ZB4 Ix hD (by rw [<-hDe];exact I.sz) ?_ (λy c' ec=> ?_) (λp hp=> ?_) ⟨?_,its,n,hv,eD⟩
   ·rw [<-hDe];exact jJ I.lt
   ·obtain ⟨v,o,e,_⟩:=I.cell y c' ec;exact ylt e
   ·exact ylt (I.pin p hp).1
   ·rw [<-rv.length];exact zD hz size6
  refine hRR Dd C s' b vs Ia hD hCle hDC (let ⟨m,hn,_⟩:=IB.loc;⟨m,hn⟩) IB.free ?_;unfold Av at hq;rw [if_pos hz] at hq;exact Mj sb rv hq Dd hD
 have turnX:∀(n:Nat) (P:Nat->xY->Prop) (rest:DH->R (List D)) (s1:xY) (b:Wd) (G1:DH) (σ1:St) (its:List xz) (acc:List D) (u:xz) (v:V) (x:D) (i:Nat),Inv B [] σ1 b.H s1->Ext a b->Sim b G1->RepS b (Bl nt caps S) σ1->tn i s1.heap->(∀q∈fp,b.H q=none)->
   s1.heap.PlainList Dd its.toArray->b.H Dd=none->(∃vs,Vals vs its/\Reps b acc vs)->RelV v u->Rep b x v->
   out E0 b (((g x (Bl nt caps S) G1).bind λS1 G1=>(c S1 G1).bind λk G2=>if k=true then (te S1 G2).bind λd G3=>(rest G3).bind λds G4=>.ok (d::ds) G4 else rest G2).bind λds G=>Av (acc++ds) G) Q->
   (∀(s2:xY) (b2:Wd) (G2:DH) (σ2:St) (its2:List xz) (acc2:List D),Inv B [] σ2 b2.H s2->Ext a b2->Sim b2 G2->RepS b2 (Bl nt caps S) σ2->tn i s2.heap->(∀q∈fp,b2.H q=none)->
    s2.heap.PlainList Dd its2.toArray->b2.H Dd=none->(∃vs,Vals vs its2/\Reps b2 acc2 vs)->out E0 b2 ((rest G2).bind λds G=>Av (acc2++ds) G) Q->∃m,m < n/\P m s2)->
   vJ (xR X.prog X.w) X.A (assign tg B.env u) (λ_ s₂=>
     vJ (xR X.prog X.w) X.A (forIn ifs true λc r=>if r=true then do let ok<-isTrue c B.env (eval c B.env);pure (ForInStep.yield ok) else pure (ForInStep.yield r)) (λok s₃=>
      if ok=true then vJ (xR X.prog X.w) X.A (eval elt B.env) (λx s₄=>
       vJ (xR X.prog X.w) X.A (call (.builtin "list.append") [.ref Dd,x]) (λ_ s₅=>∃m,m < n/\P m s₅) (λ_ _=>False) s₄) (λ_ _=>False) s₃
      else∃m,m < n/\P m s₃) (λ_ _=>False) s₂) (λ_ _=>False) s1:=by
  intro n P rest s1 b G1 σ1 its acc u v x i I1 x1 sb rSb t1 hfp pl hD hacc' ru rx hq next
  rw [R.bind_assoc] at hq;obtain ⟨nD,eD⟩:=id pl;let pinD:List (xQ×Obj):= [(Dd,{cls:=.type "list",data:=.seq its.toArray nD})];have pinOk:∀{σ':St} {H':Hp} {s':xY},Inv B (pinD++Qe fp s1.heap) σ' H' s'->s'.heap.PlainList Dd its.toArray/\H' Dd=none/\tn i s'.heap/\∀q∈fp,H' q=none:=λ{σ' H' s'} J=>by
   have p1:=J.pin (Dd,{cls:=.type "list",data:=.seq its.toArray nD}) (zR _ (j8 _ (by simp [pinD])));refine ⟨⟨nD,p1.1⟩,p1.2.1,T.keep _ _ _ t1 λq hq' o e=>(J.pin (q,o) (zR _ (zR _ (X6 hq' e)))).1,λq hq'=> ?_⟩;obtain ⟨o,e,_⟩:=T.obj _ _ t1 q hq';exact (J.pin (q,o) (zR _ (zR _ (X6 hq' e)))).2.1
  have I2:Inv B (pinD++Qe fp s1.heap) σ1 b.H s1:=I1.M9 λp hp=>by
   rcases qG.mp hp with hp | hp
   ·have e:p=(Dd,{cls:=.type "list",data:=.seq its.toArray nD}):=by simpa [pinD] using hp
    subst e;refine ⟨eD,hD,hDC,λz=> ?_,λv' z=>by cases z⟩;exact nstk z
   ·obtain ⟨hb,e⟩:=ZGf hp;obtain ⟨f0,f1,f2,_⟩:=fpB (ps:= []) hfp (λp hp=>by cases hp) p.1 hb;obtain ⟨o,e',dd⟩:=T.obj _ _ t1 p.1 hb;rw [e] at e';cases e';exact ⟨e,f0,f1,f2,dd⟩
  refine thn (hg C s a.H fp _ s1 σ1 b.H v u _ I2 ru ⟨b,Bl nt caps S,G1,x,x1.k.trans hk,rfl,sb,rSb,rx,(ZNV hq).imp λ_ _ z=>z⟩) ?_;rintro _ s2 ⟨σ2,H2',J2,b2,S2,G2,rfl,y2,sb2,rS2,eg,hq2⟩;rw [R.bind_assoc] at hq2;have rS2':RepS b2 (Bl nt caps S) σ2:=⟨by have h1:=J2.len;have h2:σ1.length=N.length:=I1.len;rw [rSb.len,h2];exact h1.symm,λj e' hj=>rS2.get j e' (gk _ _ _ _ _ eg j e' (ZQY hj) hj)⟩
  refine thn (hts C s a.H fp _ s2 σ2 b2.H _ J2 ⟨b2,S2,G2,y2.k.trans (x1.k.trans hk),rfl,sb2,rS2,(ZFj hq2).imp λ_ _ z=>z⟩) ?_;rintro k s3 ⟨H3,J3,b3,G3,rfl,y3,sb3,_,hq3⟩;cases k with
  | false=>
   obtain ⟨p1,p2,p3,p4⟩:=pinOk J3;have Jn:Inv B [] σ2 b3.H s3:=J3.M9 λp hp=>by cases hp
   obtain ⟨vs,hv,rv⟩:=hacc'
   exact next s3 b3 G3 σ2 its acc Jn (x1.trans (y2.trans y3)) sb3 (rS2'.mono y3) p3 p4 p1 p2 ⟨vs,hv,(rv.mono y2).mono y3⟩ hq3
  | true=>
   have hq3':out E0 b3 (((te S2 G3).bind λd G3=>(rest G3).bind λds G4=>.ok (d::ds) G4).bind λds G=>Av (acc++ds) G) Q:=hq3;rw [R.bind_assoc] at hq3';refine thn (he C s a.H fp _ s3 σ2 b3.H _ J3 ⟨b3,S2,G3,y3.k.trans (y2.k.trans (x1.k.trans hk)),rfl,sb3,rS2.mono y3,(Gn hq3').imp λ_ _ z=>z⟩) ?_;rintro w s4 ⟨vw,H4,J4,rw',b4,d4,G4,rfl,y4,sb4,q4,_,hq4⟩;obtain ⟨p1,p2,p3,p4⟩:=pinOk J4;rw [R.bind_assoc] at hq4
   have hq4':out E0 b4 ((rest G4).bind λds G=>Av ((acc++ [d4])++ds) G) Q:=by
    have e:(λ(ds:List D) (G:DH)=>(R.ok (d4::ds) G).bind λds G=>Av (acc++ds) G)=λds G=>Av ((acc++ [d4])++ds) G:=by funext ds G;simp
    rw [<-e];exact hq4
   obtain ⟨vs,hv,rv⟩:=hacc';have hsz:its.toArray.size<=sizeLine:=by
    have:acc.length<=1000000:=by
     cases hr:rest G4 with
     | ok ds G5=>
      rw [hr] at hq4';have hq5:out E0 b4 (Av ((acc++ [d4])++ds) G5) Q:=hq4';unfold Av at hq5;split at hq5
      ·rename_i hl;simp at hl;lia
      ·exact hq5.elim
     | err e' G5=>rw [hr] at hq4';exact hq4'.elim
     | bad=>rw [hr] at hq4';exact hq4'.elim
    rw [zY,<-hv.length,<-rv.length];exact zD this size6
   refine wpAny_list_append_plain p1 (λh' hpl hsb=> ?_) hsz;have Jn:Inv B [] σ2 b4.H s4:=J4.M9 λp hp=>by cases hp
   have J5:Inv B [] σ2 b4.H {s4 with heap:=h'}:=by refine Jn.turned (it:=Dd) (t':=s4.toks) (λq o hq' e=>(hsb.2 q hq').trans e) p2 hDC (.inr (by show s.heap.objs.size<=Dd;rw [hDe];exact zW _)) (λy c' ec=> ?_) (λp hp=>absurd hp (by simp [B,blk]));obtain ⟨v',o,e,_⟩:=I.cell y c' (cs.cl I.ok ec);intro z;rw [z,<-hDe] at e;exact absurd (zk e) (qX _)
   refine next _ b4 G4 σ2 (its++ [w]) (acc++ [d4]) J5 (x1.trans (y2.trans (y3.trans y4))) sb4 ((rS2'.mono y3).mono y4) (T.keep _ _ _ p3 λq hq' o e=>(hsb.2 q (λz=>hDf (z ▸ hq'))).trans e) p4 (by simpa using hpl) p2 ⟨vs++ [vw],hv.append (.cons rw' .nil),(((rv.mono y2).mono y3).mono y4).append (Reps.cons q4 Reps.nil)⟩ hq4'
 have loop:∀s₃:xY,s₃={s with heap:=h₁,toks:=s.toks + ([]:List (Str×xz)).length}->
   codeAny (xR X.prog X.w) X.A (.compLoop (.ListComp elt [⟨tg,iter,ifs,0⟩] scope pos) 0 (.ref i0) (.ref Dd) B.env) (RR (.ref Dd) C) s₃:=by
  rintro s₃ rfl;have t1:tn 0 h₁:=T.keep _ _ _ t0 λq _ o e=>old q o e
  have fp0:∀q∈fp,a.H q=none:=λq hq=>(hf q hq).1
  have walk:∀b:Wd,Ext a b->∀G,Sim b G->∀i,(∀d,f i G=some (some d)->J.go i b.H/\∀x H',J.yld i b.H x H'->∃c:Wd,c.H=H'/\Ext b c/\Sim c G/\Rep c d x)/\(f i G=some none->J.stop i b.H):=rJ;refine ZKW (λm s'=>∃(i:Nat) (b:Wd) (G':DH) (σ':St) (its:List xz) (acc:List D),Inv B [] σ' b.H s'/\Ext a b/\Sim b G'/\RepS b (Bl nt caps S) σ'/\tn i s'.heap/\(∀q∈fp,b.H q=none)/\s'.heap.PlainList Dd its.toArray/\b.H Dd=none/\(∃vs,Vals vs its/\Reps b acc vs)/\
   out E0 b ((Ed f g c te (Bl nt caps S) m i G').bind λds G=>Av (acc++ds) G) Q) ?_ n0 ⟨0,a,G,σ0,[],[],start _,Ext.refl a,sm,rS0,t1,fp0,hacc,aD,⟨[],.nil,rfl⟩,by simpa using h⟩
  rintro m s' ⟨i,b,G',σ',its,acc,IB,x,sb,rSb,ti,hfp,pl,hD,hac,hq⟩;obtain ⟨nD,eD⟩:=pl;have I0:=pinD IB eD hD;have f0:=fpB (ps:= [(Dd,{cls:=.type "list",data:=.seq its.toArray nD})]) hfp (λp hp=>by
   have ep:p=(Dd,{cls:=.type "list",data:=.seq its.toArray nD}):=by simpa using hp
   subst ep;exact hDf)
  have stop:J.stop i b.H->out E0 b (Av acc G') Q->vJ (xR X.prog X.w) X.A (pyNext (.ref i0)) (λr s₁=>match r with
    | none=>RR (.ref Dd) C (.ok .next) s₁
    | some v=>vJ (xR X.prog X.w) X.A (xO tg (.ref i0) v) (λ_ s₁=>vJ (xR X.prog X.w) X.A (assign tg B.env v) (λ_ s₂=>
     vJ (xR X.prog X.w) X.A (forIn ifs true λc r=>if r=true then do let ok<-isTrue c B.env (eval c B.env);pure (ForInStep.yield ok) else pure (ForInStep.yield r)) (λok s₃=>
      if ok=true then vJ (xR X.prog X.w) X.A (eval elt B.env) (λx s₄=>
       vJ (xR X.prog X.w) X.A (call (.builtin "list.append") [.ref Dd,x]) (λ_ s₅=>∃m',m' < m/\∃(i:Nat) (b:Wd) (G':DH) (σ':St) (its:List xz) (acc:List D),Inv B [] σ' b.H s₅/\Ext a b/\Sim b G'/\RepS b (Bl nt caps S) σ'/\tn i s₅.heap/\(∀q∈fp,b.H q=none)/\s₅.heap.PlainList Dd its.toArray/\b.H Dd=none/\(∃vs,Vals vs its/\Reps b acc vs)/\
        out E0 b ((Ed f g c te (Bl nt caps S) m' i G').bind λds G=>Av (acc++ds) G) Q) (λ_ _=>False) s₄) (λ_ _=>False) s₃
      else∃m',m' < m/\∃(i:Nat) (b:Wd) (G':DH) (σ':St) (its:List xz) (acc:List D),Inv B [] σ' b.H s₃/\Ext a b/\Sim b G'/\RepS b (Bl nt caps S) σ'/\tn i s₃.heap/\(∀q∈fp,b.H q=none)/\s₃.heap.PlainList Dd its.toArray/\b.H Dd=none/\(∃vs,Vals vs its/\Reps b acc vs)/\
        out E0 b ((Ed f g c te (Bl nt caps S) m' i G').bind λds G=>Av (acc++ds) G) Q) (λ_ _=>False) s₂) (λ_ _=>False) s₁) (λ_ _=>False) s₁) (λ_ _=>False) s':=by
   intro st hq';refine thn (T.done B rfl rfl rfl hc i _ s' σ' b.H _ I0 f0 ti st) ?_;rintro r s1 ⟨rfl,I2⟩;have pD:=(I2.pin (Dd,{cls:=.type "list",data:=.seq its.toArray nD}) (zR _ (by simp))).1;exact fin s1 b σ' its acc G' (I2.M9 λp hp=>by cases hp) x sb ⟨nD,pD⟩ hD hac hq'
  cases m with
  | zero=>
   unfold Ed at hq;split at hq
   ·rename_i hf;exact stop ((walk b x G' sb i).2 hf) (by have hq':out E0 b (Av (acc++ []) G') Q:=hq;rw [jX] at hq';exact hq')
   ·exact hq.elim
  | succ m=>
   unfold Ed at hq;split at hq
   ·rename_i d1 hf;obtain ⟨go,yl⟩:=(walk b x G' sb i).1 d1 hf;refine thn (T.item B rfl rfl rfl hc i _ s' σ' b.H _ I0 f0 ti go) ?_;rintro r s1 ⟨u,rfl,hgo⟩;refine thn hgo ?_;rintro _ s2 ⟨v,H',I2,ru,y,t2,hfp2⟩;obtain ⟨cc,rfl,xx,ss,rd⟩:=yl v H' y;have pD:=I2.pin (Dd,{cls:=.type "list",data:=.seq its.toArray nD}) (zR _ (by simp));obtain ⟨vs1,hv1,rv1⟩:=hac;refine turnX _ _ (λG3=>Ed f g c te (Bl nt caps S) m (i + 1) G3) s2 cc G' σ' its acc u _ d1 (i + 1) (I2.M9 λp hp=>by cases hp) (x.trans xx) ss (rSb.mono xx) t2 hfp2 ⟨nD,pD.1⟩ pD.2.1 ⟨vs1,hv1,rv1.mono xx⟩ ru rd (out.mono xx hq) ?_
    intro s3 b3 G3 σ3 its3 acc3 a1 a2 a3 a4 a5 a6 a7 a8 a9 a10;exact ⟨m,qq _,i + 1,b3,G3,σ3,its3,acc3,a1,a2,a3,a4,a5,a6,a7,a8,a9,a10⟩
   ·rename_i hf;exact stop ((walk b x G' sb i).2 hf) (by have hq':out E0 b (Av (acc++ []) G') Q:=hq;rw [jX] at hq';exact hq')
   ·exact hq.elim
 exact codeAny_compStart_list (loop _ rfl) (T.self _ 0 _ _ _ (T.keep _ _ _ t0 λq _ o e=>old q o e) (loop _ rfl))
theorem ZDl:∀(n j:Nat) (G:DH),j + n=xs.length->Dy g c te S (xs.drop j) G=Ed (λj _=>some xs[j]?) g c te S n j G
 | 0,j,G,h=>by
  rw [zN (by lia)]
  show _=(match some xs[j]? with | some none=>R.ok [] G | _=>.bad)
  rw [z5 (by lia)]
  rfl
 | n + 1,j,G,h=>by
  have hj:j < xs.length:=by lia
  rw [zL hj]
  show (g xs[j] S G).bind _=(match some xs[j]? with | some (some x)=>_ | some none=>R.ok [] G | none=>.bad)
  rw [zQ hj];dsimp only
  congr 1
  funext S1 G1
  congr 1
  funext k G2;rw [ZDl n (j + 1) G2 (by lia)]
  congr 1
  congr 1
  funext d G3;rw [ZDl n (j + 1) G3 (by lia)]
theorem ZHR:∀(n j:Nat) (G:DH),Hn i g c te S n j G=Ed (mtF i) g c te S n j G
 | 0,j,G=>by
  unfold Hn Ed mtF;cases G[i]? with
  | none=>rfl
  | some o=>
   cases o with
   | lst xs=>
    dsimp only;by_cases hj:j < xs.length
    ·rw [if_neg (by lia),zQ hj]
    ·rw [if_pos (by lia),z5 (by lia)]
   | _=>rfl
 | n + 1,j,G=>by
  have ih:(Hn i g c te S n (j + 1))=Ed (mtF i) g c te S n (j + 1):=funext λG=>ZHR n (j + 1) G
  unfold Hn Ed;rw [ih];unfold mtF;cases G[i]? with
  | none=>rfl
  | some o=>
   cases o with
   | lst xs=>
    dsimp only
    cases xs[j]? <;> rfl
   | _=>rfl
theorem ZJC (hc:X.calm=true) (cs:CompSc X N scope nt caps)
  (hg:∀C s₀ H₀ ex,QG (blk X N scope C s₀ H₀ ex) E0 tg g) (gk:GK nt g) (hts:∀C s₀ H₀ ex,QTs (blk X N scope C s₀ H₀ ex) E0 ifs c) (he:∀C s₀ H₀ ex,QE (blk X N scope C s₀ H₀ ex) E0 elt te)
  {v8:List (xQ×Obj)} {σ:St} {s:xY} {a:Wd} {S:DSt} {G:DH} {J:It} {d:ItD} {i0:xQ} {fp:List xQ} {tn:Nat->Heap->Prop} (I:Inv X v8 σ a.H s) (hk:a.K=X.K) (sm:Sim a G) (rS:RepS a S σ)
  (T:Turn X.prog X.w X.K tg J fp i0 tn) (t0:tn 0 s.heap) (hf:∀b∈fp,FpOk X v8 a.H b) (rJ:RepI a d J) {Q:VK}
  (h:out E0 a ((match d with
   | .pure xs=>Dy g c te (Bl nt caps S) xs G
   | .mt i=>match G[i]? with
    | some (.lst xs)=>Hn i g c te (Bl nt caps S) xs.length 0 G
    | _=>.bad
   | .fn n f=>Ed f g c te (Bl nt caps S) n 0 G).bind Av) Q)
  {RR:xz->xQ->Result->xY->Prop} {E':xz->xY->Prop}
  (hRR:∀(D C:xQ) (s':xY) (b:Wd) (vs:List V),Inv X v8 σ (upd b.H D (.lst vs)) s'->b.H D=none->s.heap.objs.size<=C->D≠C->(∃m,s'.heap.Ns C m)->b.H C=none->Q (.ref D) (upd b.H D (.lst vs))->RR (.ref D) C (.ok .next) s'):
  vJ (xR X.prog X.w) X.A (newList []) (λacc s₃=>vJ (xR X.prog X.w) X.A (newFunctionEnv scope X.env.globals (G7 X.env scope.names []) [] X.env.qual none .none (some X.env)) (λcenv s₄=>
   codeAny (xR X.prog X.w) X.A (.compStart (.ListComp elt [⟨tg,iter,ifs,0⟩] scope pos) 0 (.ref i0) acc {cenv with scope:=relabel scope X.env}) (RR acc cenv.locals) s₄) E' s₃) E' s:=by
 cases d with
 | pure xs=>
  have h':out E0 a ((Dy g c te (Bl nt caps S) (xs.drop 0) G).bind Av) Q:=h;rw [ZDl xs.length 0 G (by lia)] at h';exact ZAM hc cs hg gk hts he I hk sm rS T t0 hf (ZIi rJ) h' hRR
 | mt k=>
  dsimp only at h;split at h
  ·rename_i xs hx;rw [ZHR] at h;exact ZAM hc cs hg gk hts he I hk sm rS T t0 hf (ZD9 rJ) h hRR
  ·exact h.elim
 | fn n0 f=>exact ZAM hc cs hg gk hts he I hk sm rS T t0 hf rJ h hRR
end
section
variable {X:Cx} {N:List Str} {scope:xK} {nt:Nat} {caps:List Nat} {tg elt iter:xJ} {ifs:List xJ} {pos:Pos} {it:DI} {g:DG} {c:DB} {te:DE}
theorem letGo {v8:List (xQ×Obj)} {s2 s':xY} {h':Heap} {C:xQ} {t':Nat} {σ2:St} {H2:Hp} (I2:Inv X v8 σ2 H2 s2) (Ia:Inv X v8 σ H s') (hC:s2.heap.objs.size<=C) (hn:H C=none) (hsb:qA C s'.heap h'):Inv X v8 σ H {s' with heap:=h',toks:=t'}:=by
 have young:∀{b:xQ} {o:Obj},s2.heap.get? b=some o->b≠C:=λe z=>by rw [z] at e;exact absurd (zq (zk e) hC) (qX _)
 refine Ia.turned (it:=C) (λb o hb e=>(hsb.2 b hb).trans e) hn (jJ (zq I2.lt hC)) (.inr (zD I2.sz hC)) (λx c' e=> ?_) λp hp=> ?_
 ·obtain ⟨v,o,e',_⟩:=I2.cell x c' e;exact young e'
 ·exact young (I2.pin p hp).1
theorem Jh (hc:X.calm=true) (cs:CompSc X N scope nt caps) (hi:QI X E0 tg iter it)
  (hg:∀C s₀ H₀ ex,QG (blk X N scope C s₀ H₀ ex) E0 tg g) (gk:GK nt g) (hts:∀C s₀ H₀ ex,QTs (blk X N scope C s₀ H₀ ex) E0 ifs c) (he:∀C s₀ H₀ ex,QE (blk X N scope C s₀ H₀ ex) E0 elt te)
  (hs:∀x,foldedSetIterable iter X.env x=pure x:=by intro _;rfl):QE X E0 (.ListComp elt [⟨tg,iter,ifs,0⟩] scope pos) (Ej it nt caps g c te):=by
 intro v8 s σ H Q I h;obtain ⟨a,S,G,hk,rfl,sm,r,h⟩:=h;rw [eval_ListComp];refine wpAny_comprehension_free (use:=none) rfl hs (ZIS (cs.cells I.ok)) cs.kind cs.names (thn (hi v8 s σ a.H _ I ⟨a,S,G,hk,rfl,sm,r,(ZGk h).imp λ_ _ z=>z⟩) λxv s1 h1=>thn h1 λitv s2 h2=> ?_);obtain ⟨i0,fp,tn,J,H2,rfl,I2,T,t0,f2,b,d,G1,rfl,x,sb,rJ,_,h1⟩:=h2;refine ZJC hc cs hg gk hts he I2 (x.k.trans hk) sb (r.mono x) T t0 f2 rJ h1 (RR:=λacc C=>compPost (xR X.prog X.w) X.A X.xe none (EP X v8 σ Q) acc C) ?_
 intro D C s' b vs Ia hD hCle hDC ⟨m,hn⟩ hCn hq;refine ⟨m,hn,λh' hsb=>⟨.ref D,_,letGo I2 Ia hCle ?_ hsb,rfl,hq⟩⟩;rw [Bd (Ne.symm hDC)];exact hCn
theorem Og (i:Nat) {y:Str} {py spos:Pos} (hc:X.calm=true) (hN:X.N.Nodup) (cs:CompSc X N scope nt caps) (hi:QI X E0 tg iter it)
  (hg:∀C s₀ H₀ ex,QG (blk X N scope C s₀ H₀ ex) E0 tg g) (gk:GK nt g) (hts:∀C s₀ H₀ ex,QTs (blk X N scope C s₀ H₀ ex) E0 ifs c) (he:∀C s₀ H₀ ex,QE (blk X N scope C s₀ H₀ ex) E0 elt te)
  (hy:X.N[i]? =some y:=by rfl) (hx:Loc X.env.scope y:=by first | exact Or.inl rfl | exact Or.inr rfl) (hf:X.fn y=true∨X.env.scope.names.lookup y=some .local:=by first | exact .inl rfl | exact .inr rfl | assumption)
  (hsw:swapsWith (.ListComp elt [⟨tg,iter,ifs,0⟩] scope pos) (some (.Name y py)) spos.line X.env=pure true:=by rfl)
  (hs:∀x,foldedSetIterable iter X.env x=pure x:=by intro _;rfl):QS X E0 (.Assign [.Name y py] (.ListComp elt [⟨tg,iter,ifs,0⟩] scope pos) spos) (sAs (Ej it nt caps g c te) (gV i)):=by
 intro v8 s σ H W I h;obtain ⟨a,S,G,hk,rfl,sm,r,h⟩:=h;have h0:=Iz h;rw [exec_Assign_Name_used _ _ _ _ hsw];refine vV (wpAny_standAt (vV ?_))
 show vJ _ X.A (do let _<-comprehension (.ListComp elt [⟨tg,iter,ifs,0⟩] scope pos) scope X.env _ (newList []) false (eval iter X.env) (some (assign (.Name y py) X.env))) _ _ s
 refine vV (vz (wpAny_comprehension_free (use:=some (assign (.Name y py) X.env)) (Q:=λ_ s'=>SP X v8 W .next s') rfl hs (ZIS (cs.cells I.ok)) cs.kind cs.names
  (thn (hi v8 s σ a.H _ I ⟨a,S,G,hk,rfl,sm,r,(ZGk h0).imp λ_ _ z=>z⟩) λxv s1 h1=>thn h1 λitv s2 h2=> ?_)) (λ_ s' hq=>vv (vv hq)) λ_ _ e=>e)
 obtain ⟨i0,fp,tn,J,H2,rfl,I2,T,t0,f2,b,d,G1,rfl,x,sb,rJ,_,h1⟩:=h2
 refine ZJC hc cs hg gk hts he I2 (x.k.trans hk) sb (r.mono x) T t0 f2 rJ h1 (RR:=λacc C=>compPost (xR X.prog X.w) X.A X.xe (some (assign (.Name y py) X.env)) (λ_ s'=>SP X v8 W .next s') acc C) ?_
 intro D C s' b' vs Ia hD hCle hDC ⟨m,hn⟩ hCn hq;show vJ _ X.A (assign (.Name y py) X.env (.ref D)) _ _ _;refine wpAny_assign_Name (ZHr Ia hN hy hx (v:=.ref D) rfl (λs'' I'' hch=> ?_) hf);obtain ⟨a',hsb',ha'⟩:=hch;have hCa:C≠a':=by
  rintro rfl;rcases ha' with rfl | ha'
  ·exact absurd (zq I2.lt hCle) (qX _)
  ·obtain ⟨v,o,e',_⟩:=I2.cell _ _ ha';exact absurd (zq (zk e') hCle) (qX _)
 refine ⟨m,hn.sameBut hsb' hCa,λh' hsb=>⟨_,_,letGo I2 I'' hCle ?_ hsb,?_⟩⟩
 ·rw [Bd (Ne.symm hDC)];exact hCn
 ·obtain ⟨b3,d3,G3,e3,x3,s3,q3,_,h3⟩:=hq;rw [<-e3];exact h3 b3 _ (Ext.refl b3) s3 ((r.mono x3).set i q3)
end
def P0:D->DH->R D
 | .int i,G=>.ok (.int (-i)) G
 | _,_=>.bad
def Mv:D->Bool
 | .non=>true
 | _=>false
def Qa:D->D->DH->R D
 | d,.non,G=>.ok (.bl (Mv d)) G
 | _,_,_=>.bad
def Lb:D->D->DH->R D
 | d,.non,G=>.ok (.bl (!Mv d)) G
 | _,_,_=>.bad
noncomputable def Oj:D->Option V
 | .non=>some .non
 | .bl b=>some (.bl b)
 | .int i=>some (.int i)
 | .str x=>some (.str x)
 | _=>none
noncomputable def Jq:List D->Option (List V)
 | []=>some []
 | d::r=>match Oj d,Jq r with
  | some v,some vs=>some (v::vs)
  | _,_=>none
noncomputable def inD (d e:D) (G:DH):Option Bool:=match e with
 | .str j=>match d with
  | .str i=>some (!(Builtin.Str.occurrences j i 0 j.length 1).isEmpty)
  | _=>none
 | e=>match By e G,Oj d with
  | some xs,some v=>(Jq xs).map λvs=>inV v vs
  | _,_=>none
noncomputable def Tr (d e:D) (G:DH):R D:=match inD d e G with
 | some k=>.ok (.bl k) G
 | none=>.bad
section
variable {X:Cx} {E:XK} {a b:xJ} {ta tb:DE} {pos:Pos}
theorem Tu:UnR X (unaryOp .USub) (lR1 X.K E P0):=λv8 s σ H x v Q I rx h=>by
 obtain ⟨a,G,d,hk,rfl,sm,rd,q⟩:=h;cases d with
 | int i=>exact ZMf v8 s σ a.H x v Q I rx ⟨i,rd,q a _ (Ext.refl a) sm rfl⟩
 | _=>exact q.elim
theorem U3 {op:UnaryOp} {f:D->DH->R D} (ho:UnR X (unaryOp op) (lR1 X.K E f)) (ha:QE X E a ta):QE X E (.UnaryOp op a pos) (dUn f ta):=(ZMs ho ha).mono λσ H Q h=>by obtain ⟨a,S,G,hk,rfl,s,r,h⟩:=h;refine ⟨a,S,G,hk,rfl,s,r,(Gn h).imp ?_⟩;rintro v _ ⟨b,d,G1,rfl,x,s1,q,-,h1⟩;exact ⟨b,G1,d,x.k.trans hk,rfl,s1,q,h1⟩
theorem Od {n:String} (hg:Gl X x) (hm:X.mg x=none) (hv:xB x=some (.type n)) (hn:x≠"__name__":=by decide) (hd:(x == ("__debug__":Str))=false:=by decide):QE X E (.Name x pos) (dC (.ty n)):=
 (ZKe (v:=.ty n) hg hm hv rfl hn hd).mono λσ H Q h=>Q7 h λ_ _=>rfl
theorem ZJx {a:Wd} {x:V} (rd:Rep a d x):decide (x=V.non)=Mv d:=by
 cases d with
 | non=>rw [show x=V.non from rd];rfl
 | bl _=>rw [show x=V.bl _ from rd];rfl
 | int _=>rw [show x=V.int _ from rd];rfl
 | str _=>rw [show x=V.str _ from rd];rfl
 | ty _=>rw [show x=V.ty _ from rd];rfl
 | tup _=>obtain ⟨p,vs,rfl,_⟩:=rd;rfl
 | fl _=>obtain ⟨p,vs,rfl,_⟩:=rd;rfl
 | ref _=>rw [rd.2];rfl
theorem Zi:OpR X (xD .Is) (lR2 X.K E Qa):=Hv ZRZ λa G d e x y Q hk s rd re q=>by
 cases e with
 | non=>exact ⟨re,by rw [ZJx rd];cases d <;> exact q a _ (Ext.refl a) s rfl⟩
 | _=>cases d <;> exact q.elim
theorem Pg:OpR X (xD .IsNot) (lR2 X.K E Lb):=Hv ZM6 λa G d e x y Q hk s rd re q=>by
 cases e with
 | non=>exact ⟨re,by rw [ZJx rd];cases d <;> exact q a _ (Ext.refl a) s rfl⟩
 | _=>cases d <;> exact q.elim
theorem ZGB {a:Wd} {x:V} (r:Rep a d x) (h:Oj d=some v):x=v/\Fe v=true:=by
 cases d <;> first
  | (cases h;exact ⟨r,rfl⟩)
  | cases h
theorem ZGb {a:Wd}:∀{ds:List D} {xs vs:List V},Reps a ds xs->Jq ds=some vs->xs=vs/\vs.all Fe=true
 | [],xs,vs,r,h=>by cases h;exact ⟨r,rfl⟩
 | d::ds,xs,vs,r,h=>by
  obtain ⟨x,r',rfl,r1,r2⟩:=r;unfold Jq at h;split at h
  ·rename_i v ws h1 h2;cases h;obtain ⟨e1,f1⟩:=ZGB r1 h1;obtain ⟨e2,f2⟩:=ZGb r2 h2;subst e1;subst e2;exact ⟨rfl,by rw [qL,f1,f2];rfl⟩
  ·cases h
theorem ZLY {a:Wd} {e:D} {x:V} {k:Bool} (s:Sim a G) (rd:Rep a d x) (re:Rep a e y) (h:inD d e G=some k):
  (∃i j,x=.str i/\y=.str j/\k= !(Builtin.Str.occurrences j i 0 j.length 1).isEmpty)∨(∃p xs,y=.ref p/\(SqL a.K a.H p xs∨SqT a.K a.H p xs)/\Fe x=true/\xs.all Fe=true/\k=inV x xs):=by
 have seq:(match By e G,Oj d with | some xs,some v=>(Jq xs).map λvs=>inV v vs | _,_=>none)=some k->(∃p xs,y=.ref p/\(SqL a.K a.H p xs∨SqT a.K a.H p xs)/\Fe x=true/\xs.all Fe=true/\k=inV x xs):=λh=>by
  split at h
  ·rename_i xs v h1 h2;obtain ⟨p,ws,e1,q,r1⟩:=Mh s re h1;obtain ⟨e2,f2⟩:=ZGB rd h2;subst e2;rw [zP] at h;obtain ⟨us,h3,h4⟩:=h;obtain ⟨e3,f3⟩:=ZGb r1 h3;subst e3;exact ⟨p,ws,e1,q,f2,f3,h4.symm⟩
  ·cases h
 cases e with
 | str j=>
  cases d with
  | str i=>exact .inl ⟨i,j,rd,re,(Option.some.inj h).symm⟩
  | _=>cases h
 | tup xs=>exact .inr (seq h)
 | fl xs=>exact .inr (seq h)
 | ref i=>exact .inr (seq h)
 | _=>exact .inr (seq h)
theorem o_in:OpR X (xD .In) (lR2 X.K E Tr):=Hv (ZNu.or ZP9) λa G d e x y Q hk s rd re q=>by
 unfold Tr at q;split at q
 ·rename_i k h;have z:=q a _ (Ext.refl a) s rfl;rcases ZLY s rd re h with ⟨i,j,e1,e2,rfl⟩ | ⟨p,xs,e1,hq,f1,f2,rfl⟩
  ·exact .inl ⟨i,j,e1,e2,z⟩
  ·exact .inr ⟨p,xs,e1,by rw [<-hk];exact hq,f1,f2,z⟩
 ·exact q.elim
end
theorem Pb:xB "isinstance"=some (.builtin "isinstance"):=by decide +kernel
theorem ZNN:xB "all"=some (.builtin "all"):=by decide +kernel
theorem ZIn:xB "max"=some (.builtin "max"):=by decide +kernel
theorem Tw:xB "min"=some (.builtin "min"):=by decide +kernel
theorem Ec:xB "len"=some (.builtin "len"):=by decide +kernel
theorem Vz:xB "int"=some (.type "int"):=by decide +kernel
theorem ZFy:xB "bool"=some (.type "bool"):=by decide +kernel
theorem Im:xB "tuple"=some (.type "tuple"):=by decide +kernel
theorem Yj:xB "list"=some (.type "list"):=by decide +kernel
def Nt:xV->Bool | .local=>true | _=>false
def Oq:xV->Bool | .cell=>true | _=>false
def N5:xV->Bool | .free=>true | _=>false
def isK (p:xV->Bool):Option xV->Bool | some k=>p k | none=>false
theorem ZN1 {k:xV} (h:Nt k=true):k=.local:=by cases k <;> first | rfl | cases h
theorem ZQ9 {k:xV} (h:Oq k=true):k=.cell:=by cases k <;> first | rfl | cases h
theorem ZJR {k:xV} (h:N5 k=true):k=.free:=by cases k <;> first | rfl | cases h
theorem Y5 {p:xV->Bool} {k:xV} (hp:∀k',p k'=true->k'=k) {o:Option xV} (h:isK p o=true):o=some k:=by
 cases o with
 | none=>cases h
 | some k'=>rw [hp _ h]
noncomputable def ZJV (dn:List (Str×xV)) (N0 N:List Str) (names:List (Str×xV)) (nt:Nat) (caps:List Nat):Bool:=
 names.all (λy=>(!Nt y.2 || isK Nt (names.lookup y.1)) && !Oq y.2 && (!N5 y.2 || isK Oq (dn.lookup y.1) || isK N5 (dn.lookup y.1))) && decide N.Nodup && decide (N.length=nt + caps.length) &&
 (zj caps.length).all λk=>match caps[k]? with
  | some j=>match N0[j]? with
   | some x=>decide (N[nt + k]? =some x) && isK N5 (names.lookup x)
   | none=>false
  | none=>true
theorem Fw {X:Cx} {N0 N:List Str} {nt:Nat} {caps:List Nat} {dn:List (Str×xV)} (hk:scope.kind=.function:=by rfl) (hdn:∀x,X.env.kindOf x=dn.lookup x:=by intro _;rfl) (hN:X.N=N0:=by rfl)
  (h:ZJV dn N0 N scope.names nt caps=true:=by decide +kernel):CompSc X N scope nt caps:=by
 unfold ZJV at h;rw [zC,zC,zC] at h;obtain ⟨⟨⟨h1,h2⟩,h3⟩,h4⟩:=h;rw [qk] at h1 h4;have key:=λ(y:Str×xV) (hy:y∈scope.names)=>(by have:=h1 y hy;rw [zC,zC] at this;exact this:((!Nt y.2 || isK Nt (scope.names.lookup y.1))=true/\(!Oq y.2)=true)/\(!N5 y.2 || isK Oq (dn.lookup y.1) || isK N5 (dn.lookup y.1))=true)
 refine ⟨hk,λy hy hl=> ?_,λy hy hl=> ?_,λy hy hl=> ?_,of_decide_eq_true h2,of_decide_eq_true h3,λk j hj=> ?_⟩
 ·have:=(key y hy).1.1;rw [hl] at this;exact Y5 (p:=Nt) (λ_ h=>ZN1 h) (by have t:(false || isK Nt (scope.names.lookup y.1))=true:=this;simpa using t)
 ·have:=(key y hy).1.2;rw [hl] at this;exact absurd this (by decide)
 ·have:=(key y hy).2;rw [hl,jC] at this;rw [hdn];rcases this with h | h
  ·exact .inl (Y5 (p:=Oq) (λ_ h=>ZQ9 h) (by have t:(false || isK Oq (dn.lookup y.1))=true:=h;simpa using t))
  ·exact .inr (Y5 (p:=N5) (λ_ h=>ZJR h) h)
 ·have hk':k < caps.length:=(zF.mp hj).1;have:=h4 k (zS.mpr hk');rw [hj] at this;dsimp only at this;cases e:N0[j]? with
  | none=>rw [e] at this;cases this
  | some x=>
   rw [e] at this;dsimp only at this;rw [zC] at this;exact ⟨x,by rw [hN];exact e,of_decide_eq_true this.1,Y5 (p:=N5) (λ_ h=>ZJR h) this.2⟩
section
section
variable {X:Cx} {v8:List (xQ×Obj)} {σ:St} {H:Hp} {s:xY}
theorem ZP3 {xs:List V} (I:Inv X v8 σ H s) (h:H p=some (.lst xs)):∃o,Inv X v8 σ (upd H p (.frz o (.lst xs))) s:=by
 obtain ⟨hl,its,n,r,e⟩:=I.hok p _ h;have nt:∀b (u:HO),H b=some u->u≠ .lst xs->b≠p:=λb u q d z=>by subst z;rw [h] at q;exact d (Option.some.inj q).symm
 refine ⟨_,I.un (t':=s.toks) (H':=upd H p (.frz {cls:=.type "list",data:=.seq its.toArray n} (.lst xs))) ⟨λb o q _ _ _=>q,λb o q _ _ _=>⟨o.slots,q⟩,λb o q z _=> ?_,λb o q _=>⟨o,q⟩,λb ys q=> ?_,λb o u q=> ?_,λb ps q=>⟨#[],?_⟩⟩ ?_⟩
 ·rw [Bd (λz'=>by subst z';rw [h] at z;cases z)];exact z
 ·rw [Bd (nt b _ q (by intro z;cases z))];exact q
 ·rw [Bd (nt b _ q (by intro z;cases z))];exact q
 ·rw [Bd (nt b _ q (by intro z;cases z)),Array.append_empty];exact q
 ·intro b u q;by_cases hb:b=p
  ·subst hb;rw [Ha] at q;cases q;exact ⟨e,hl,its,n,r,e⟩
  ·rw [Bd hb] at q;exact (I.hok b u q).stay (λc v _ z=>z) (λc z=>by rw [Bd (nt c _ z (by intro z;cases z))];exact z) λc ys z=>by rw [Bd (nt c _ z (by intro z;cases z))];exact z
noncomputable def Fz (P:xQ->Prop) (H H':Hp):Prop:=∀p,(H' p=H p/\(∀vs,H p=some (.lst vs)->¬P p))∨∃o vs,P p/\H p=some (.lst vs)/\H' p=some (.frz o (.lst vs))
theorem ZJI (I:Inv X v8 σ H s) (m:Nat->xQ) (n:Nat):∀k:Nat,∃H',Inv X v8 σ H' s/\Fz (λp=>∃i,n<=i/\i < n + k/\p=m i) H H'
 | 0=>⟨H,I,λp=>.inl ⟨rfl,λ_ _ ⟨i,h1,h2,_⟩=>by lia⟩⟩
 | k + 1=>by
  obtain ⟨H',I',F⟩:=ZJI I m n k;have keep:(∀vs,H' (m (n + k))≠some (.lst vs))->Fz (λp=>∃i,n<=i/\i < n + (k + 1)/\p=m i) H H':=λno p=>by
   rcases F p with ⟨e,z⟩ | ⟨o,vs,⟨i,h1,h2,h3⟩,e1,e2⟩
   ·refine .inl ⟨e,λvs e1 ⟨i,h1,h2,h3⟩=> ?_⟩;by_cases hi:i < n + k
    ·exact z vs e1 ⟨i,h1,hi,h3⟩
    ·have:i=n + k:=by lia
     subst this;subst h3;exact no vs (e.trans e1)
   ·exact .inr ⟨o,vs,⟨i,h1,by lia,h3⟩,e1,e2⟩
  cases hH:H' (m (n + k)) with
  | none=>exact ⟨H',I',keep λvs z=>by rw [hH] at z;cases z⟩
  | some u=>
   cases u with
   | lst vs=>
    obtain ⟨o,I2⟩:=ZP3 I' hH;refine ⟨_,I2,λp=> ?_⟩;by_cases hp:p=m (n + k)
    ·subst hp;rcases F (m (n + k)) with ⟨e,z⟩ | ⟨o',vs',_,e1,e2⟩
     ·exact .inr ⟨o,vs,⟨n + k,by lia,by lia,rfl⟩,e.symm.trans hH,Ha⟩
     ·rw [hH] at e2;cases e2
    ·rcases F p with ⟨e,z⟩ | ⟨o',vs',⟨i,h1,h2,h3⟩,e1,e2⟩
     ·refine .inl ⟨by rw [Bd hp];exact e,λvs' e1 ⟨i,h1,h2,h3⟩=> ?_⟩;by_cases hi:i < n + k
      ·exact z vs' e1 ⟨i,h1,hi,h3⟩
      ·have:i=n + k:=by lia
       subst this;exact hp h3
     ·exact .inr ⟨o',vs',⟨i,h1,by lia,h3⟩,e1,by rw [Bd hp];exact e2⟩
   | _=>exact ⟨H',I',keep λvs z=>by rw [hH] at z;cases z⟩
end
noncomputable def Ng (f:D->Option D):List D->Option (List D)
 | []=>some []
 | d::r=>match f d,Ng f r with
  | some d',some r'=>some (d'::r')
  | _,_=>none
noncomputable def Jb (G:DH) (n:Nat):Nat->D->Option D
 | 0,_=>none
 | k + 1,d=>if bel n d=true then some d else match d with
  | .ref i=>match G[i]? with
   | some (.lst xs)=>(Ng (Jb G n k) xs).map .fl
   | _=>none
  | .tup xs=>(Ng (Jb G n k) xs).map .tup
  | .fl xs=>(Ng (Jb G n k) xs).map .fl
  | _=>none
open Classical in
noncomputable def freeze (G:DH) (r:R D):R D:=match r with
 | .ok d G'=>if G'.take G.length=G then (match Jb G' G.length 9 d with
   | some d'=>.ok d' G
   | none=>.ok d G') else .ok d G'
 | r=>r
def Br (t:DE):DE:=λS G=>freeze G (t S G)
structure CutF (b c:Wd) (n:Nat):Prop where
 k:c.K=b.K
 n:c.n=n
 m:c.m=b.m
 tup:∀p xs,b.H p=some (.tup xs)->c.H p=some (.tup xs)
 frz:∀p o u,b.H p=some (.frz o u)->c.H p=some (.frz o u)
theorem CutF.sqT {c:Wd} {n:Nat} (x:CutF b c n) {xs:List V} (h:SqT b.K b.H p xs):SqT c.K c.H p xs:=by
 rcases h with (h | ⟨o,h⟩) | h
 ·exact .inl (.inl (x.tup _ _ h))
 ·exact .inl (.inr ⟨o,x.frz _ _ _ h⟩)
 ·exact .inr (by rw [x.k];exact h)
theorem CutF.fzL {c:Wd} {n:Nat} (x:CutF b c n) {xs:List V} (h:FzL b.K b.H p xs):FzL c.K c.H p xs:=by
 rcases h with ⟨o,h⟩ | h
 ·exact .inl ⟨o,x.frz _ _ _ h⟩
 ·exact .inr (by rw [x.k];exact h)
mutual
theorem Rep.Eu {c:Wd} {n:Nat} (x:CutF b c n):∀{d:D} {v:V},Rep b d v->bel n d=true->Rep c d v
 | .non,_,h,_=>h
 | .bl _,_,h,_=>h
 | .int _,_,h,_=>h
 | .str _,_,h,_=>h
 | .ty _,_,h,_=>h
 | .tup ds,v,h,q=>by obtain ⟨p,vs,e,t,r⟩:=h;simp only [DL.bel] at q;exact ⟨p,vs,e,x.sqT t,Reps.Eu x r q⟩
 | .fl ds,v,h,q=>by obtain ⟨p,vs,e,t,r⟩:=h;simp only [DL.bel] at q;exact ⟨p,vs,e,x.fzL t,Reps.Eu x r q⟩
 | .ref i,v,h,q=>by obtain ⟨l,e⟩:=h;simp only [DL.bel] at q;have q':=of_decide_eq_true q;exact ⟨by rw [x.n];exact q',by rw [x.m];exact e⟩
theorem Reps.Eu {c:Wd} {n:Nat} (x:CutF b c n):∀{ds:List D} {vs:List V},Reps b ds vs->bels n ds=true->Reps c ds vs
 | [],_,h,_=>h
 | d::ds,vs,h,q=>by obtain ⟨v,r,e,h1,h2⟩:=h;simp only [DL.bels,zC] at q;exact ⟨v,r,e,Rep.Eu x h1 q.1,Reps.Eu x h2 q.2⟩
end
theorem Zt {c:Wd} {f:D->Option D} (hf:∀d d' v,f d=some d'->Rep b d v->Rep c d' v):∀{ds ds':List D} {vs:List V},Ng f ds=some ds'->Reps b ds vs->Reps c ds' vs
 | [],ds',vs,e,h=>by cases e;exact h
 | d::ds,ds',vs,e,h=>by
  obtain ⟨v,r,rfl,h1,h2⟩:=h;unfold Ng at e;split at e
  ·rename_i d' r' e1 e2;cases e;exact ⟨v,r,rfl,hf _ _ _ e1 h1,Zt hf e2 h2⟩
  ·cases e
theorem ZIe {c:Wd} {n:Nat} (s:Sim b G') (x:CutF b c n) (hz:∀i,n<=i->i < b.n->∀vs,b.H (b.m i)=some (.lst vs)->∃o,c.H (b.m i)=some (.frz o (.lst vs))):∀(k:Nat) (d d':D) (v:V),Jb G' n k d=some d'->Rep b d v->Rep c d' v
 | 0,d,d',v,e,h=>by cases e
 | k + 1,d,d',v,e,h=>by
  have ih:=ZIe s x hz k;unfold Jb at e;split at e
  ·rename_i hb;cases e;exact h.Eu x hb
  ·rename_i hb;cases d with
   | ref i=>
    dsimp only at e;split at e
    ·rename_i xs hx;rw [zP] at e;obtain ⟨ys,e1,rfl⟩:=e;obtain ⟨vs,e2,r2⟩:=s.obj i _ hx;obtain ⟨il,rfl⟩:=h;have hi:n<=i:=by simp only [DL.bel,decide_eq_true_eq] at hb;lia
     obtain ⟨o,e3⟩:=hz i hi il vs e2;exact ⟨_,vs,rfl,.inl ⟨o,e3⟩,Zt ih e1 r2⟩
    ·cases e
   | tup xs=>
    dsimp only at e;rw [zP] at e;obtain ⟨ys,e1,rfl⟩:=e;obtain ⟨p,vs,rfl,t,r⟩:=h;exact ⟨p,vs,rfl,x.sqT t,Zt ih e1 r⟩
   | fl xs=>
    dsimp only at e;rw [zP] at e;obtain ⟨ys,e1,rfl⟩:=e;obtain ⟨p,vs,rfl,t,r⟩:=h;exact ⟨p,vs,rfl,x.fzL t,Zt ih e1 r⟩
   | _=>cases e
theorem ZI7 {v8:List (xQ×Obj)} {sh:xY} (s:Sim a G) (hG:G'.take G.length=G) (x:Ext a b) (sb:Sim b G') (I:Inv X v8 σ b.H sh):
  ∃c:Wd,Inv X v8 σ c.H sh/\Ext a c/\Sim c G/\CutF b c a.n/\∀(k:Nat) (d d':D) (v:V),Jb G' G.length k d=some d'->Rep b d v->Rep c d' v:=by
 have hlen:∀i o,G[i]? =some o->G'[i]? =some o:=λi o e=>by have hi:i < G.length:=(zF.mp e).1;rw [<-hG,jv hi] at e;exact e
 obtain ⟨H',I',F⟩:=ZJI I b.m a.n (b.n - a.n);have hbn:a.n + (b.n - a.n)=b.n:=by have:=x.n;lia
 rw [hbn] at F;have ct:∀p (u:HO),(∀vs,u≠ .lst vs)->b.H p=some u->H' p=some u:=λp u nu e=>by
  rcases F p with ⟨e1,_⟩ | ⟨o,vs,_,e1,_⟩
  ·exact e1.trans e
  ·rw [e] at e1;exact absurd (Option.some.inj e1) (nu vs)
 have tabs:∀p,TabOk b.H p->TabOk H' p:=λp t=>t.mono (λp ps e=>ct p _ (by intro _ z;cases z) e) λp o u e=>ct p _ (by intro _ z;cases z) e
 have cc:CutF b ⟨b.K,a.n,b.m,H'⟩ a.n:=⟨rfl,rfl,rfl,λp xs e=>ct p _ (by intro _ z;cases z) e,λp o u e=>ct p _ (by intro _ z;cases z) e⟩;have old:∀i,i < a.n->H' (b.m i)=b.H (b.m i):=λi hi=>by
  rcases F (b.m i) with ⟨e1,_⟩ | ⟨o,vs,⟨j,h1,h2,h3⟩,e1,e2⟩
  ·exact e1
  ·have:=sb.inj i j (zq hi x.n) h2 h3;lia
 refine ⟨⟨b.K,a.n,b.m,H'⟩,I',⟨x.k,zW _,x.m,λp xs e=>cc.tup p xs (x.tup p xs e),λp o u e=>cc.frz p o u (x.frz p o u e),λp t=>tabs p (x.tab p t)⟩,⟨s.len,λi j hi hj=>sb.inj i j (zq hi x.n) (zq hj x.n),λi o e=> ?_,λi hi=> ?_⟩,cc,λk d d' v hd rb=> ?_⟩
 ·show ORep ⟨b.K,a.n,b.m,H'⟩ o (H' (b.m i));rw [old i (s.lt e)];have q:=sb.obj i o (hlen i o e);have lb:=(s.obj i o e).O5;cases o with
  | lst ds=>obtain ⟨vs,e1,r1⟩:=q;exact ⟨vs,e1,r1.Eu cc lb⟩
  | dct kvs=>obtain ⟨us,e1,k1,r1⟩:=q;exact ⟨us,e1,k1,r1.Eu cc lb⟩
  | ins c fs=>obtain ⟨C,dx,us,n1,e1,k1,r1⟩:=q;exact ⟨C,dx,us,n1,e1,k1,r1.Eu cc lb⟩
  | tab C m=>obtain ⟨c1,P1,e1,t1⟩:=q;exact ⟨c1,P1,e1,tabs _ t1⟩
  | gone=>trivial
 ·show H' (b.m i)≠none;rw [old i hi];exact sb.tr i (zq hi x.n)
 ·rw [s.len] at hd;refine ZIe sb cc (λi h1 h2 vs e=> ?_) k d d' v hd rb;rcases F (b.m i) with ⟨e1,z⟩ | ⟨o,vs',_,e1,e2⟩
  ·exact absurd ⟨i,h1,h2,rfl⟩ (z vs e)
  ·rw [e] at e1;cases e1;exact ⟨o,e2⟩
theorem ZQQ (s:Sim a G) (h:out E a (freeze G r) Q):
  out E a r λv H=>∀(v8:List (xQ×Obj)) (σ:St) (sh:xY),Inv X v8 σ H sh->∃H',Inv X v8 σ H' sh/\Q v H':=by
 cases r with
 | err e G'=>exact h
 | bad=>exact h
 | ok d G'=>
  intro b v x sb rb v8 σ sh I;unfold freeze at h;dsimp only at h;split at h
  ·rename_i hG;split at h
   ·rename_i d' hd;obtain ⟨c,Ic,xc,sc,cc,hr⟩:=ZI7 s hG x sb I;exact ⟨c.H,Ic,h c v xc sc (hr _ _ _ _ hd rb)⟩
   ·exact ⟨_,I,h b v x sb rb⟩
  ·exact ⟨_,I,h b v x sb rb⟩
theorem Cu (ha:QE X E e t):QE X E e (Br t):=λv8 s σ H Q I h=>by
 obtain ⟨a,S,G,hk,rfl,sm,r,h⟩:=h;refine thn (ha v8 s σ a.H _ I ⟨a,S,G,hk,rfl,sm,r,ZQQ (X:=X) sm h⟩) λu s' ⟨v,H',I',rv,q⟩=> ?_
 obtain ⟨H2,I2,q2⟩:=q v8 σ s' I';exact ⟨v,H2,I2,rv,q2⟩
theorem Sq {st:xq} (ha:QS X E st (sAs t (gV i))):QS X E st (sAs (Br t) (gV i)):=λv8 s σ H W I h=>by
 obtain ⟨a,S,G,hk,rfl,sm,r,h⟩:=h;have h2:Di E a (sAs t (gV i) S G) {W with nx:=λσ H=>∀(v8:List (xQ×Obj)) (sh:xY),Inv X v8 σ H sh->∃H',Inv X v8 σ H' sh/\W.nx σ H'}:=by
  unfold sAs Br at h;unfold sAs;cases ht:t S G with
  | err e G'=>rw [ht] at h;exact h
  | bad=>rw [ht] at h;exact h
  | ok d G'=>
   rw [ht] at h;intro b σ' x sb rb v8 sh I;unfold freeze at h;dsimp only at h;split at h
   ·rename_i hG;split at h
    ·rename_i d' hd;obtain ⟨c,Ic,xc,sc,cc,hr⟩:=ZI7 sm hG x sb I;refine ⟨c.H,Ic,h c σ' xc sc ⟨?_,λj e he=> ?_⟩⟩
     ·rw [jB,<-rb.len,jB]
     ·rw [jK] at he;by_cases hij:i=j
      ·subst hij;rw [if_pos rfl] at he;by_cases hl:i < S.length
       ·rw [if_pos hl] at he;have e1:d'=e:=by simpa using he
        subst e1;obtain ⟨v,e2,rv⟩:=rb.get i d (by rw [jK,if_pos rfl,if_pos hl]);exact ⟨v,e2,hr _ _ _ _ hd rv⟩
       ·rw [if_neg hl] at he;cases he
      ·rw [if_neg hij] at he;obtain ⟨v,e2,rv⟩:=rb.get j e (by rw [jK,if_neg hij];exact he);obtain ⟨v',_,rv'⟩:=r.get j e he;exact ⟨v,e2,rv.Eu cc rv'.bel⟩
    ·exact ⟨_,I,h b σ' x sb rb⟩
   ·exact ⟨_,I,h b σ' x sb rb⟩
 refine thn (ha v8 s σ a.H _ I ⟨a,S,G,hk,rfl,sm,r,h2⟩) λf s' hf=> ?_
 cases f with
 | next=>
  obtain ⟨σ',H',I',q⟩:=hf;obtain ⟨H2,I2,q2⟩:=q v8 s' I';exact ⟨σ',H2,I2,q2⟩
 | brk=>exact hf
 | cont=>exact hf
 | ret u=>exact hf
end
section
variable {S:DSt} {G:DH}
@[simp] theorem ZAh:dV i S G=(match S[i]? with | some (some d)=>.ok d G | _=>.bad):=id rfl
@[simp] theorem ev_C:dC d S G=.ok d G:=id rfl
@[simp] theorem ev_Op {a b:DE}:dOp f a b S G=(a S G).bind λx G1=>(b S G1).bind λy G2=>f x y G2:=id rfl
@[simp] theorem ev_Un {f:D->DH->R D} {a:DE}:dUn f a S G=(a S G).bind f:=id rfl
@[simp] theorem ev_Nil:Ad S G=.ok [] G:=id rfl
@[simp] theorem ZR3 {a:DE} {r:DA}:Ab a r S G=(a S G).bind λx G1=>(r S G1).bind λxs G2=>.ok (x::xs) G2:=id rfl
@[simp] theorem ev_Fn {f:List D->DH->R D} {t:DA}:dFn f t S G=(t S G).bind f:=id rfl
@[simp] theorem ZSR:Eh t S G=tidy G (t S G):=id rfl
@[simp] theorem ev_Frz:Br t S G=freeze G (t S G):=id rfl
@[simp] theorem ev_asB {k:Bool}:asB (.bl k) G=.ok k G:=id rfl
@[simp] theorem ev_Tst:Ay t S G=(t S G).bind asB:=id rfl
@[simp] theorem ev_And {t u:DB}:Kp t u S G=(t S G).bind λk G1=>if k=true then u S G1 else .ok false G1:=id rfl
@[simp] theorem ev_Or {t u:DB}:dOr t u S G=(t S G).bind λk G1=>if k=true then .ok true G1 else u S G1:=id rfl
@[simp] theorem ev_Not {t:DB}:K7 t S G=(t S G).bind λk G1=>.ok (!k) G1:=id rfl
@[simp] theorem ZSv {u:DE}:Mq t u S G=(t S G).bind λx G1=>(asB x G1).bind λk G2=>if k=true then u S G2 else .ok (.bl false) G2:=id rfl
@[simp] theorem ev_OrV {u:DE}:Yq t u S G=(t S G).bind λx G1=>(asB x G1).bind λk G2=>if k=true then .ok (.bl true) G2 else u S G2:=id rfl
@[simp] theorem ZSm:My t S G=(t S G).bind λx G1=>(asB x G1).bind λk G2=>.ok (.bl (!k)) G2:=id rfl
@[simp] theorem ev_If {u:DE}:dIf c t u S G=(c S G).bind λk G1=>if k=true then t S G1 else u S G1:=id rfl
@[simp] theorem ZSD {g:D->D->DH->R D} {a b c:DE}:Xq f g a b c S G=(a S G).bind λx G1=>(b S G1).bind λy G2=>(f x y G2).bind λz G3=>(asB z G3).bind λk G4=>
 if k=true then (c S G4).bind λw G5=>g y w G5 else .ok (.bl false) G4:=id rfl
@[simp] theorem ev_sNx:sNx S G=.nx S G:=id rfl
def SR.then (r:SR) (u:DS):SR:=match r with
 | .nx S1 G1=>u S1 G1
 | r=>r
@[simp] theorem Ws {t:DS}:Ah t u S G=(t S G).then u:=id rfl
@[simp] theorem W9:(SR.nx S G).then u=u S G:=id rfl
@[simp] theorem ZSV:(SR.rt d G).then u=.rt d G:=id rfl
@[simp] theorem ev_sEx:sEx t S G=(t S G).toS λ_ G1=>.nx S G1:=id rfl
@[simp] theorem ev_sRt:sRt t S G=(t S G).toS λd G1=>.rt d G1:=id rfl
@[simp] theorem ev_sIf {t:DS}:sIf c t u S G=(c S G).toS λk G1=>if k=true then t S G1 else u S G1:=id rfl
@[simp] theorem ev_sAs:sAs t g S G=(t S G).toS λd G1=>(g d S G1).toS λS2 G2=>.nx S2 G2:=id rfl
@[simp] theorem ev_sAu:sAu i t f S G=(match S[i]? with
 | some (some x)=>(t S G).toS λy G1=>(f x y G1).toS λz G2=>.nx (S.set i (some z)) G2
 | _=>.bad):=id rfl
@[simp] theorem ZSG {it:DI} {b:DS}:Dq it g b S G=(it S G).toS λJ G1=>(match J with
 | .pure xs=>Bp g b xs S G1
 | .mt i=>match G1[i]? with
  | some (.lst xs)=>forM i g b xs.length 0 S G1
  | _=>.bad
 | .fn n f=>Em f g b n 0 S G1):=id rfl
@[simp] theorem ZLV:Ew t S G=(t S G).bind H8:=id rfl
@[simp] theorem ZR7 {f:List D->DH->R ItD} {t:DA}:Dg f t S G=(t S G).bind f:=id rfl
@[simp] theorem Du:gV i d S G=.ok (S.set i (some d)) G:=id rfl
@[simp] theorem Yx:Ce [] S G=.ok S G:=id rfl
@[simp] theorem Xk {t:DG} {u:DGs} {r:List D}:Aq t u (d::r) S G=(t d S G).bind λS1 G1=>u r S1 G1:=id rfl
@[simp] theorem Ys {n:Nat} {t:DGs} :Bx n t (.tup ds) S G=if ds.length=n then t ds S G else .bad:=id rfl
@[simp] theorem ev_gIx {o i:DE} {v:D}:gIx o i v S G=(o S G).bind λo G1=>(i S G1).bind λi G2=>(M6 o i v G2).bind λ_ G3=>.ok S G3:=id rfl
@[simp] theorem ev_MtL {f:D->List D->DH->R D} {o:DE} {t:DA}:Fv f o t S G=(o S G).bind λx G1=>if isL x G1=true then (t S G1).bind λxs G2=>f x xs G2 else .bad:=id rfl
@[simp] theorem ZK0 {it:DI} {caps:List Nat} :Ej it nt caps g c te S G=(it S G).bind λJ G1=>(match J with
 | .pure xs=>Dy g c te (Bl nt caps S) xs G1
 | .mt i=>match G1[i]? with
  | some (.lst xs)=>Hn i g c te (Bl nt caps S) xs.length 0 G1
  | _=>.bad
 | .fn n f=>Ed f g c te (Bl nt caps S) n 0 G1).bind Av:=id rfl
@[simp] theorem ZQx:Ck S G=.ok true G:=id rfl
@[simp] theorem Dr {k:DSt->DH->SR}:aft (.nx S G) k=k S G:=id rfl
@[simp] theorem ZMk {k:DSt->DH->SR} :aft (.rt d G) k=.rt d G:=id rfl
theorem Ea {b:DS}:Bp g b [] S G=.nx S G:=id rfl
theorem Dp {b:DS} {x:D} :Bp g b (x::xs) S G=(g x S G).toS λS1 G1=>aft (b S1 G1) (Bp g b xs):=id rfl
theorem ZA1 {x:D} :Dy g c te S (x::xs) G=(g x S G).bind λS1 G1=>(c S1 G1).bind λk G2=>
   if k=true then (te S1 G2).bind λd G3=>(Dy g c te S xs G3).bind λds G4=>.ok (d::ds) G4 else Dy g c te S xs G2:=id rfl
noncomputable def SR.ret (r:SR):R D:=match r with
 | .nx _ G'=>.ok .non G'
 | .rt d G'=>.ok d G'
 | .err x G'=>.err x G'
 | _=>.bad
@[simp] theorem ZO2:(SR.nx S G).ret=.ok .non G:=id rfl
@[simp] theorem ret_rt:(SR.rt d G).ret=.ok d G:=id rfl
theorem Bk {np nl:Nat} {b:DS} :Bt np nl b ds G=if ds.length=np then tidy G (b (ds.map some++zV nl none) G).ret else .bad:=id rfl
end
section
variable {n:Nat} {G:DH}
@[simp] theorem ZR9:bel n .non=true:=by simp [DL.bel]
@[simp] theorem bel_bl {b:Bool}:bel n (.bl b)=true:=by simp [DL.bel]
@[simp] theorem ZRO {b:Int}:bel n (.int b)=true:=by simp [DL.bel]
@[simp] theorem ZSu {b:Str}:bel n (.str b)=true:=by simp [DL.bel]
@[simp] theorem ZSd {b:List D}:bel n (.tup b)=bels n b:=by simp [DL.bel]
@[simp] theorem bel_fl {b:List D}:bel n (.fl b)=bels n b:=by simp [DL.bel]
@[simp] theorem ZS2 {b:Nat}:bel n (.ref b)=decide (b < n):=by simp [DL.bel]
@[simp] theorem ZSt:bels n []=true:=by simp [DL.bels]
@[simp] theorem ZRa:bels n (d::ds)=(bel n d && bels n ds):=by simp [DL.bels]
theorem ZN6:bels n ds=true↔∀d∈ds,bel n d=true:=by
 induction ds with
 | nil=>simp
 | cons d ds ih=>simp [ih]
theorem Gi {f:α->D} {xs:List α} (h:∀x∈xs,bel n (f x)=true):bels n (xs.map f)=true:=by rw [ZN6];intro d hd;obtain ⟨x,hx,rfl⟩:=zG.mp hd;exact h x hx
@[simp] theorem ZG7 {xs:List Int}:bels n (xs.map D.int)=true:=Gi λ_ _=>ZRO
theorem Bh (h:bel G.length d=true):tidy G (.ok d G)=.ok d G:=by unfold tidy;simp [h]
theorem Uq (h:bel G.length d=true):tidy G (.ok d (G++L))=.ok d G:=by unfold tidy;simp [h]
theorem T9 (L:DH) (hk:L[k]? =some (.lst ds)) (h:bels G.length ds=true):tidy G (.ok (.ref (G.length + k)) (G++L))=.ok (.ref G.length) (G++ [.lst ds]):=by
 unfold tidy;have e:(G++L)[G.length + k]? =some (.lst ds):=by rw [zM (by lia)];simpa using hk
 simp [e,O5,h]
theorem Fb (h:bels G.length ds=true):tidy G (.ok (.ref G.length) (G++ .lst ds::L))=.ok (.ref G.length) (G++ [.lst ds]):=T9 (.lst ds::L) (k:=0) rfl h
theorem Mr (h:bel G.length d=true):freeze G (.ok d G)=.ok d G:=by unfold freeze;simp [h,Jb]
theorem ZFx {n:Nat} :∀{ds:List D},bels n ds=true->Ng (Jb G' n (k + 1)) ds=some ds
 | [],_=>rfl
 | d::ds,h=>by simp only [ZRa,zC] at h;unfold Ng;rw [ZFx h.2];simp [Jb,h.1]
theorem ZO3 (L:DH) (hk:L[k]? =some (.lst ds)) (h:bels G.length ds=true):freeze G (.ok (.ref (G.length + k)) (G++L))=.ok (.fl ds) G:=by
 unfold freeze;have e:(G++L)[G.length + k]? =some (.lst ds):=by rw [zM (by lia)];simpa using hk
 have m:Jb (G++L) G.length 9 (.ref (G.length + k))=some (.fl ds):=by unfold Jb;simp [e,ZFx h]
 simp [m]
theorem Fj (h:bels G.length ds=true):freeze G (.ok (.ref G.length) (G++ .lst ds::L))=.ok (.fl ds) G:=ZO3 (.lst ds::L) (k:=0) rfl h
theorem Zx (L:DH) (k:Nat):(G++L)[G.length + k]? =L[k]? :=by rw [zM (by lia)];simp
theorem Dj (L:DH):(G++L)[G.length]? =L[0]? :=Zx L 0
theorem ZC1 (L:DH) (k:Nat) (o:DO):(G++L).set (G.length + k) o=G++L.set k o:=by rw [jO _ _ (by lia)];simp
theorem Ep (L:DH) (o:DO):(G++L).set G.length o=G++L.set 0 o:=ZC1 L 0 o
theorem Pj {lo:Int}:Cm lo 0= []:=id rfl
theorem Lk {lo:Int} {n:Nat}:Cm lo (n + 1)=.int lo::Cm (lo + 1) n:=by
 unfold Cm;rw [qH,zA,qU]
 congr 1
 ·simp
 ·apply zT;intro k _;simp only [Function.comp]
  congr 1
  lia
end
section
variable {G:DH} {i j:Int} {x y:Str} {k l:Bool}
@[simp] theorem ev_add:Ba (.int i) (.int j) G=.ok (.int (i + j)) G:=id rfl
@[simp] theorem ZR6:Ba (.str x) (.str y) G=if x.length + y.length<=1000000 then .ok (.str (x++y)) G else .bad:=id rfl
@[simp] theorem ev_ip:Ml (.int i) (.int j) G=.ok (.int (i + j)) G:=id rfl
@[simp] theorem ev_sub:Fq (.int i) (.int j) G=.ok (.int (i - j)) G:=id rfl
theorem log2_small {n:Nat} (h:n < 10 ^ 100):n.log2 < 9000:=by
 by_cases hn:n=0
 ·subst hn;decide
 ·rw [Nat.log2_lt hn];exact Nat.lt_trans h (by decide)
@[simp] theorem ZSe {n:Nat} [NeZero n] (h:n < 10 ^ 100):Cy (.int i) (.int (no_index (OfNat.ofNat n))) G=.ok (.int (i / OfNat.ofNat n)) G:=
 if_pos ⟨Int.ofNat_lt.mpr (Nat.pos_of_ne_zero (NeZero.ne n)),log2_small h⟩
@[simp] theorem ev_mod:Be (.int i) (.int j) G=if 0 < j then .ok (.int (i % j)) G else .bad:=id rfl
@[simp] theorem ev_pow:Jg (.int i) (.int j) G=if 0<=j/\j<=1000000/\i.natAbs < 18446744073709551616 then .ok (.int (i ^ j.toNat)) G else .bad:=id rfl
@[simp] theorem ev_lt:Iv (.int i) (.int j) G=.ok (.bl (decide (i < j))) G:=id rfl
@[simp] theorem ev_le:Zr (.int i) (.int j) G=.ok (.bl (decide (i<=j))) G:=id rfl
@[simp] theorem ev_gt:Ko (.int i) (.int j) G=.ok (.bl (decide (j < i))) G:=id rfl
@[simp] theorem ev_ge:Wb (.int i) (.int j) G=.ok (.bl (decide (j<=i))) G:=id rfl
@[simp] theorem ev_eq:Cq (.int i) (.int j) G=.ok (.bl (decide (i=j))) G:=id rfl
@[simp] theorem ev_ne:Hz (.int i) (.int j) G=.ok (.bl (!decide (i=j))) G:=id rfl
@[simp] theorem ev_eqS:Cq (.str x) (.str y) G=.ok (.bl (decide (x=y))) G:=id rfl
@[simp] theorem ev_neS:Hz (.str x) (.str y) G=.ok (.bl (!decide (x=y))) G:=id rfl
@[simp] theorem ev_neg:P0 (.int i) G=.ok (.int (-i)) G:=id rfl
@[simp] theorem ev_is:Qa d .non G=.ok (.bl (Mv d)) G:=by cases d <;> exact id rfl
@[simp] theorem ZSk:Lb d .non G=.ok (.bl (!Mv d)) G:=by cases d <;> exact id rfl
@[simp] theorem ZSo:Mv .non=true:=id rfl
@[simp] theorem ZSW:Mv (.int i)=false:=id rfl
@[simp] theorem ZSJ:Mv (.tup ds)=false:=id rfl
@[simp] theorem ev_max:Y9 [.int i,.int j] G=.ok (.int (max i j)) G:=by
 show R.ok (D.int (if j > i then j else i)) G=_
 congr 2
 split <;> lia
@[simp] theorem ev_min:Oc [.int i,.int j] G=.ok (.int (min i j)) G:=by
 show R.ok (D.int (if j < i then j else i)) G=_
 congr 2
 split <;> lia
@[simp] theorem ZSj:K5 [.bl k] G=.ok (.int (if k then 1 else 0)) G:=id rfl
@[simp] theorem ZSX:By (.tup ds) G=some ds:=id rfl
@[simp] theorem ZSz:By (.fl ds) G=some ds:=id rfl
@[simp] theorem ZBZ {n:Nat}:By (.ref n) G=(match G[n]? with | some (.lst xs)=>some xs | _=>none):=id rfl
@[simp] theorem ZSK:Do [.tup ds] G=.ok (.int ds.length) G:=id rfl
@[simp] theorem ZSh:Do [.fl ds] G=.ok (.int ds.length) G:=id rfl
@[simp] theorem ZR5 {n:Nat}:Do [.ref n] G=(match G[n]? with | some (.lst xs)=>.ok (.int xs.length) G | _=>.bad):=by
 unfold Do;simp only [ZBZ];cases G[n]? with
 | none=>rfl
 | some o=>cases o <;> rfl
@[simp] theorem ev_ixT:Aj (.tup ds) (.int i) G=(match atI ds i with | some v=>.ok v G | none=>.bad):=id rfl
@[simp] theorem ev_ixF:Aj (.fl ds) (.int i) G=(match atI ds i with | some v=>.ok v G | none=>.bad):=id rfl
@[simp] theorem ev_ixR {n:Nat}:Aj (.ref n) (.int i) G=(match G[n]? with | some (.lst xs)=>(match atI xs i with | some v=>.ok v G | none=>.bad) | _=>.bad):=by
 unfold Aj;simp only [ZBZ];cases G[n]? with
 | none=>rfl
 | some o=>cases o <;> rfl
theorem Jv {n k:Nat} (h:k < n):ixN n (k:Int)=some k:=by unfold ixN;rw [if_pos (by lia),if_pos (by lia)];simp
theorem ZL8 {xs:List α} {k:Nat} {d:α} (h:xs[k]? =some d):atI xs (k:Int)=some d:=by unfold atI;rw [Jv (zF.mp h).1];exact h
theorem Eo {xs:List α} {j:Int} {k:Nat} {d:α} (e:j=k) (h:xs[k]? =some d):atI xs j=some d:=by subst e;exact ZL8 h
theorem ZLU {xs:List α} {j:Int} (h0:j < 0) (h: -(xs.length:Int)<=j):atI xs j=some (xs[(j + xs.length).toNat]'(by lia)):=by unfold atI ixN;rw [if_neg (by lia),if_pos h];exact zQ (by lia)
@[simp] theorem atI_0 {a:α} {xs:List α}:atI (a::xs) 0=some a:=Eo (k:=0) rfl rfl
@[simp] theorem atI_1 {a b:α} {xs:List α}:atI (a::b::xs) 1=some b:=Eo (k:=1) rfl rfl
@[simp] theorem atI_2 {a b c:α} {xs:List α}:atI (a::b::c::xs) 2=some c:=Eo (k:=2) rfl rfl
@[simp] theorem atI_3 {a b c d:α} {xs:List α}:atI (a::b::c::d::xs) 3=some d:=Eo (k:=3) rfl rfl
@[simp] theorem atI_4 {a b c d e:α} {xs:List α}:atI (a::b::c::d::e::xs) 4=some e:=Eo (k:=4) rfl rfl
@[simp] theorem atI_5 {a b c d e f:α} {xs:List α}:atI (a::b::c::d::e::f::xs) 5=some f:=Eo (k:=5) rfl rfl
@[simp] theorem atI_6 {a b c d e f g:α} {xs:List α}:atI (a::b::c::d::e::f::g::xs) 6=some g:=Eo (k:=6) rfl rfl
@[simp] theorem ZR4:Bw ds G=if ds.length<=1000000 then .ok (.tup ds) G else .bad:=id rfl
@[simp] theorem ZSF:Av ds G=if ds.length<=1000000 then .ok (.ref G.length) (G++ [.lst ds]) else .bad:=id rfl
@[simp] theorem ZST:Gp [.fl ds] G=.ok (.tup ds) G:=id rfl
@[simp] theorem ZSf {n:Nat}:Gp [.ref n] G=(match G[n]? with | some (.lst xs)=>.ok (.tup xs) G | _=>.bad):=by
 unfold Gp;simp only [ZBZ];cases G[n]? with
 | none=>rfl
 | some o=>cases o <;> rfl
@[simp] theorem ev_itT:H8 (.tup ds) G=.ok (.pure ds) G:=id rfl
@[simp] theorem ev_itF:H8 (.fl ds) G=.ok (.pure ds) G:=id rfl
@[simp] theorem ZSl:rng1 [.int j] G=if inR j then .ok (.pure (Cm 0 j.toNat)) G else .bad:=id rfl
theorem Gg (h0: -1000000000<=i) (h:i<=1000000000):inR i:=⟨by lia,by lia⟩
@[simp] theorem ZSE:isL (.fl ds) G=true:=id rfl
@[simp] theorem ZSn {n:Nat}:isL (.ref n) G=(match G[n]? with | some (.lst _)=>true | _=>false):=id rfl
@[simp] theorem ev_app {n:Nat} :Fp (.ref n) [d] G=(match G[n]? with | some (.lst xs)=>if xs.length < 1000000 then .ok .non (G.set n (.lst (xs++ [d]))) else .bad | _=>.bad):=id rfl
@[simp] theorem ZSy {n:Nat} :M6 (.ref n) (.int i) d G=(match G[n]? with | some (.lst xs)=>(match ixN xs.length i with | some j=>.ok .non (G.set n (.lst (xs.set j d))) | none=>.bad) | _=>.bad):=id rfl
@[simp] theorem ZLe {ks:List Bool}:Vh [.fl (ks.map D.bl)] G=.ok (.bl (ks.all id)) G:=by simp [Vh]
@[simp] theorem ZSc:Ge [d,.ty "int"] G=(match tyD G d with | some .int=>.ok (.bl true) G | some .bl=>.ok (.bl true) G | some _=>.ok (.bl false) G | none=>.bad):=by
 unfold Ge;dsimp only;cases tyD G d with
 | none=>rfl
 | some t=>cases t <;> rfl
@[simp] theorem ZS1:Ge [d,.ty "bool"] G=(match tyD G d with | some .bl=>.ok (.bl true) G | some _=>.ok (.bl false) G | none=>.bad):=by
 unfold Ge;dsimp only;cases tyD G d with
 | none=>rfl
 | some t=>cases t <;> rfl
@[simp] theorem ZSs:Ge [d,.ty "tuple"] G=(match tyD G d with | some .tup=>.ok (.bl true) G | some _=>.ok (.bl false) G | none=>.bad):=by
 unfold Ge;dsimp only;cases tyD G d with
 | none=>rfl
 | some t=>cases t <;> rfl
@[simp] theorem ZSw:Ge [d,.ty "list"] G=(match tyD G d with | some .lst=>.ok (.bl true) G | some _=>.ok (.bl false) G | none=>.bad):=by
 unfold Ge;dsimp only;cases tyD G d with
 | none=>rfl
 | some t=>cases t <;> rfl
@[simp] theorem ZSp:tyD G (.int i)=some .int:=id rfl
@[simp] theorem ZSQ:tyD G (.tup ds)=some .tup:=id rfl
end
section
variable {c:Prop} [Decidable c]
@[simp] theorem ite_ok {a b:α} :(if c then R.ok a G else R.ok b G)=R.ok (if c then a else b) G:=by split <;> rfl
end
noncomputable def Hf:D->Option Key
 | .int i=>some (.inl i)
 | .str x=>some (.inr x)
 | _=>none
section
variable {X:Cx} {E:XK}
end
section
variable {S:DSt} {G:DH} {n:Nat} {kvs:List (Key×D)}
end
section
noncomputable def okD:Nat->D->Bool
 | 0,_=>false
 | _ + 1,.non=>true
 | _ + 1,.int _=>true
 | _ + 1,.str _=>true
 | n + 1,.tup ds=>ds.all (okD n)
 | n + 1,.fl ds=>ds.all (okD n)
 | _ + 1,_=>false
theorem ZDt {f:D->D->Option Bool} {P:D->Prop} (hf:∀x y,P x->P y->∃b,f x y=some b/\(b=true↔x=y)):∀{xs ys:List D},(∀x∈xs,P x)->(∀y∈ys,P y)->
  ∃b,eqZ f xs ys=some b/\(b=true↔xs.take ys.length=ys.take xs.length)
 | [],ys,_,_=>⟨true,by cases ys <;> rfl,by simp⟩
 | x::xs,[],_,_=>⟨true,rfl,by simp⟩
 | x::xs,y::ys,hx,hy=>by obtain ⟨b,e1,h1⟩:=hf x y (hx x (by simp)) (hy y (by simp));obtain ⟨c,e2,h2⟩:=ZDt hf (λz hz=>hx z (zZ _ hz)) (λz hz=>hy z (zZ _ hz));refine ⟨b && c,by simp [eqZ,e1,e2],?_⟩;simp [h1,h2]
theorem ZBn {G:DH}:∀(n:Nat) (d e:D),okD n d=true->okD n e=true->∃b,eqD n G d e=some b/\(b=true↔d=e)
 | 0,d,e,h,_=>by cases h
 | n + 1,d,e,h1,h2=>by
  have ih:=ZBn (G:=G) n;cases d with
  | bl _=>simp [okD] at h1
  | ty _=>simp [okD] at h1
  | ref _=>simp [okD] at h1
  | tup xs=>
   cases e with
   | bl _=>simp [okD] at h2
   | ty _=>simp [okD] at h2
   | ref _=>simp [okD] at h2
   | tup ys=>
    simp only [okD,qk] at h1 h2;obtain ⟨b,e1,h3⟩:=ZDt ih (λx hx=>h1 x hx) (λx hx=>h2 x hx);refine ⟨b && xs.length == ys.length,by simp [eqD,view,e1],?_⟩;simp only [zC,h3,beq_iff_eq,D.tup.injEq];constructor
    ·rintro ⟨e,hl⟩;rw [<-hl,jP] at e;rw [e,hl,jP]
    ·rintro rfl;exact ⟨rfl,rfl⟩
   | _=>exact ⟨false,by simp [eqD,view],by simp⟩
  | fl xs=>
   cases e with
   | bl _=>simp [okD] at h2
   | ty _=>simp [okD] at h2
   | ref _=>simp [okD] at h2
   | fl ys=>
    simp only [okD,qk] at h1 h2;by_cases hl:xs.length=ys.length
    ·obtain ⟨b,e1,h3⟩:=ZDt ih (λx hx=>h1 x hx) (λx hx=>h2 x hx);refine ⟨b,by simp [eqD,view,hl,e1],?_⟩;rw [h3,<-hl,jP,hl,jP];simp
    ·exact ⟨false,by simp [eqD,view,hl],by simp;rintro rfl;exact hl rfl⟩
   | _=>exact ⟨false,by simp [eqD,view],by simp⟩
  | non=>cases e <;> first | (simp [okD] at h2;done) | exact ⟨_,rfl,by simp [eqV]⟩
  | int i=>cases e <;> first | (simp [okD] at h2;done) | exact ⟨_,rfl,by simp [eqV]⟩
  | str i=>cases e <;> first | (simp [okD] at h2;done) | exact ⟨_,rfl,by simp [eqV]⟩
open Classical in
theorem ZQW {e:D} (h1:okD 30 d=true) (h2:okD 30 e=true):Cq d e G=.ok (.bl (decide (d=e))) G:=by
 obtain ⟨b,e1,h⟩:=ZBn (G:=G) 30 d e h1 h2;unfold Cq;rw [e1];cases b with
 | true=>simp [h.mp rfl]
 | false=>simp [show¬d=e from λz=>zx (h.mpr z)]
open Classical in
theorem ZN8 {e:D} (h1:okD 30 d=true) (h2:okD 30 e=true):Hz d e G=.ok (.bl (!decide (d=e))) G:=by
 obtain ⟨b,e1,h⟩:=ZBn (G:=G) 30 d e h1 h2;unfold Hz;rw [e1];cases b with
 | true=>simp [h.mp rfl]
 | false=>simp [show¬d=e from λz=>zx (h.mpr z)]
theorem ZKg (h1:okD 30 d=true):Hz d d G=.ok (.bl false) G:=by rw [ZN8 h1 h1];simp
theorem ZKz {n:Nat} (h:∀d∈ds,okD n d=true):okD (n + 1) (.fl ds)=true:=by simpa [okD] using h
end
noncomputable def cutD {α:Type} (xs:List α) (lo hi:Option Int):List α:=(xs.drop (HT.sIx xs.length 0 lo)).take (HT.sIx xs.length xs.length hi - HT.sIx xs.length 0 lo)
def Ti (z:Str) (lo hi:Option Int):Str:=⟨(cutD z.cps.toList lo hi).toArray⟩
theorem ZLr (xs:List α) (lo hi:Option Int):(cutD xs lo hi).length<=xs.length:=by unfold cutD;rw [j9,jM];lia
noncomputable def Qx (t:Option DE) (S:DSt) (G:DH):R (Option Int):=match t with
 | none=>.ok none G
 | some t=>(t S G).bind λd G1=>match d with
  | .int i=>.ok (some i) G1
  | _=>.bad
noncomputable def ZC7 (d:D) (lo hi:Option Int) (G:DH):R D:=match d with
 | .str z=>if z.length<=1000000 then .ok (.str (Ti z lo hi)) G else .bad
 | .tup xs=>.ok (.tup (cutD xs lo hi)) G
 | d=>match J7 d G with
  | some xs=>.ok (.ref G.length) (G++ [.lst (cutD xs lo hi)])
  | none=>.bad
noncomputable def dSl (e:DE) (lo hi:Option DE):DE:=λS G=>(e S G).bind λd G1=>(Qx lo S G1).bind λl G2=>(Qx hi S G2).bind λh G3=>ZC7 d l h G3
theorem Zq (n:Nat) (v:Int):((HT.sIx n n (some v):Nat):Int)=max 0 (min (if v < 0 then v + (n:Int) else v) n)/\((HT.sIx n 0 (some v):Nat):Int)=max 0 (min (if v < 0 then v + (n:Int) else v) n):=by
 unfold HT.sIx;by_cases hv:v < 0
 ·simp only [if_pos hv];lia
 ·simp only [if_neg hv];lia
theorem ZOt (xs:Array Nat) (i k:Nat):(zj k).filterMap (λm=>xs[i + m]?)=(xs.toList.drop i).take k:=by
 induction k generalizing i with
 | zero=>simp
 | succ k ih=>
  rw [qH,qw];have e:(List.map Nat.succ (zj k)).filterMap (λm=>xs[i + m]?)=(zj k).filterMap (λm=>xs[i + 1 + m]?):=by
   rw [qQ]
   congr 1
   funext m;simp only [Function.comp]
   congr 1
   lia
  rw [e,ih (i + 1)];by_cases hi:i < xs.size
  ·have h1:xs[i + 0]? =some xs[i]:=by simp [hi]
   rw [h1];have h2:xs.toList.drop i=xs[i]::xs.toList.drop (i + 1):=by rw [zL (by simpa using hi)];simp
   rw [h2];simp
  ·have h1:xs[i + 0]? =none:=by simp;lia
   rw [h1];simp only;rw [zN (by simp;lia),zN (by simp;lia)];simp
theorem ZQO (x:Str) (lo hi:Option Int):Txt.slice x lo hi=Ti x lo hi:=by
 have hlen:x.length=x.cps.toList.length:=by simp [Str.length]
 have key:(Builtin.Str.strSliceIndices lo hi 1 x.length).filterMap (x.cps[·]?)=cutD x.cps.toList lo hi:=by
  have e1:∀(v:Option Int),(match v with | none=>(0:Int) | some i=>max 0 (min (if i < 0 then i + (x.length:Int) else i) x.length))=((HT.sIx x.length 0 v:Nat):Int):=λv=>by
   cases v with
   | none=>rfl
   | some i=>exact (Zq x.length i).2.symm
  have e2:∀(v:Option Int),(match v with | none=>(x.length:Int) | some i=>max 0 (min (if i < 0 then i + (x.length:Int) else i) x.length))=((HT.sIx x.length x.length v:Nat):Int):=λv=>by
   cases v with
   | none=>rfl
   | some i=>exact (Zq x.length i).1.symm
  have e3:Builtin.Str.strSliceIndices lo hi 1 x.length=sliceRange ((HT.sIx x.length 0 lo:Nat):Int) ((HT.sIx x.length x.length hi:Nat):Int) 1:=by
   rw [<-e1 lo,<-e2 hi];unfold Builtin.Str.strSliceIndices
   cases lo <;> cases hi <;> simp
  rw [e3];unfold sliceRange cutD;rw [qQ,<-hlen];generalize HT.sIx x.length 0 lo=i;generalize HT.sIx x.length x.length hi=j;have e4:((λa=>x.cps[a]?) ∘ λ(k:Nat)=>((i:Int) + 1 * (k:Int)).toNat)=λk=>x.cps[i + k]? :=by
   funext k;simp only [Function.comp]
   congr 1
   lia
  have e5:(if (1:Int) > 0 then if (i:Int) < (j:Int) then ((j:Int) - i + 1 - 1) / 1 else 0 else if (i:Int) > (j:Int) then ((i:Int) - j - 1 - 1) / -1 else 0).toNat=j - i:=by
   rw [if_pos (by lia)];split
   ·rw [Int.ediv_one];lia
   ·lia
  rw [e4,e5];exact ZOt x.cps i (j - i)
 unfold Txt.slice Ti;split
 ·rename_i h;have h':(Builtin.Str.strSliceIndices lo hi 1 x.length).length=x.length:=by simpa using h
  have hsz:(cutD x.cps.toList lo hi).length=x.cps.toList.length∨(cutD x.cps.toList lo hi).length < x.cps.toList.length:=by have:=ZLr x.cps.toList lo hi;lia
  have hall:(cutD x.cps.toList lo hi).length=x.cps.toList.length:=by
   have e3:(Builtin.Str.strSliceIndices lo hi 1 x.length).length=HT.sIx x.length x.length hi - HT.sIx x.length 0 lo:=by
    have e1:∀(v:Option Int),(match v with | none=>(0:Int) | some i=>max 0 (min (if i < 0 then i + (x.length:Int) else i) x.length))=((HT.sIx x.length 0 v:Nat):Int):=λv=>by
     cases v with
     | none=>rfl
     | some i=>exact (Zq x.length i).2.symm
    have e2:∀(v:Option Int),(match v with | none=>(x.length:Int) | some i=>max 0 (min (if i < 0 then i + (x.length:Int) else i) x.length))=((HT.sIx x.length x.length v:Nat):Int):=λv=>by
     cases v with
     | none=>rfl
     | some i=>exact (Zq x.length i).1.symm
    have e3:Builtin.Str.strSliceIndices lo hi 1 x.length=sliceRange ((HT.sIx x.length 0 lo:Nat):Int) ((HT.sIx x.length x.length hi:Nat):Int) 1:=by
     rw [<-e1 lo,<-e2 hi];unfold Builtin.Str.strSliceIndices
     cases lo <;> cases hi <;> simp
    rw [e3];unfold sliceRange;rw [qW,List.length_range];generalize HT.sIx x.length 0 lo=i;generalize HT.sIx x.length x.length hi=j;rw [if_pos (by lia)];split
    ·rw [Int.ediv_one];lia
    ·lia
   have hj:HT.sIx x.length x.length hi<=x.length:=HT.ZJU _ _ (zW _) hi;unfold cutD;rw [j9,jM,<-hlen];lia
  have hs:(cutD x.cps.toList lo hi).Sublist x.cps.toList:=(List.take_sublist _ _).trans (List.drop_sublist _ _);rw [hs.eq_of_length hall]
 ·rw [key]
section
variable {X:Cx} {E:XK}
theorem ZOq:SlR X (λx lo hi H Q=>∃z:Str,x=.str z/\z.length<=sizeLine/\Q (.str (Ti z lo hi)) H):=by
 intro v8 s σ H x v vl vu lo hi sl Q I rx hs pl pu h;obtain ⟨z,rfl,hz,q⟩:=h;obtain ⟨t,rfl⟩:=rx;refine ⟨"str",_,PySem.F.slot_str_getitem.lookup,typeIs_str _ _ _,?_⟩
 have fin:∀(l u:Option (Int×Tok)),vl=partValue l->vu=partValue u->l.map (·.1)=lo->u.map (·.1)=hi->vJ (xR X.prog X.w) X.A (getItem (.str z t) (.ref sl)) (EP X v8 σ Q) X.xe s:=by
  rintro l u rfl rfl rfl rfl
  refine wpAny_getItem_str_slice (l:=l) (u:=u) (st:=none) (show s.heap.IsSlice sl l u none from hs) rfl ?_
  have e:∀Q',(Txt.slice z (l.map (·.1)) (u.map (·.1))).length<=sizeLine/\(∀t' k,Q' (.str (Txt.slice z (l.map (·.1)) (u.map (·.1))) t') {s with toks:=k})->(sliceMade z t l u none).post Q' s:=λQ' hq=>post_val_or_str hq
  refine e _ ⟨zD (Txt.slice_le z _ _) hz,λt' k=> ?_⟩;rw [ZQO];exact ⟨.str _,H,I.tok k,⟨t',rfl⟩,q⟩
 cases pl with
 | none=>cases pu with
  | none=>exact fin none none rfl rfl rfl rfl
  | int j tj=>exact fin none (some (j,tj)) rfl rfl rfl rfl
 | int i ti=>cases pu with
  | none=>exact fin (some (i,ti)) none rfl rfl rfl rfl
  | int j tj=>exact fin (some (i,ti)) (some (j,tj)) rfl rfl rfl rfl
theorem ZNB {prog:xW} {E:xz->xY->Prop} {t sl:xQ} {items:Array xz} {vl vu:xz} {lo hi:Option Int} {Q:xz->xY->Prop} (ht:IsTup s.heap t items) (hs:s.heap.IsSliceOf sl vl vu .none) (pl:IsPart vl lo) (pu:IsPart vu hi)
  (hw:HT.sIx items.size 0 lo=0/\HT.sIx items.size items.size hi=items.size) (h:Q (.ref t) s):vJ (xR prog w) A (getItem (.ref t) (.ref sl)) Q E s:=by
 obtain ⟨os,hos,hcs,hds⟩:=id hs;have hTs:s.TypeIs (.ref sl) "slice":=⟨os,hos,hcs⟩;unfold getItem
 try with_reducible refine vq ?_
 first | refine vV (vv ?_) | skip
 refine vV (wpAny_sequenceKey ht.typeIs (by decide) ?_);refine vV (vW (name:=Str.ofString "__getitem__") ht.typeIs PyProof.Rows.slot_tuple_getitem
  (vK PyProof.Rows.slot_tuple_getitem ht.typeIs entry_tuple_getitem ?_ (args_tuple_getitem _ _)))
 show vJ _ _ (Builtin.Tuple.tupleItemsOf (.ref t) >>=_) _ _ s;refine vV (tupleItemsOf_ ht ?_);refine vV (wpAny_typeOf hTs ?_);rw [if_pos (by decide)];refine vV (HT.ZEF hs pl pu ?_);have hyes:(((HT.sIx items.size 0 lo:Nat):Int) == 0 && (1:Int) == 1 && (HT.sIx items.size items.size hi - HT.sIx items.size 0 lo) == items.size)=true:=by rw [hw.1,hw.2];simp
 show vJ _ _ (if (((HT.sIx items.size 0 lo:Nat):Int) == 0 && (1:Int) == 1 && (HT.sIx items.size items.size hi - HT.sIx items.size 0 lo) == items.size)=true then _ else _) _ _ s;rw [if_pos hyes];refine vV ?_;unfold Builtin.Tuple.tupleIsExact;refine vV (wpAny_typeOf ht.typeIs (vv ?_));rw [if_pos (by decide)];exact vV (wpAny_rule (vv ⟨_,rfl,vv h⟩))
theorem ZNO:SlR X (λx lo hi H Q=>∃a xs,x=.ref a/\SqT X.K H a xs/\(HT.sIx xs.length 0 lo=0/\HT.sIx xs.length xs.length hi=xs.length)/\Q (.ref a) H):=by
 intro v8 s σ H x v vl vu lo hi sl Q I rx hs pl pu h;obtain ⟨a,xs,rfl,hx,hw,q⟩:=h;cases rx;obtain ⟨its,r,ht,hz⟩:=I.tuple hx;have hlen:its.toArray.size=xs.length:=by rw [zY];exact r.length.symm
 exact ⟨"tuple",_,PyProof.Rows.slot_tuple_getitem.lookup,ht.typeIs,ZNB ht hs pl pu (by rw [hlen];exact hw) ⟨.ref a,H,I,rfl,q⟩⟩
noncomputable def Rk (E:XK) (a:Wd) (r:R (Option Int)) (Q:Option Int->Hp->Prop):Prop:=match r with
 | .ok k G=>∀(b:Wd),Ext a b->Sim b G->Q k b.H
 | .err x G=>XOk E a x G
 | .bad=>False
noncomputable def QO (X:Cx) (E:XK) (e:Option xJ) (t:Option DE):Prop:=PO X e (λσ H Q=>∃(a:Wd) (S:DSt) (G:DH),a.K=X.K/\a.H=H/\Sim a G/\RepS a S σ/\Rk E a (Qx t S G) Q)
theorem _root_.L2.PO.mono {e:Option xJ} {t t':TO} (h:PO X e t) (w:∀σ H Q,t' σ H Q->t σ H Q):PO X e t':=λv8 s σ H Q I q=>h v8 s σ H Q I (w σ H Q q)
theorem ZPd:QO X E none none:=ZQz.mono λσ H Q h=>by obtain ⟨a,S,G,hk,rfl,s,r,h⟩:=h;exact h a (Ext.refl a) s
theorem ZKV (he:QE X E e t):QO X E (some e) (some t):=(ZLy he).mono λσ H Q h=>by
 obtain ⟨a,S,G,hk,rfl,s,r,h⟩:=h;refine ⟨a,S,G,hk,rfl,s,r,?_⟩
 have h':Rk E a ((t S G).bind λd G1=>match d with | .int i=>.ok (some i) G1 | _=>.bad) Q:=h
 cases ht:t S G with
 | ok d G1=>
  rw [ht] at h';intro b v x sb rv;cases d with
  | int i=>exact ⟨i,rv,h' b x sb⟩
  | _=>exact h'.elim
 | err x G1=>rw [ht] at h';exact h'
 | bad=>rw [ht] at h';exact h'
theorem Reps.cutD (r:Reps a ds vs) (lo hi:Option Int):Reps a (DL.cutD ds lo hi) (Ms vs lo hi):=by unfold DL.cutD Ms;rw [r.length];exact (r.drop _).take _
theorem Rk.imp {r:R (Option Int)} {Q Q':Option Int->Hp->Prop} (h:Rk E a r Q) (w:∀v H,Q v H->Q' v H):Rk E a r Q':=by
 cases r with
 | ok d G=>exact λb x s=>w _ _ (h b x s)
 | err e G=>exact h
 | bad=>exact h
theorem ZHm {r:R (Option Int)} {f:Option Int->DH->R D} (h:out E a (r.bind f) Q):
  Rk E a r (λk H=>∃(b:Wd) (G:DH),b.H=H/\Ext a b/\Sim b G/\r=.ok k G/\out E b (f k G) Q):=by
 cases r with
 | ok d G=>exact λb x s=>⟨b,G,rfl,x,s,rfl,out.mono x h⟩
 | err e G=>exact h
 | bad=>exact h
theorem ZMD {lo hi:Option xJ} {tl th:Option DE} {p2 pos:Pos} (he:QE X E e te) (hl:QO X E lo tl) (hu:QO X E hi th):QE X E (.Subscript e (.Slice lo hi none p2) pos) (dSl te tl th):=
 (ZOK (ZPz.or (ZQE.or (ZNO.or ZOq))) he hl hu).mono λσ H Q h=>by
 obtain ⟨a,S,G,hk,rfl,s,r,h⟩:=h;refine ⟨a,S,G,hk,rfl,s,r,(Gn h).imp ?_⟩;rintro v _ ⟨b,d,G1,rfl,x,s1,q,_,h1⟩;refine ⟨b,S,G1,x.k.trans hk,rfl,s1,r.mono x,(ZHm h1).imp ?_⟩;rintro l _ ⟨c,G2,rfl,y,s2,_,h2⟩;refine ⟨c,S,G2,y.k.trans (x.k.trans hk),rfl,s2,(r.mono x).mono y,(ZHm h2).imp ?_⟩;rintro u _ ⟨c3,G3,rfl,y3,s3,_,h3⟩;have hk3:=y3.k.trans (y.k.trans (x.k.trans hk));have q3:=(q.mono y).mono y3
 have lst:out E c3 (match J7 d G3 with | some xs=>.ok (.ref G3.length) (G3++ [.lst (cutD xs l u)]) | none=>.bad) Q->rSlL X.K v l u c3.H Q:=λh3=>by
  split at h3
  ·rename_i xs hx;obtain ⟨p,vs,e1,q1,r1⟩:=Vc s3 q3 hx;exact ⟨p,vs,e1,by rw [<-hk3];exact q1,λp hp=>Mj s3 (Reps.cutD r1 l u) h3 p hp⟩
  ·exact h3.elim
 cases d with
 | str z=>
  have h4:out E c3 (if z.length<=1000000 then .ok (.str (Ti z l u)) G3 else .bad) Q:=h3;split at h4
  ·rename_i hl
   cases (show v=V.str z from q3)
   exact .inr (.inr (.inr ⟨z,rfl,zD hl size6,h4 c3 _ (Ext.refl _) s3 rfl⟩))
  ·exact h4.elim
 | tup xs=>
  have h4:out E c3 (.ok (.tup (cutD xs l u)) G3) Q:=h3;obtain ⟨p,vs,e1,q1,r1⟩:=q3;by_cases hw:HT.sIx vs.length 0 l=0/\HT.sIx vs.length vs.length u=vs.length
  ·refine .inr (.inr (.inl ⟨p,vs,e1,by rw [<-hk3];exact q1,hw,h4 c3 _ (Ext.refl _) s3 ⟨p,vs,rfl,q1,?_⟩⟩));have:cutD xs l u=xs:=by unfold cutD;rw [r1.length,hw.1,hw.2,<-r1.length];simp
   rw [this];exact r1
  ·exact .inr (.inl ⟨p,vs,e1,by rw [<-hk3];exact q1,hw,λp hp=>ZCv s3 (Reps.cutD r1 l u) h4 p hp⟩)
 | fl xs=>exact .inl (lst h3)
 | ref i=>exact .inl (lst h3)
 | non=>exact (show False from h3).elim
 | bl _=>exact (show False from h3).elim
 | int _=>exact (show False from h3).elim
 | ty _=>exact (show False from h3).elim
section
variable {name:Str} {id:String} {f:D->List D->DH->R D} {o e:xJ} {es:List xJ} {to:DE} {t:DA} {apos cpos:Pos}
end
end
section
variable {S:DSt} {G:DH}
@[simp] theorem ev_Sl {e:DE} {lo hi:Option DE}:dSl e lo hi S G=(e S G).bind λd G1=>(Qx lo S G1).bind λl G2=>(Qx hi S G2).bind λh G3=>ZC7 d l h G3:=id rfl
@[simp] theorem Q5 {z:Str} {i:Int}:Aj (.str z) (.int i) G=if z.length<=1000000 then (match atI z.cps.toList i with | some c=>.ok (sgn c) G | none=>.bad) else .bad:=id rfl
end
end DL
namespace DL
open PySem PySem.Spec L2
open PyProof.Rows hiding St
open Builtin.Str
variable {g:DG} {c:DB} {te:DE} {S:DSt} {G:DH}
section
variable (p:Nat->Bool) (m:Nat)
end
noncomputable def CStep (g:DG) (c:DB) (te:DE) (S:DSt) (G:DH) (x:D) (r:Option D):Prop:=
 ∃S1,g x S G=.ok S1 G/\((c S1 G=.ok false G/\r=none)∨(c S1 G=.ok true G/\∃d,te S1 G=.ok d G/\r=some d))
theorem Qy {F:D->Option D}:∀{xs:List D},(∀x∈xs,CStep g c te S G x (F x))->Dy g c te S xs G=.ok (xs.filterMap F) G
 | [],_=>rfl
 | x::xs,h=>by
  obtain ⟨S1,h1,h2⟩:=h x (by simp);have ih:=Qy (λy hy=>h y (zZ _ hy));rw [ZA1,h1];rcases h2 with ⟨h2,h3⟩ | ⟨h2,d,h3,h4⟩
  ·simp [h2,h3,ih,qw]
  ·simp [h2,h3,h4,ih,qw]
theorem ZGy {i:Nat} {F:D->Option D} {xs:List D} (hG:G[i]? =some (.lst xs)) (h:∀x∈xs,CStep g c te S G x (F x)):
  ∀(n j:Nat),j + n=xs.length->Hn i g c te S n j G=.ok ((xs.drop j).filterMap F) G
 | 0,j,hj=>by
  unfold Hn;rw [hG];simp only;rw [if_pos (by lia),zN (by lia)]
  rfl
 | n + 1,j,hj=>by
  have hlt:j < xs.length:=by lia
  have ih:=ZGy hG h n (j + 1) (by lia);obtain ⟨S1,h1,h2⟩:=h xs[j] (qz hlt);unfold Hn;rw [hG];simp only;rw [zQ hlt];simp only [h1,R.Mi];rw [zL hlt,qw];rcases h2 with ⟨h2,h3⟩ | ⟨h2,d,h3,h4⟩
  ·simp [h2,h3,ih]
  ·simp [h2,h3,h4,ih]
theorem ZJ2 {i:Nat} {F:D->Option D} {xs:List D} (hG:G[i]? =some (.lst xs)) (h:∀x∈xs,CStep g c te S G x (F x)):
  Hn i g c te S xs.length 0 G=.ok (xs.filterMap F) G:=ZGy hG h xs.length 0 (by lia)
theorem ZJi {x y:Str} (h:x.cps.toList=y.cps.toList):x=y:=by obtain ⟨a⟩:=x;obtain ⟨b⟩:=y;simp only at h;rw [Array.toList_inj.mp h]
end DL
namespace DL
open PySem PySem.Spec L2
open PyProof.Rows hiding St
variable {h h':Heap} {p z:xQ} {k i:Nat} {old:xz} {os:List xz}
inductive Src where
 | l (a:xQ)
 | t (a:xQ)
variable {sr:Src} {l:List (Src×xQ)}
def Src.itn:Src->String
 | .l _=>"list_iterator"
 | .t _=>"tuple_iterator"
def Src.adr:Src->xQ
 | .l a=>a
 | .t a=>a
noncomputable def Src.it (h:Heap) (p:xQ) (k:Nat) (sr:Src):Prop:=∃o,h.get? p=some o/\o.cls=.type sr.itn/\o.data=.fields #[.ref sr.adr,.int k 0]
noncomputable def Src.val (h:Heap) (xs:Array xz):Src->Prop
 | .l a=>h.IsList a xs
 | .t a=>h.IsTuple a xs
theorem Src.it.at (x:sr.it h p k) (e:∀o,h.get? p=some o->h'.get? p=some o):sr.it h' p k:=let ⟨o,ho,r⟩:=x;⟨o,e o ho,r⟩
theorem Src.val.at {xs:Array xz} (x:sr.val h xs) (e:∀o,h.get? sr.adr=some o->h'.get? sr.adr=some o):sr.val h' xs:=by
 cases sr with
 | l a=>obtain ⟨o,ho,r⟩:=x;exact ⟨o,e o ho,r⟩
 | t a=>obtain ⟨o,ho,r⟩:=x;exact ⟨o,e o ho,r⟩
theorem Src.it.lt (x:sr.it h p k):p < h.objs.size:=let ⟨_,ho,_⟩:=x;zk ho
section
variable {prog:xW} {w:xj} {A:xZ} {E:xz->xY->Prop} {s:xY}
theorem Src.val.obj {xs:Array xz} (x:sr.val h xs):∃o n,h.get? sr.adr=some o/\o.data=.seq xs n:=by
 cases sr with
 | l a=>obtain ⟨o,ho,_,n,hd⟩:=x;exact ⟨o,n,ho,hd⟩
 | t a=>obtain ⟨o,ho,_,n,hd⟩:=x;exact ⟨o,n,ho,hd⟩
theorem Src.next_item {xs:Array xz} {x:xz} {Q:xz->xY->Prop} (hit:sr.it s.heap p k) (hv:sr.val s.heap xs) (hx:xs[k]? =some x)
  (hQ:∀h',sr.it h' p (k + 1)->qA p s.heap h'->Q x {s with heap:=h'}):vJ (xR prog w) A (Builtin.SmallTypes.nextOf (.ref p)) Q E s:=by
 cases sr with
 | l a=>exact wpAny_nextOf_list_item (show s.heap.IsListIter p a k from hit) hv hx hQ
 | t a=>
  obtain ⟨o,ho,hc,hd⟩:=id hit;obtain ⟨ol,hol,_,nl,hdl⟩:=hv;have hT:s.TypeIs (.ref p) "tuple_iterator":=⟨o,ho,hc⟩;unfold Builtin.SmallTypes.nextOf;refine vV (vW (name:=Str.ofString "__next__") hT PySem.F.slot_tuple_iterator_next (vK PySem.F.slot_tuple_iterator_next hT PySem.F.entry_tuple_iterator_next ?_ (PySem.F.args_tuple_iterator_next_1 _)));refine vV (m:=field (.ref p) 0) (vY ho hd (x:=.ref a) rfl ?_)
  show vJ _ _ (if (Value.ref a == Value.none)=true then _ else (field (.ref p) 1 >>=_)) _ _ s
  rw [if_neg (show¬((Value.ref a == Value.none)=true) from zx)]
  refine vV (m:=field (.ref p) 1) (vY ho hd (x:=.int k 0) rfl (vV (m:=seqItems? (.ref a)) (wpAny_seqItems hol hdl ?_)));simp only [jG,hx];refine vV (wpAny_setField ho hd (by simp) (vv ⟨x,rfl,vv (hQ _ ⟨_,jN _ ho (Obj.isFreed_of_fields (Obj.data_mapFields hd _)),(Obj.cls_mapFields ..).trans hc,?_⟩ (qA.update ..))⟩))
  rw [Obj.data_mapFields hd];simp [xS,Src.adr]
theorem Src.next_end {xs:Array xz} {Q:xz->xY->Prop} (hh:A.handled=none) (hit:sr.it s.heap p k) (hv:sr.val s.heap xs) (hx:xs[k]? =none)
  (hE:∀h' e,Heap.ExtBut p s.heap h'->(∃o,h'.get? e=some o/\o.cls=.type "StopIteration")->E (.ref e) {s with heap:=h'}):vJ (xR prog w) A (Builtin.SmallTypes.nextOf (.ref p)) Q E s:=by
 cases sr with
 | l a=>exact wpAny_nextOf_list_end hh (show s.heap.IsListIter p a k from hit) hv hx hE
 | t a=>
  obtain ⟨o,ho,hc,hd⟩:=id hit;obtain ⟨ol,hol,_,nl,hdl⟩:=hv;have hT:s.TypeIs (.ref p) "tuple_iterator":=⟨o,ho,hc⟩;unfold Builtin.SmallTypes.nextOf;refine vV (vW (name:=Str.ofString "__next__") hT PySem.F.slot_tuple_iterator_next (vK PySem.F.slot_tuple_iterator_next hT PySem.F.entry_tuple_iterator_next ?_ (PySem.F.args_tuple_iterator_next_1 _)));refine vV (m:=field (.ref p) 0) (vY ho hd (x:=.ref a) rfl ?_)
  show vJ _ _ (if (Value.ref a == Value.none)=true then _ else (field (.ref p) 1 >>=_)) _ _ s
  rw [if_neg (show¬((Value.ref a == Value.none)=true) from zx)]
  refine vV (m:=field (.ref p) 1) (vY ho hd (x:=.int k 0) rfl (vV (m:=seqItems? (.ref a)) (wpAny_seqItems hol hdl ?_)));simp only [jG,hx];refine vV (wpAny_rule (vV (wpAny_setField ho hd (by simp) (vV (m:=newExc (.type "StopIteration") []) ?_))));simp only [newExc,newTuple]
  refine vV (vj (vV (m:=firstArgMember _ _) (wpAny_of_eq (a:=Value.none) (by first | rfl | (simp only [firstArgMember];rfl)) (vj ?_ (by size_fits)))) (by size_fits))
  simp only [raiseNew];refine vV (wpAny_handled ?_)
  first | rw [show A.in1.handled=none from hh] | rw [hh]
  exact vV (vv (wpAny_throw (hE _ _ (((qA.update ..).extBut.push _).push _) ⟨_,zB _ rfl,rfl⟩)))
theorem Src.iter {xs:Array xz} {Q:xz->xY->Prop} (hv:sr.val s.heap xs)
  (hQ:Q (.ref s.heap.objs.size) {s with heap:=s.heap.push {cls:=.type sr.itn,data:=.fields #[.ref sr.adr,.int 0 0]}}):vJ (xR prog w) A (pyIter (.ref sr.adr)) Q E s:=by
 cases sr with
 | l a=>exact wpAny_pyIter_list hv hQ
 | t a=>exact wpAny_pyIter_tuple hv hQ
end
noncomputable abbrev En (h:Heap) (e it:xQ) (f0:xz) (i:Int) (g old:xz):Prop:=
 h.get? e=some {cls:=.type "enumerate",dict:=none,data:=.fields #[f0,.bool false,.ref it,xS i,g,old],slots:= #[]}
def Gv (i:Int) (g:xz):Prop:=g=.none∨∃t,g=.int i t
section
variable {prog:xW} {w:xj} {A:xZ} {E:xz->xY->Prop} {s:xY}
theorem ZLo {e it:xQ} {i:Int} {xs:Array xz} {x g:xz} {Q:xz->xY->Prop} (he:En s.heap e it .none i g old) (hg:Gv i g) (hit:sr.it s.heap it k) (hv:sr.val s.heap xs) (hx:xs[k]? =some x) (hne:e≠it)
  (hQ:∀h' t tk,En h' e it (xS s.heap.objs.size) (i + 1) .none x->sr.it h' it (k + 1)->h'.get? s.heap.objs.size=some {cls:=.type "tuple",data:=.seq #[.int i t,x]}->h'.objs.size=s.heap.objs.size + 1->
   (∀b o,b≠e->b≠it->s.heap.get? b=some o->h'.get? b=some o)->Q (.ref s.heap.objs.size) {s with heap:=h',toks:=tk}):
  vJ (xR prog w) A (Builtin.«enumerate.__next__» ⟨[.ref e],[]⟩) (λfin s'=>∃v,fin=.done (.ret v)/\Q v s') E s:=by
 obtain ⟨hp,gg,d,tk,os⟩:=s;refine vV (m:=field (.ref e) 2) (vY he rfl (x:=.ref it) rfl (vV (m:=Builtin.SmallTypes.nextOf (.ref it)) (Src.next_item hit hv hx λh₁ hit₁ hs₁=> ?_)));have he₁:En h₁ e it .none i g old:=(hs₁.2 e hne).trans he;have k₁:∀b o,b≠e->b≠it->hp.get? b=some o->h₁.get? b=some o:=λb o _ hb q=>hs₁.extBut b o hb q
 have z₁:h₁.objs.size=hp.objs.size:=hs₁.1;refine vV (m:=field (.ref e) 3) (vY he₁ rfl (x:=xS i) rfl ?_);refine vV (m:=field (.ref e) 4) (vY he₁ rfl (x:=g) rfl ?_)
 have rest:∀(t:Tok) (tk':Nat),vJ (xR prog w) A (do
   setField (.ref e) 3 (xS (i + 1));setField (.ref e) 4 .none
   let result<-newTuple [.int i t,x]
   if<-Builtin.SmallTypes.ownedTupleIsFree (.ref e) then
    rule "enumerate.__next__.owned-tuple-again"
    let old<-field (.ref e) 5
    setField (.ref e) 5 x
    Builtin.SmallTypes.ownedTupleHandOut (.ref e) result
    PySem.letGo [old] [result]
   ret result) (λfin s'=>∃v,fin=.done (.ret v)/\Q v s') E ⟨h₁,gg,d,tk',os⟩:=by
  intro t tk';refine vV (vk he₁ (by simp) λh₂ he₂ hs₂=> ?_);refine vV (vk he₂ (by simp) λh₃ he₃ hs₃=> ?_)
  replace he₃:En h₃ e it .none (i + 1) .none old:=he₃
  have z₃:h₃.objs.size=hp.objs.size:=by rw [hs₃.1];show h₂.objs.size=_;rw [hs₂.1];exact z₁
  have k₃:∀b o,b≠e->b≠it->hp.get? b=some o->h₃.get? b=some o:=λb o h1 h2 q=>hs₃.extBut b o h1 (hs₂.extBut b o h1 (k₁ b o h1 h2 q))
  have i₃:sr.it h₃ it (k + 1):=(hit₁.at λo q=>hs₂.extBut it o (Ne.symm hne) q).at λo q=>hs₃.extBut it o (Ne.symm hne) q
  refine vV (wpAny_newTuple ?_);generalize hh₄:h₃.push {cls:=.type "tuple",data:=.seq [Value.int i t,x].toArray}=h₄;have he₄:En h₄ e it .none (i + 1) .none old:=by rw [<-hh₄];exact zJ _ he₃
  have ht₄:h₄.get? hp.objs.size=some {cls:=.type "tuple",data:=.seq #[.int i t,x]}:=by rw [<-hh₄,<-z₃];exact zB _ rfl
  have z₄:h₄.objs.size=hp.objs.size + 1:=by rw [<-hh₄,qE,z₃]
  have k₄:∀b o,b≠e->b≠it->hp.get? b=some o->h₄.get? b=some o:=λb o h1 h2 q=>by rw [<-hh₄];exact zJ _ (k₃ b o h1 h2 q)
  have i₄:sr.it h₄ it (k + 1):=i₃.at λo q=>by rw [<-hh₄];exact zJ _ q
  have ez:e < hp.objs.size:=zk he;refine vV (m:=Builtin.SmallTypes.ownedTupleIsFree (.ref e)) ?_;unfold Builtin.SmallTypes.ownedTupleIsFree;refine vV (vY he₄ rfl (x:=.none) rfl (vv ?_));simp only [if_true];refine vV (wpAny_rule (vV (vY he₄ rfl (x:=old) rfl (vV (vk he₄ (by simp) λh₅ he₅ hs₅=> ?_)))))
  replace he₅:En h₅ e it .none (i + 1) .none x:=he₅
  refine vV (m:=Builtin.SmallTypes.ownedTupleHandOut _ _) ?_;unfold Builtin.SmallTypes.ownedTupleHandOut;refine vV (vk he₅ (by simp) λh₆ he₆ hs₆=> ?_);refine vk he₆ (by simp) λh₇ he₇ hs₇=> ?_
  refine vV (wpAny_letGo (vv ⟨_,rfl,?_⟩));have up:∀b o,b≠e->h₄.get? b=some o->h₇.get? b=some o:=λb o hb q=>hs₇.extBut b o hb (hs₆.extBut b o hb (hs₅.extBut b o hb q))
  show Q (.ref h₃.objs.size) _;rw [z₃];rw [z₃] at he₇;exact hQ h₇ t tk' he₇ (i₄.at λo q=>up it o (Ne.symm hne) q) (up _ _ (jJ ez) ht₄) (by rw [hs₇.1];show h₆.objs.size=_;rw [hs₆.1];show h₅.objs.size=_;rw [hs₅.1];exact z₄) λb o h1 h2 q=>up b o h1 (k₄ b o h1 h2 q)
 rcases hg with rfl | ⟨t,rfl⟩
 ·exact vV (m:=mkInt i) (wpAny_mkInt (rest tk (tk + 1)))
 ·exact vV (m:=(pure (Value.int i t):Sem xz)) (vv (rest t tk))
theorem ZON {e it:xQ} {i:Int} {xs:Array xz} {x g:xz} {Q:Option xz->xY->Prop} (he:En s.heap e it .none i g old) (hg:Gv i g) (hit:sr.it s.heap it k) (hv:sr.val s.heap xs) (hx:xs[k]? =some x) (hne:e≠it)
  (hQ:∀h' t tk,En h' e it (xS s.heap.objs.size) (i + 1) .none x->sr.it h' it (k + 1)->h'.get? s.heap.objs.size=some {cls:=.type "tuple",data:=.seq #[.int i t,x]}->h'.objs.size=s.heap.objs.size + 1->
   (∀b o,b≠e->b≠it->s.heap.get? b=some o->h'.get? b=some o)->Q (some (.ref s.heap.objs.size)) {s with heap:=h',toks:=tk}):
  vJ (xR prog w) A (pyNext (.ref e)) Q E s:=by
 have hT:s.TypeIs (.ref e) "enumerate":=⟨_,he,rfl⟩;unfold pyNext;exact vV (wpAny_attempt (vW (name:=Str.ofString "__next__") hT PySem.F.slot_enumerate_next
  (vK PySem.F.slot_enumerate_next hT PySem.F.entry_enumerate_next (ZLo he hg hit hv hx hne λh' t tk a1 a2 a3 a4 a5=>vv (hQ h' t tk a1 a2 a3 a4 a5)) (PySem.F.args_enumerate_next_1 _))))
theorem ZNb {e it:xQ} {i:Int} {xs:Array xz} {g:xz} {Q:Option xz->xY->Prop} (hh:A.handled=none) (he:En s.heap e it .none i g old) (hit:sr.it s.heap it k) (hv:sr.val s.heap xs) (hx:xs[k]? =none)
  (hQ:∀h',Heap.ExtBut it s.heap h'->Q none {s with heap:=h'}):vJ (xR prog w) A (pyNext (.ref e)) Q E s:=by
 have hT:s.TypeIs (.ref e) "enumerate":=⟨_,he,rfl⟩;unfold pyNext;refine vV (wpAny_attempt (vW (name:=Str.ofString "__next__") hT PySem.F.slot_enumerate_next
  (vK PySem.F.slot_enumerate_next hT PySem.F.entry_enumerate_next (vV (m:=field (.ref e) 2) (vY he rfl (x:=.ref it) rfl (vV (m:=Builtin.SmallTypes.nextOf (.ref it)) (Src.next_end hh hit hv hx λh' x he' hx'=> ?_)))) (PySem.F.args_enumerate_next_1 _))))
 obtain ⟨o,ho,hc⟩:=hx';exact vV (wpAny_isInstance (T:="StopIteration") (b:=true) ⟨o,ho,hc⟩ isSubtype_stop (vv (hQ _ he')))
theorem ZKr {elts:List xJ} {x1} {pos:Pos} {e it a:xQ} {i:Int} {g:xz} {Q:Unit->xY->Prop} (he:En s.heap e it (xS a) i g old)
  (hQ:∀h',En h' e it .none i g old->qA e s.heap h'->Q () {s with heap:=h'}):vJ (xR prog w) A (xO (.Tuple elts x1 pos) (.ref e) (.ref a)) Q E s:=by
 unfold xO;refine vV (wpAny_load he ?_);dsimp only;rw [if_pos (by simp)];exact vV (wpAny_rule (vk he (by simp) λh' he' hs'=>hQ h' he' hs'))
theorem ZHN {e it:xQ} {f0:xz} {i:Int} {g:xz} {Q:xz->xY->Prop} (he:En s.heap e it f0 i g old) (h:Q (.ref e) s):vJ (xR prog w) A (pyIter (.ref e)) Q E s:=by have hT:s.TypeIs (.ref e) "enumerate":=⟨_,he,rfl⟩;exact wpAny_pyIter_slot hT PySem.F.slot_enumerate_iter (vK PySem.F.slot_enumerate_iter hT PySem.F.entry_enumerate_iter (vv ⟨_,rfl,"enumerate",_,hT,PySem.F.slot_enumerate_next.lookup,h⟩) (PySem.F.args_enumerate_iter_1 _))
end
noncomputable abbrev Tp (h:Heap) (T:xQ) (xs:List xz):Prop:=h.get? T=some {cls:=.type "tuple",data:=.seq xs.toArray}
inductive Drw (h:Heap) (i:Nat):List (Src×xQ)->List xz->Prop where
 | nil:Drw h i [] []
 | cons {sr p r x us xs} (hit:Src.it h p i sr) (hv:sr.val h xs) (hx:xs[i]? =some x) (t:Drw h i r us):Drw h i ((sr,p)::r) (x::us)
theorem Drw.length {us:List xz} (d:Drw h i l us):us.length=l.length:=by
 induction d with
 | nil=>rfl
 | cons _ _ _ _ ih=>simp [ih]
section
variable {prog:xW} {w:xj} {A:xZ} {E:xz->xY->Prop} {s:xY}
theorem ZO9 {T:xQ} {xs:List xz} {x:xz} {Q:Unit->xY->Prop} (hT:Tp s.heap T xs) (hz:xs.length<=1000000)
  (h:∀h',Tp h' T (xs.set k x)->qA T s.heap h'->Q () {s with heap:=h'}):vJ (xR prog w) A (updateSeq T (·.setIfInBounds k x)) Q E s:=by
 have h1:xs.toArray.size<=sizeLine:=by rw [zY];exact zD hz size6
 refine wpAny_updateSeq hT rfl (h _ ?_ (qA.update ..)) h1 (by rw [Array.size_setIfInBounds];exact Nat.le_succ_of_le h1);show (s.heap.update T _).get? T=_;rw [jN _ hT rfl];simp [Obj.mapSeq]
noncomputable def ZS (prog:xW) (w:xj) (A:xZ) (E:xz->xY->Prop) (z TO p:xQ) (k:Nat) (R:xY->Prop) (s:xY):Prop:=
 vJ (xR prog w) A (Builtin.SmallTypes.nextOf (.ref p)) (λx s1=>∃os,Tp s1.heap TO os/\os.length<=1000000/\∀h',Tp h' TO (os.set k x)->qA TO s1.heap h'->R {s1 with heap:=h'})
  (λe s'=>vJ (xR prog w) A (setField (.ref z) 0 .none) (λ_ s''=>E e s'') E s') s
theorem ZFS {TO:xQ} {xs:Array xz} {x:xz} {Q:xY->Prop} (hTO:Tp s.heap TO os) (hz:os.length<=1000000) (hit:sr.it s.heap p i) (hv:sr.val s.heap xs) (hx:xs[i]? =some x)
  (h:∀h',Tp h' TO (os.set k x)->sr.it h' p (i + 1)->(∀b o,b≠TO->b≠p->s.heap.get? b=some o->h'.get? b=some o)->h'.objs.size=s.heap.objs.size->Q {s with heap:=h'}):ZS prog w A E z TO p k Q s:=by
 have hne:TO≠p:=λe=>by
  obtain ⟨o,ho,hc,_⟩:=hit;rw [<-e,hTO] at ho;cases ho
  cases sr <;> (simp [Src.itn] at hc)
 refine Src.next_item hit hv hx λh₁ it₁ sb₁=>⟨os,sb₁.extBut _ _ hne hTO,hz,λh₂ t₂ sb₂=> ?_⟩
 exact h h₂ t₂ (it₁.at λo e=>sb₂.extBut _ _ (Ne.symm hne) e) (λb o b1 b2 e=>sb₂.extBut b o b1 (sb₁.extBut b o b2 e)) (by rw [sb₂.1];show h₁.objs.size=_;rw [sb₁.1])
theorem ZIo {TO:xQ} {body:xz×Nat->Option Fin×PUnit->Sem (ForInStep (Option Fin×PUnit))} {R:Option Fin×PUnit->xY->Prop}
  (hb:∀(p:xQ) (k:Nat) (s:xY) (R':ForInStep (Option Fin×PUnit)->xY->Prop),ZS prog w A E z TO p k (λs'=>R' (.yield (none,⟨⟩)) s') s->
   vJ (xR prog w) A (body (.ref p,k) (none,⟨⟩)) R' E s):
  ∀(l:List (Src×xQ)) (us pre post:List xz) (s:xY),Drw s.heap i l us->Tp s.heap TO (pre++post)->post.length=l.length->(pre++post).length<=1000000->(l.map (·.2)).Nodup->(∀q∈l,q.1.adr≠TO)->(∀q∈l,∀r∈l,q.1.adr≠r.2)->
   (∀h',Tp h' TO (pre++us)->(∀q∈l,q.1.it h' q.2 (i + 1))->(∀b o,b≠TO->b ∉ l.map (·.2)->s.heap.get? b=some o->h'.get? b=some o)->h'.objs.size=s.heap.objs.size->R (none,⟨⟩) {s with heap:=h'})->
   vJ (xR prog w) A (forIn ((l.map λq=>Value.ref q.2).zipIdx pre.length) (none,⟨⟩) body) R E s
 | [],us,pre,post,s,d,hT,hl,hz,nd,na,np,hR=>by
  cases d;cases post with
  | cons _ _=>simp at hl
  | nil=>
   rw [j7,List.zipIdx_nil,List.forIn_nil];exact vv (hR s.heap hT (λq hq=>by cases hq) (λb o _ _ e=>e) rfl)
 | (sr,p)::l,us,pre,post,s,d,hT,hl,hz,nd,na,np,hR=>by
  cases d with
  | @cons _ _ _ x us xs hit hv hx d=>
  cases post with
  | nil=>simp at hl
  | cons y post=>
   rw [zA,jR,jT];refine vV (hb p pre.length s _ (ZFS hT hz hit hv hx λh' hT' it' kp sz=> ?_));have e1:(pre++y::post).set pre.length x=(pre++ [x])++post:=by simp
   rw [e1] at hT';have e2:pre.length + 1=(pre++ [x]).length:=by simp
   dsimp only;rw [e2]
   have nd':p ∉ l.map (·.2)/\(l.map (·.2)).Nodup:=by simpa using nd
   have hTOp:∀q∈l,q.2≠TO:=λq hq e=>by
    have:∃sr k,Src.it s.heap q.2 k sr:=by
     clear hR na np nd nd' e1 e2 hl hT' hz
     induction d with
     | nil=>cases hq
     | cons hit _ _ _ ih=>
      rcases zK.mp hq with rfl | hq
      ·exact ⟨_,_,hit⟩
      ·exact ih hq
    obtain ⟨sr',k,o,ho,hc,_⟩:=this;rw [e,hT] at ho;cases ho
    cases sr' <;> (simp [Src.itn] at hc)
   have d':Drw h' i l us:=by
    have na':∀q∈l,q.1.adr≠TO:=λq hq=>na q (zZ _ hq)
    have np':∀q∈l,q.1.adr≠p:=λq hq=>np q (zZ _ hq) (sr,p) zX
    have pp:∀q∈l,q.2≠p:=λq hq e=>nd'.1 (zG.mpr ⟨q,hq,e⟩)
    clear hR na np nd nd' e1 e2 hl hT' hz
    induction d with
    | nil=>exact .nil
    | @cons sr1 p1 r1 x1 us1 xs1 hit1 hv1 hx1 t1 ih=>
     refine .cons (hit1.at λo e=>kp _ o (hTOp _ zX) (pp _ zX) e) (hv1.at λo e=>kp _ o (na' _ zX) (np' _ zX) e) hx1 ?_;exact ih (λq hq=>hTOp q (zZ _ hq)) (λq hq=>na' q (zZ _ hq)) (λq hq=>np' q (zZ _ hq)) (λq hq=>pp q (zZ _ hq))
   refine ZIo hb l us (pre++ [x]) post {s with heap:=h'} d' hT' (by simpa using hl) (by simpa using hz) nd'.2 (λq hq=>na q (zZ _ hq)) (λq hq r hr=>np q (zZ _ hq) r (zZ _ hr)) λh'' t'' its'' kp'' sz''=> ?_
   have hpTO:p≠TO:=λe=>by
    obtain ⟨o,ho,hc,_⟩:=hit;rw [e,hT] at ho;cases ho
    cases sr <;> (simp [Src.itn] at hc)
   refine hR h'' (by simpa using t'') (λq hq=> ?_) (λb o b1 b2 e=> ?_) (sz''.trans sz)
   ·rcases zK.mp hq with rfl | hq
    ·exact it'.at λo e=>kp'' _ o hpTO nd'.1 e
    ·exact its'' q hq
   ·simp only [zA,zK,not_or] at b2;exact kp'' b o b1 b2.2 (kp b o b1 b2.1 e)
end
inductive DrwE (h:Heap) (i:Nat):List (Src×xQ)->Prop where
 | here {sr p r xs} (hit:Src.it h p i sr) (hv:sr.val h xs) (hx:xs[i]? =none):DrwE h i ((sr,p)::r)
 | there {sr p r x xs} (hit:Src.it h p i sr) (hv:sr.val h xs) (hx:xs[i]? =some x) (t:DrwE h i r):DrwE h i ((sr,p)::r)
structure ApZ (TO:xQ) (l:List (Src×xQ)):Prop where
 nd:(l.map (·.2)).Nodup
 na:∀q∈l,q.1.adr≠TO
 np:∀q∈l,∀r∈l,q.1.adr≠r.2
 to:∀q∈l,q.2≠TO
theorem ApZ.tail {TO:xQ} {q:Src×xQ} (a:ApZ TO (q::l)):ApZ TO l:=
 ⟨(qK.mp (by simpa using a.nd)).2,λq hq=>a.na q (zZ _ hq),λq hq r hr=>a.np q (zZ _ hq) r (zZ _ hr),λq hq=>a.to q (zZ _ hq)⟩
section
variable {prog:xW} {w:xj} {A:xZ} {E:xz->xY->Prop} {s:xY}
theorem DrwE.at {TO:xQ} (a:ApZ TO ((sr,p)::l)) (kp:∀b o,b≠TO->b≠p->h.get? b=some o->h'.get? b=some o) (d:DrwE h i l):DrwE h' i l:=by
 have pp:∀q∈l,q.2≠p:=λq hq e=>(qK.mp (by simpa using a.nd)).1 (zG.mpr ⟨q,hq,e⟩)
 have np:∀q∈l,q.1.adr≠p:=λq hq=>a.np q (zZ _ hq) (sr,p) zX
 have a':=a.tail;clear a
 induction d with
 | here hit hv hx=>exact .here (hit.at λo e=>kp _ o (a'.to _ zX) (pp _ zX) e) (hv.at λo e=>kp _ o (a'.na _ zX) (np _ zX) e) hx
 | there hit hv hx t ih=>
  exact .there (hit.at λo e=>kp _ o (a'.to _ zX) (pp _ zX) e) (hv.at λo e=>kp _ o (a'.na _ zX) (np _ zX) e) hx
   (ih (λq hq=>pp q (zZ _ hq)) (λq hq=>np q (zZ _ hq)) a'.tail)
theorem ZIr {TO:xQ} {body:xz×Nat->Option Fin×PUnit->Sem (ForInStep (Option Fin×PUnit))} {R:Option Fin×PUnit->xY->Prop} (hh:A.handled=none)
  (hb:∀(p:xQ) (k:Nat) (s:xY) (R':ForInStep (Option Fin×PUnit)->xY->Prop),ZS prog w A E z TO p k (λs'=>R' (.yield (none,⟨⟩)) s') s->
   vJ (xR prog w) A (body (.ref p,k) (none,⟨⟩)) R' E s):
  ∀(l:List (Src×xQ)) (os:List xz) (n:Nat) (s:xY),DrwE s.heap i l->Tp s.heap TO os->os.length<=1000000->ApZ TO l->
   (∀h' e,(∀b o,b≠TO->b ∉ l.map (·.2)->s.heap.get? b=some o->h'.get? b=some o)->(∃o,h'.get? e=some o/\o.cls=.type "StopIteration")->vJ (xR prog w) A (setField (.ref z) 0 .none) (λ_ s''=>E (.ref e) s'') E {s with heap:=h'})->
   vJ (xR prog w) A (forIn ((l.map λq=>Value.ref q.2).zipIdx n) (none,⟨⟩) body) R E s
 | [],os,n,s,d,hT,hz,a,hE=>by cases d
 | (sr,p)::l,os,n,s,d,hT,hz,a,hE=>by
  rw [zA,jR,jT];refine vV (hb p n s _ ?_);cases d with
  | here hit hv hx=>
   exact Src.next_end hh hit hv hx λh' e xb st=>hE h' e (λb o b1 b2 q=>xb b o (λz=>b2 (by rw [z];simp)) q) st
  | there hit hv hx t=>
   refine ZFS hT hz hit hv hx λh' hT' it' kp sz=> ?_
   refine ZIr hh hb l _ (n + 1) {s with heap:=h'} (t.at a kp) hT' (by simpa using hz) a.tail λh'' e kp'' st=> ?_
   refine hE h'' e (λb o b1 b2 q=> ?_) st;simp only [zA,zK,not_or] at b2;exact kp'' b o b1 b2.2 (kp b o b1 b2.1 q)
theorem ZIO {TI TO:xQ} {R:Fin->xY->Prop} (hz:IsZip s.heap z TI TO .none) (hTI:Tp s.heap TI (l.map λq=>Value.ref q.2)) (hne:l≠ [])
  (h:∀h₁,IsZip h₁ z TI TO .ellipsis->qA z s.heap h₁->∀body:xz×Nat->Option Fin×PUnit->Sem (ForInStep (Option Fin×PUnit)),
   (∀(p:xQ) (k:Nat) (s:xY) (R':ForInStep (Option Fin×PUnit)->xY->Prop),ZS prog w A E z TO p k (λs'=>R' (.yield (none,⟨⟩)) s') s->
    vJ (xR prog w) A (body (.ref p,k) (none,⟨⟩)) R' E s)->
   vJ (xR prog w) A (forIn ((l.map λq=>Value.ref q.2).zipIdx 0) (none,⟨⟩) body) (λr s'=>r.1=none/\∃us,Tp s'.heap TO us/\us.length<=1000000/\IsZip s'.heap z TI TO .ellipsis/\
    ∀h',IsZip h' z TI TO (xS s'.heap.objs.size)->Tp h' s'.heap.objs.size us->h'.objs.size=s'.heap.objs.size + 1->(∀b o,b≠z->s'.heap.get? b=some o->h'.get? b=some o)->R (.done (.ret (.ref s'.heap.objs.size))) {s' with heap:=h'}) E {s with heap:=h₁}):
  vJ (xR prog w) A (Builtin.«zip.__next__» ⟨[.ref z],[]⟩) R E s:=by
 refine vV (m:=field (.ref z) 2) (vY hz rfl (x:=.bool false) rfl (vV (m:=field (.ref z) 3) (vY hz rfl (x:=.ref TI) rfl (vV (m:=seqItems? (.ref TI)) (wpAny_seqItems hTI rfl ?_)))));dsimp only;have hemp:(l.map λq=>Value.ref q.2).toArray.isEmpty=false:=by cases l with
  | nil=>exact absurd rfl hne
  | cons _ _=>simp
 rw [hemp];refine vV (m:=Builtin.SmallTypes.ownedTupleIsFree (.ref z)) ?_;unfold Builtin.SmallTypes.ownedTupleIsFree;refine vV (vY hz rfl (x:=.none) rfl (vv ?_));simp only [if_true];refine vV (wpAny_rule (vV (vY hz rfl (x:=.ref TO) rfl (vV (vk hz (by simp) λh₁ hz₁ hs₁=> ?_)))));refine vV (vz (h h₁ hz₁ hs₁ _ λp k s R' hst=> ?_) (λr s' hr=> ?_) λ_ _ x=>x)
 ·refine vV (wpAny_onRaise ?_);show vJ _ _ (Builtin.SmallTypes.nextOf (.ref p) >>=λv=>pure (some v)) _ _ s;refine vV (vz hst (λx s1 hx=>vv ?_) λ_ _ x=>x);obtain ⟨os,hT,hl,hR⟩:=hx;dsimp only;refine vV (wpAny_seqItems hT rfl ?_);dsimp only;exact vV (ZO9 hT hl λh' t' sb=>vV (wpAny_letGo (vv (hR h' t' sb))))
 ·obtain ⟨hn,us,hT,hl,hzz,hR⟩:=hr;rw [hn];dsimp only;refine vV (wpAny_seqItems hT rfl ?_);dsimp only;refine vV (wpAny_newTuple ?_ (by show us.toArray.toList.length<=_;simpa using zD hl size6));have hzlt:z < s'.heap.objs.size:=zk hzz;refine vV (m:=Builtin.SmallTypes.ownedTupleHandOut _ _) ?_;unfold Builtin.SmallTypes.ownedTupleHandOut;have e1:us.toArray.toList.toArray=us.toArray:=by simp
  rw [e1];have hz2:IsZip (s'.heap.push {cls:=.type "tuple",data:=.seq us.toArray}) z TI TO .ellipsis:=zJ _ hzz;refine vV (vk hz2 (by simp) λh₇ hz₇ hs₇=> ?_);refine vk hz₇ (by simp) λh₈ hz₈ hs₈=> ?_
  refine vv (hR h₈ hz₈ ?_ ?_ λb o hb q=>hs₈.extBut _ _ hb (hs₇.extBut _ _ hb (zJ _ q)))
  ·exact hs₈.extBut _ _ (jJ hzlt) (hs₇.extBut _ _ (jJ hzlt) (zB _ rfl))
  ·rw [hs₈.1];show h₇.objs.size=_;rw [hs₇.1,qE]
theorem ZLn {TI TO:xQ} {us:List xz} {Q:Option xz->xY->Prop} (hz:IsZip s.heap z TI TO .none) (hTI:Tp s.heap TI (l.map λq=>Value.ref q.2)) (hTO:Tp s.heap TO os) (hlen:os.length=l.length) (hsz:l.length<=1000000) (hne:l≠ [])
  (a:ApZ TO l) (zz:z≠TO/\(∀q∈l,q.2≠z/\q.1.adr≠z)) (d:Drw s.heap i l us)
  (hQ:∀h',IsZip h' z TI TO (xS s.heap.objs.size)->Tp h' TO us->(∀q∈l,q.1.it h' q.2 (i + 1))->Tp h' s.heap.objs.size us->h'.objs.size=s.heap.objs.size + 1->
   (∀b o,b≠z->b≠TO->b ∉ l.map (·.2)->s.heap.get? b=some o->h'.get? b=some o)->Q (some (.ref s.heap.objs.size)) {s with heap:=h'}):vJ (xR prog w) A (pyNext (.ref z)) Q E s:=by
 have hT:s.TypeIs (.ref z) "zip":=⟨_,hz,rfl⟩;unfold pyNext;refine vV (wpAny_attempt (vW (name:=Str.ofString "__next__") hT PySem.F.slot_zip_next (vK PySem.F.slot_zip_next hT PySem.F.entry_zip_next ?_ (PySem.F.args_zip_next_1 _))));refine ZIO hz hTI hne λh₁ hz₁ hs₁ body hb=> ?_
 have k₁:∀b o,b≠z->s.heap.get? b=some o->h₁.get? b=some o:=λb o hb q=>hs₁.extBut b o hb q
 have d₁:Drw h₁ i l us:=by
  have h1:∀q∈l,q.2≠z/\q.1.adr≠z:=zz.2;clear hTI hlen hsz hne a zz hQ
  induction d with
  | nil=>exact .nil
  | cons hit hv hx t ih=>exact .cons (hit.at λo e=>k₁ _ o (h1 _ zX).1 e) (hv.at λo e=>k₁ _ o (h1 _ zX).2 e) hx (ih λq hq=>h1 q (zZ _ hq))
 refine ZIo (z:=z) (TO:=TO) (i:=i) hb l us [] os {s with heap:=h₁} d₁ (k₁ _ _ (Ne.symm zz.1) hTO) hlen (by simpa [hlen] using hsz) a.nd a.na a.np λh₂ t₂ it₂ k₂ sz₂=>⟨rfl,us,t₂,by rw [d.length];exact hsz,?_,λh₃ z₃ p₃ s₃ k₃=> ?_⟩
 ·refine k₂ _ _ zz.1 (λhm=> ?_) hz₁;obtain ⟨q,hq,e⟩:=zG.mp hm;exact (zz.2 q hq).1 e
 ·have e2:h₂.objs.size=s.heap.objs.size:=by rw [sz₂];exact hs₁.1
  refine ⟨_,rfl,vv ?_⟩;show Q (some (.ref h₂.objs.size)) _;have z₃':IsZip h₃ z TI TO (xS h₂.objs.size):=z₃;have p₃':Tp h₃ h₂.objs.size us:=p₃;have s₃':h₃.objs.size=h₂.objs.size + 1:=s₃;have k₃':∀b o,b≠z->h₂.get? b=some o->h₃.get? b=some o:=k₃;rw [e2] at z₃' p₃' s₃' ⊢;exact hQ h₃ z₃' (k₃' _ _ (Ne.symm zz.1) t₂) (λq hq=>(it₂ q hq).at λo e=>k₃' _ o (zz.2 q hq).1 e) p₃' s₃' λb o b1 b2 b3 q=>k₃' b o b1 (k₂ b o b2 b3 (k₁ b o b1 q))
theorem ZOh {TI TO:xQ} {Q:Option xz->xY->Prop} (hh:A.handled=none) (hz:IsZip s.heap z TI TO .none) (hTI:Tp s.heap TI (l.map λq=>Value.ref q.2)) (hTO:Tp s.heap TO os) (hlen:os.length=l.length) (hsz:l.length<=1000000) (hne:l≠ [])
  (a:ApZ TO l) (zz:z≠TO/\(∀q∈l,q.2≠z/\q.1.adr≠z)) (d:DrwE s.heap i l)
  (hQ:∀h',(∀b o,b≠z->b≠TO->b ∉ l.map (·.2)->s.heap.get? b=some o->h'.get? b=some o)->Q none {s with heap:=h'}):vJ (xR prog w) A (pyNext (.ref z)) Q E s:=by
 have hT:s.TypeIs (.ref z) "zip":=⟨_,hz,rfl⟩;unfold pyNext;refine vV (wpAny_attempt (vW (name:=Str.ofString "__next__") hT PySem.F.slot_zip_next (vK PySem.F.slot_zip_next hT PySem.F.entry_zip_next ?_ (PySem.F.args_zip_next_1 _))));refine ZIO hz hTI hne λh₁ hz₁ hs₁ body hb=> ?_
 have k₁:∀b o,b≠z->s.heap.get? b=some o->h₁.get? b=some o:=λb o hb q=>hs₁.extBut b o hb q
 have d₁:DrwE h₁ i l:=by
  have h1:∀q∈l,q.2≠z/\q.1.adr≠z:=zz.2;clear hTI hlen hsz hne a zz hQ
  induction d with
  | here hit hv hx=>exact .here (hit.at λo e=>k₁ _ o (h1 _ zX).1 e) (hv.at λo e=>k₁ _ o (h1 _ zX).2 e) hx
  | there hit hv hx t ih=>exact .there (hit.at λo e=>k₁ _ o (h1 _ zX).1 e) (hv.at λo e=>k₁ _ o (h1 _ zX).2 e) hx (ih λq hq=>h1 q (zZ _ hq))
 refine ZIr (A:=A.in1) (z:=z) (TO:=TO) (i:=i) (show A.in1.handled=none from hh) hb l os 0 {s with heap:=h₁} d₁ (k₁ _ _ (Ne.symm zz.1) hTO) (by rw [hlen];exact hsz) a λh₂ e k₂ st=> ?_
 have hz₂:IsZip h₂ z TI TO .ellipsis:=by refine k₂ _ _ zz.1 (λhm=> ?_) hz₁;obtain ⟨q,hq,e⟩:=zG.mp hm;exact (zz.2 q hq).1 e
 obtain ⟨o,ho,hc⟩:=st;have hez:e≠z:=λx=>by subst x;rw [hz₂] at ho;cases ho;simp at hc
 refine vk hz₂ (by simp) λh₃ _ hs₃=> ?_
 refine vV (wpAny_isInstance (T:="StopIteration") (b:=true) ⟨o,hs₃.extBut _ _ hez ho,hc⟩ isSubtype_stop (vv ?_));exact hQ h₃ λb o b1 b2 b3 q=>hs₃.extBut _ _ b1 (k₂ b o b2 b3 (k₁ b o b1 q))
theorem ZIZ:∀(ls:List Src) (pre:Array xz) (s:xY) {Q:Array xz->xY->Prop},(∀sr∈ls,∃xs,sr.val s.heap xs)->
  (∀h',(∀q∈ls.zipIdx s.heap.objs.size,q.1.it h' q.2 0)->h'.objs.size=s.heap.objs.size + ls.length->(∀b o,s.heap.get? b=some o->h'.get? b=some o)->Q (pre++((ls.zipIdx s.heap.objs.size).map λq=>Value.ref q.2).toArray) {s with heap:=h'})->
  vJ (xR prog w) A (forIn (ls.map λsr=>Value.ref sr.adr) pre λx r=>do let v<-holding r.toList (pyIter x);pure (ForInStep.yield (r.push v))) Q E s
 | [],pre,s,Q,hv,h=>by rw [j7,List.forIn_nil];refine vv ?_;have:=h s.heap (λq hq=>by cases hq) rfl (λ_ _ e=>e);simpa using this
 | sr::ls,pre,s,Q,hv,h=>by
  rw [zA,jT];obtain ⟨xs,hx⟩:=hv sr zX;refine vV (vV (vq (Src.iter hx (vv ?_))));dsimp only;have z1:(s.heap.push {cls:=.type sr.itn,data:=.fields #[.ref sr.adr,.int 0 0]}).objs.size=s.heap.objs.size + 1:=qE ..;refine ZIZ ls (pre.push (.ref s.heap.objs.size)) {s with heap:=s.heap.push {cls:=.type sr.itn,data:=.fields #[.ref sr.adr,.int 0 0]}} (λsr' hm=> ?_) λh' hi hz kp=> ?_
  ·obtain ⟨ys,hy⟩:=hv sr' (zZ _ hm);exact ⟨ys,hy.at λo e=>zJ _ e⟩
  ·dsimp only at hi hz kp ⊢;rw [z1] at hi hz ⊢;have:=h h' (λq hq=> ?_) (by rw [hz,qV];lia) (λb o e=>kp b o (zJ _ e))
   ·rw [jR,zA] at this;simpa using this
   ·rw [jR] at hq;rcases zK.mp hq with rfl | hq
    ·exact ⟨_,kp _ _ (zB _ rfl),rfl,rfl⟩
    ·exact hi q hq
theorem ZNG {ls:List Src} {Q:xz->xY->Prop} (hv:∀sr∈ls,∃xs,sr.val s.heap xs) (hl:ls.length<=1000000)
  (hct:checkTypeCall "zip" ⟨ls.map λsr=>Value.ref sr.adr,[]⟩=pure ()) (hcn:checkBuiltinCall "zip.__new__" ⟨.type "zip"::ls.map λsr=>Value.ref sr.adr,[]⟩=pure ()) (hok:∀obj,argsOk "object.__init__" ⟨obj::ls.map λsr=>Value.ref sr.adr,[]⟩)
  (h:∀h' n,n=s.heap.objs.size + ls.length->IsZip h' (n + 2) n (n + 1) .none->Tp h' n ((ls.zipIdx s.heap.objs.size).map λq=>Value.ref q.2)->Tp h' (n + 1) (ls.map λ_=>Value.none)->(∀q∈ls.zipIdx s.heap.objs.size,q.1.it h' q.2 0)->
   (∀b o,s.heap.get? b=some o->h'.get? b=some o)->Q (.ref (n + 2)) {s with heap:=h'}):
  vJ (xR prog w) A (call (.type "zip") (ls.map λsr=>Value.ref sr.adr)) Q E s:=by
 have g:Meets (Builtin.«zip.__new__» ⟨.type "zip"::ls.map λsr=>Value.ref sr.adr,[]⟩) (λ_ R s=>(∀sr∈ls,∃xs,sr.val s.heap xs)/\
   ∀h' n,n=s.heap.objs.size + ls.length->IsZip h' (n + 2) n (n + 1) .none->Tp h' n ((ls.zipIdx s.heap.objs.size).map λq=>Value.ref q.2)->Tp h' (n + 1) (ls.map λ_=>Value.none)->(∀q∈ls.zipIdx s.heap.objs.size,q.1.it h' q.2 0)->
    (∀b o,s.heap.get? b=some o->h'.get? b=some o)->R (.ok (.ret (.ref (n + 2)))) {s with heap:=h'}):=
  .of_wp λprog w A R s hh=>by
   obtain ⟨hv,hR⟩:=hh;have hsub:=sub_zip;unfold Builtin.«zip.__new__» Builtin.SmallTypes.newClass
   wp_walk
   refine ZIZ ls #[] s hv λh1 hi hz kp=>vv ?_
   have e1:(#[]++((ls.zipIdx s.heap.objs.size).map λq=>Value.ref q.2).toArray:Array xz).toList=(ls.zipIdx s.heap.objs.size).map λq=>Value.ref q.2:=by simp
   rw [e1];have hlen:((ls.zipIdx s.heap.objs.size).map λq=>Value.ref q.2).length=ls.length:=by simp
   refine vV (wpAny_newTuple ?_ (by rw [hlen];exact zD hl size6));refine vV (wpAny_newTuple ?_ (by rw [qW,hlen];exact zD hl size6));refine vV ?_;unfold Builtin.SmallTypes.newRecord;dsimp only;refine vj (vv ⟨_,rfl,?_⟩) (by simp [sizeOk,Builtin.SmallTypes.ownedTupleFields,xT]);generalize e2:s.heap.objs.size + ls.length=n at *
   have e3:((ls.zipIdx s.heap.objs.size).map λq=>Value.ref q.2).map (λ_=>Value.none)=ls.map λ_=>Value.none:=by refine q8 (by simp) λi h1 h2=>by simp
   dsimp only;rw [e3];generalize ((ls.zipIdx s.heap.objs.size).map λq=>Value.ref q.2)=us at *;generalize (ls.map λ_=>Value.none)=ns at *;have s1:(h1.push {cls:=.type "tuple",data:=.seq us.toArray}).objs.size=n + 1:=by rw [qE,hz]
   have s2:((h1.push {cls:=.type "tuple",data:=.seq us.toArray}).push {cls:=.type "tuple",data:=.seq ns.toArray}).objs.size=n + 2:=by rw [qE,s1]
   show R (.ok (.ret (.ref ((h1.push {cls:=.type "tuple",data:=.seq us.toArray}).push {cls:=.type "tuple",data:=.seq ns.toArray}).objs.size))) _;rw [s2];refine hR _ n rfl ?_ (zJ _ (zJ _ (by rw [<-hz];exact zB _ rfl))) (zJ _ (by rw [<-s1];exact zB _ rfl)) (λq hq=>(hi q hq).at λo e=>zJ _ (zJ _ (zJ _ e))) λb o e=>zJ _ (zJ _ (zJ _ (kp b o e)))
   have:=zB ((h1.push {cls:=.type "tuple",data:=.seq us.toArray}).push {cls:=.type "tuple",data:=.seq ns.toArray}) (o:={cls:=.type "zip",data:=.fields #[.none,.bool false,.bool false,.ref h1.objs.size,.ref (h1.push {cls:=.type "tuple",data:=.seq us.toArray}).objs.size]}) rfl;rw [s2] at this;rw [hz,s1] at this;show _=_;rw [hz,s1];exact this
 refine callType_new PySem.F.called_zip (by decide) hct hcn hok PySem.F.entry_zip_new g ⟨hv,λh' n hn hz hTI hTO hi kp=>⟨⟨_,hz,rfl⟩,h h' n hn hz hTI hTO hi kp⟩⟩
end
end DL
namespace DL
open PySem PySem.W PyProof.Rows
variable {nrem:Nat}
section
noncomputable def Cj (lt:Nat->Nat->Bool) {α:Type}:KasT α->α
 | .ret a=>a
 | .ask i j k=>Cj lt (k (lt i j))
theorem Sx (lt:Nat->Nat->Bool) {α β:Type} (f:α->KasT β):∀t:KasT α,Cj lt (t.bind f)=Cj lt (f (Cj lt t))
 | .ret _=>rfl
 | .ask i j k=>Sx lt f (k (lt i j))
structure WO (lt:Nat->Nat->Bool):Prop where
 asy:∀i j,lt i j=true->lt j i=false
 neg:∀i j k,lt i k=true->lt i j=true∨lt j k=true
variable {lt:Nat->Nat->Bool}
theorem WO.refl (o:WO lt) (i:Nat):lt i i=false:=by
 cases h:lt i i
 ·rfl
 ·have:=o.asy i i h;rw [h] at this;exact this
theorem WO.tr (o:WO lt) {i j k:Nat} (h1:lt j i=false) (h2:lt k j=false):lt k i=false:=by
 cases h:lt k i
 ·rfl
 ·rcases o.neg k j i h with z | z
  ·rw [z] at h2;cases h2
  ·rw [z] at h1;cases h1
abbrev pt (p:Array Nat) (j:Nat):Nat:=p.getD j 0
theorem Rt (p:Array Nat) (j:Nat):pt p j=(p[j]?).getD 0:=by simp [pt]
noncomputable def Srt (lt:Nat->Nat->Bool) (p:Array Nat) (k:Nat):Prop:=∀i j,i<=j->j < k->lt (pt p j) (pt p i)=false
noncomputable def NIn (lt:Nat->Nat->Bool) (p:Array Nat) (k:Nat):Prop:=∀i j,i<=j->j < k->lt (pt p i) (pt p j)=false
theorem Jp {p:Array Nat} {i j:Nat} (hj:j<=p.size) (k:Nat):pt (v7 p i j) k=if i<=k/\k < j then pt p (i + j - 1 - k) else pt p k:=by
 rw [Rt,v7,getElem?_mirror_all hj]
 split <;> exact (Rt ..).symm
theorem ZPT {p:Array Nat} {src d:Nat} (hs:src < p.size) (hd:d<=src) (k:Nat):pt (bubble p src d) k=if k=src - d then pt p src else if src - d < k/\k<=src then pt p (k - 1) else pt p k:=by
 rw [Rt,getElem?_bubble hs d hd];by_cases h1:k=src - d
 ·rw [if_pos h1,if_pos h1];exact (Rt ..).symm
 ·rw [if_neg h1,if_neg h1];by_cases h2:src - d < k/\k<=src
  ·rw [if_pos h2,if_pos h2];exact (Rt ..).symm
  ·rw [if_neg h2,if_neg h2];exact (Rt ..).symm
theorem ZA2 (o:WO lt) (p:Array Nat):∀f n,1<=n->Srt lt p n->∀m,Cj lt (kas_asc p f n)=m->n<=m/\m<=n + f/\Srt lt p m/\(m < n + f->lt (pt p m) (pt p (m - 1))=true)
 | 0,n,h1,h,m,e=>by have e':n=m:=e;subst e';exact ⟨zW _,zW _,h,λz=>absurd z (qX _)⟩
 | f + 1,n,h1,h,m,e=>by
  unfold kas_asc at e;have e1:Cj lt (if lt (pt p n) (pt p (n - 1))=true then KasT.ret n else kas_asc p f (n + 1))=m:=e;cases hc:lt (pt p n) (pt p (n - 1)) with
  | true=>
   rw [hc,if_pos rfl] at e1;have e':n=m:=e1;subst e';exact ⟨zW _,by lia,h,λ_=>hc⟩
  | false=>
   rw [hc,if_neg (by simp)] at e1;have h':Srt lt p (n + 1):=λi j hij hj=>by
    by_cases e:j < n
    ·exact h i j hij e
    ·have e':j=n:=by lia
     subst e';by_cases e2:i=j
     ·rw [e2];exact o.refl _
     ·exact o.tr (h i (j - 1) (by lia) (by lia)) hc
   obtain ⟨a,b,c,d⟩:=ZA2 o p f (n + 1) (by lia) h' m e1;exact ⟨by lia,by lia,c,λz=>d (by lia)⟩
structure Dn (lt:Nat->Nat->Bool) (p:Array Nat) (n q:Nat):Prop where
 ni:NIn lt p n
 al:∀i j,n - (q + 1)<=i->i < n->n - (q + 1)<=j->j < n->lt (pt p i) (pt p j)=false
 qn:q + 1<=n
theorem NIn.rev {p:Array Nat} {n q:Nat} (d:Dn lt p n q) (hn:n<=p.size):NIn lt (v7 p (n - (q + 1)) n) n:=λi j hij hj=>by
 have:=d.qn;rw [Jp hn,Jp hn];by_cases h1:n - (q + 1)<=i
 ·rw [if_pos ⟨h1,by lia⟩,if_pos ⟨by lia,hj⟩];exact d.al _ _ (by lia) (by lia) (by lia) (by lia)
 ·rw [if_neg (by lia)];by_cases h2:n - (q + 1)<=j
  ·rw [if_pos ⟨h2,hj⟩];exact d.ni _ _ (by lia) (by lia)
  ·rw [if_neg (by lia)];exact d.ni i j hij hj
theorem Vl (o:WO lt):∀f (p:Array Nat) n q,n + f<=p.size->Dn lt p n q->∀r,Cj lt (kas_desc f p n q)=r->r.1.Perm p/\r.2.1<=n + f/\n<=r.2.1/\Dn lt r.1 r.2.1 r.2.2
 | 0,p,n,q,hz,d,r,e=>by have e':(p,n,q)=r:=e;subst e';exact ⟨.refl _,zW _,zW _,d⟩
 | f + 1,p,n,q,hz,d,r,e=>by
  have qn:=d.qn;unfold kas_desc at e;have e1:Cj lt (if lt (pt p n) (pt p (n - 1))=true then (if q > 0 then kas_desc f (v7 p (n - (q + 1)) n) (n + 1) 0 else kas_desc f p (n + 1) 0)
   else .ask (p.getD (n - 1) 0) (p.getD n 0) λd=>if d=true then .ret (p,n,q) else kas_desc f p (n + 1) (q + 1))=r:=e
  clear e;cases hc:lt (pt p n) (pt p (n - 1)) with
  | true=>
   rw [hc,if_pos rfl] at e1;have ext:∀p':Array Nat,NIn lt p' n->pt p' n=pt p n->(∀k,k < n->lt (pt p n) (pt p' k)=true∨k < n)->lt (pt p' (n - 1)) (pt p' n)=false->Dn lt p' (n + 1) 0:=λp' hni _ _ hl=>by
    refine ⟨λi j hij hj=> ?_,λi j h1 h2 h3 h4=> ?_,by lia⟩
    ·by_cases e:j < n
     ·exact hni i j hij e
     ·have e':j=n:=by lia
      subst e';by_cases e2:i=j
      ·rw [e2];exact o.refl _
      ·exact o.tr hl (hni i (j - 1) (by lia) (by lia))
    ·have e1:i=n:=by lia
     have e2:j=n:=by lia
     rw [e1,e2];exact o.refl _
   by_cases hq:q > 0
   ·rw [if_pos hq] at e1;have hl:lt (pt (v7 p (n - (q + 1)) n) (n - 1)) (pt (v7 p (n - (q + 1)) n) n)=false:=by
     rw [Jp (by lia),Jp (by lia),if_pos (by lia),if_neg (by lia)];cases hx:lt (pt p (n - (q + 1) + n - 1 - (n - 1))) (pt p n)
     ·rfl
     ·rcases o.neg _ (pt p (n - 1)) _ hx with z | z
      ·rw [d.al _ _ (by lia) (by lia) (by lia) (by lia)] at z;cases z
      ·rw [o.asy _ _ hc] at z;cases z
    obtain ⟨a,b,c,dd⟩:=Vl o f _ (n + 1) 0 (by rw [v7,mirror_size];lia) (ext _ (NIn.rev d (by lia)) (by rw [Jp (by lia),if_neg (by lia)]) (λk hk=>.inr hk) hl) r e1;exact ⟨a.trans (mirror_perm ..),by lia,by lia,dd⟩
   ·rw [if_neg hq] at e1;obtain ⟨a,b,c,dd⟩:=Vl o f p (n + 1) 0 (by lia) (ext p d.ni rfl (λk hk=>.inr hk) (o.asy _ _ hc)) r e1;exact ⟨a,by lia,by lia,dd⟩
  | false=>
   rw [hc,if_neg (by simp)] at e1;have e2:Cj lt (if lt (pt p (n - 1)) (pt p n)=true then .ret (p,n,q) else kas_desc f p (n + 1) (q + 1))=r:=e1;cases hd:lt (pt p (n - 1)) (pt p n) with
   | true=>
    rw [hd,if_pos rfl] at e2;have e3:(p,n,q)=r:=e2;subst e3;exact ⟨.refl _,by show n<=_;lia,zW _,d⟩
   | false=>
    rw [hd,if_neg (by simp)] at e2;have al':∀i,n - (q + 1)<=i->i < n + 1->lt (pt p i) (pt p n)=false/\lt (pt p n) (pt p i)=false:=λi h1 h2=>by
     by_cases e:i=n
     ·rw [e];exact ⟨o.refl _,o.refl _⟩
     ·exact ⟨o.tr hd (d.al i (n - 1) h1 (by lia) (by lia) (by lia)),o.tr (d.al (n - 1) i (by lia) (by lia) h1 (by lia)) hc⟩
    obtain ⟨a,b,c,dd⟩:=Vl o f p (n + 1) (q + 1) (by lia) ⟨λi j hij hj=>by
     by_cases e:j < n
     ·exact d.ni i j hij e
     ·have e':j=n:=by lia
      subst e';by_cases e2:i=j
      ·rw [e2];exact o.refl _
      ·exact o.tr hd (d.ni i (j - 1) (by lia) (by lia)),λi j h1 h2 h3 h4=>by
     by_cases ei:i=n
     ·rw [ei];exact (al' j (by lia) h4).2
     ·by_cases ej:j=n
      ·rw [ej];exact (al' i (by lia) h2).1
      ·exact d.al i j (by lia) (by lia) (by lia) (by lia),by lia⟩ r e2
    exact ⟨a,by lia,by lia,dd⟩
theorem ZJs (o:WO lt) {p:Array Nat} {n:Nat} (h1:1<=n) (hn:n<=nrem) (hz:nrem<=p.size) (d:NIn lt p n):∀r,Cj lt (kas_tail3 n nrem p)=r->r.2.Perm p/\r.1<=nrem/\1<=r.1/\Srt lt r.2 r.1:=by
 intro r e;unfold kas_tail3 at e;rw [Sx] at e;have s0:Srt lt (v7 p 0 n) n:=λi j hij hj=>by rw [Jp (by lia),Jp (by lia),if_pos (by lia),if_pos (by lia)];exact d _ _ (by lia) (by lia)
 obtain ⟨a,b,c,_⟩:=ZA2 o (v7 p 0 n) (nrem - n) n h1 s0 _ rfl;have e':(Cj lt (kas_asc (v7 p 0 n) (nrem - n) n),v7 p 0 n)=r:=e;subst e';exact ⟨mirror_perm ..,by show Cj lt (kas_asc (v7 p 0 n) (nrem - n) n)<=nrem;lia,by show 1<=Cj lt (kas_asc (v7 p 0 n) (nrem - n) n);lia,c⟩
theorem ZIC (o:WO lt) {p:Array Nat} {n:Nat} (h1:1<=n) (hn:n < nrem) (hz:nrem<=p.size) (al:∀i j,i < n->j < n->lt (pt p i) (pt p j)=false) (hl:lt (pt p n) (pt p (n - 1))=true):
  ∀r,Cj lt (kas_descPart n nrem p)=r->r.2.Perm p/\r.1<=nrem/\1<=r.1/\Srt lt r.2 r.1:=by
 intro r e;unfold kas_descPart at e;rw [Sx] at e;have d0:Dn lt p (n + 1) 0:=⟨λi j hij hj=>by
  by_cases e:j < n
  ·exact al i j (by lia) e
  ·have e':j=n:=by lia
   subst e';by_cases e2:i=j
   ·rw [e2];exact o.refl _
   ·exact o.tr (o.asy _ _ hl) (al i (j - 1) (by lia) (by lia)),λi j _ _ _ _=>by
  have e1:i=n:=by lia
  have e2:j=n:=by lia
  rw [e1,e2];exact o.refl _,by lia⟩
 obtain ⟨a,b,c,dd⟩:=Vl o (nrem - (n + 1)) p (n + 1) 0 (by lia) d0 _ rfl
 revert a b c dd e
 generalize Cj lt (kas_desc (nrem - (n + 1)) p (n + 1) 0)=x;intro e a b c dd;have hx:x.1.size=p.size:=a.size_eq;split at e
 ·obtain ⟨a',b',c',d'⟩:=ZJs o (by lia) (by lia) (by rw [v7,mirror_size];lia) (NIn.rev dd (by lia)) r e;exact ⟨(a'.trans (mirror_perm ..)).trans a,b',c',d'⟩
 ·obtain ⟨a',b',c',d'⟩:=ZJs o (by lia) (by lia) (by lia) dd.ni r e;exact ⟨a'.trans a,b',c',d'⟩
theorem ZNI (o:WO lt) {p:Array Nat} (h1:1<=nrem) (hz:nrem<=p.size):∀r,Cj lt (kas_count nrem p)=r->r.2.Perm p/\r.1<=nrem/\1<=r.1/\Srt lt r.2 r.1:=by
 intro r e;unfold kas_count at e;rw [Sx] at e;obtain ⟨a,b,c,d⟩:=ZA2 o p (nrem - 1) 1 (zW _) (λi j hij hj=>by
  have e1:i=0:=by lia
  have e2:j=0:=by lia
  rw [e1,e2];exact o.refl _) _ rfl
 revert a b c d e
 generalize Cj lt (kas_asc p (nrem - 1) 1)=n;intro e a b c d;split at e
 ·have e':(n,p)=r:=e;subst e';exact ⟨.refl _,by show n<=nrem;lia,a,c⟩
 ·rename_i hne;have hn:n < nrem:=by
   have:n≠nrem:=by simpa using hne
   lia
  have hl:=d (by lia);split at e
  ·rename_i hgt;have e':Cj lt (if lt (pt p 0) (pt p (n - 1))=true then .ret (n,p) else kas_descPart n nrem (v7 p 0 n))=r:=e;cases hc:lt (pt p 0) (pt p (n - 1)) with
   | true=>
    rw [hc,if_pos rfl] at e';have e2:(n,p)=r:=e';subst e2;exact ⟨.refl _,by show n<=nrem;lia,a,c⟩
   | false=>
    rw [hc,if_neg (by simp)] at e';have al:∀i j,i < n->j < n->lt (pt p i) (pt p j)=false:=λi j hi hj=>o.tr (c j (n - 1) (by lia) (by lia) |> λz=>z) (o.tr hc (c 0 i (by lia) hi) |> λz=>by exact z)
    obtain ⟨a',b',c',d'⟩:=ZIC o (p:=v7 p 0 n) a hn (by rw [v7,mirror_size];lia) (λi j hi hj=>by
     rw [Jp (by lia),Jp (by lia),if_pos (by lia),if_pos (by lia)];exact al _ _ (by lia) (by lia)) (by
     rw [Jp (by lia),Jp (by lia),if_neg (by lia),if_pos (by lia)];rcases o.neg _ (pt p (0 + n - 1 - (n - 1))) _ hl with z | z
     ·exact z
     ·rw [al _ _ (by lia) (by lia)] at z;cases z) r e'
    exact ⟨a'.trans (mirror_perm ..),b',c',d'⟩
  ·have e1:n=1:=by lia
   subst e1;exact ZIC o (zW _) hn hz (λi j hi hj=>by
    have e1:i=0:=by lia
    have e2:j=0:=by lia
    rw [e1,e2];exact o.refl _) hl r e
theorem ZBR (o:WO lt) (p:Array Nat) (k:Nat) (hs:Srt lt p k):∀f l r,r - l<=f->l<=r->r<=k->(∀i,i < l->lt (pt p k) (pt p i)=false)->(∀i,r<=i->i < k->lt (pt p k) (pt p i)=true)->
  ∀m,Cj lt (kas_place p k f l r)=m->m<=k/\(∀i,i < m->lt (pt p k) (pt p i)=false)/\(∀i,m<=i->i < k->lt (pt p k) (pt p i)=true)
 | 0,l,r,hf,hlr,hr,h1,h2,m,e=>by have e':l=m:=e;subst e';exact ⟨by lia,h1,λi hi hk=>h2 i (by lia) hk⟩
 | f + 1,l,r,hf,hlr,hr,h1,h2,m,e=>by
  unfold kas_place at e;split at e
  ·have e':l=m:=e;subst e';exact ⟨by lia,h1,λi hi hk=>h2 i (by lia) hk⟩
  ·rename_i hlt;have e':Cj lt (if lt (pt p k) (pt p ((l + r) / 2))=true then kas_place p k f l ((l + r) / 2) else kas_place p k f ((l + r) / 2 + 1) r)=m:=e;cases hc:lt (pt p k) (pt p ((l + r) / 2)) with
   | true=>
    rw [hc,if_pos rfl] at e';refine ZBR o p k hs f l ((l + r) / 2) (by lia) (by lia) (by lia) h1 (λi hi hk=> ?_) m e';rcases o.neg _ (pt p i) _ hc with z | z
    ·exact z
    ·rw [hs _ i hi hk] at z;cases z
   | false=>
    rw [hc,if_neg (by simp)] at e';exact ZBR o p k hs f ((l + r) / 2 + 1) r (by lia) (by lia) hr (λi hi=>o.tr (hs i ((l + r) / 2) (by lia) (by lia)) hc) h2 m e'
theorem ZHG (o:WO lt):∀f (p:Array Nat) k,k + f=p.size->Srt lt p k->(Cj lt (kas_bin f p k)).Perm p/\Srt lt (Cj lt (kas_bin f p k)) p.size
 | 0,p,k,hz,hs=>⟨.refl _,by
  have:k=p.size:=by lia
  rw [<-this];exact hs⟩
 | f + 1,p,k,hz,hs=>by
  unfold kas_bin;rw [Sx];obtain ⟨hm,h1,h2⟩:=ZBR o p k hs k 0 k (by lia) (by lia) (zW _) (λi hi=>by lia) (λi hi hk=>by lia) _ rfl
  revert hm h1 h2
  generalize Cj lt (kas_place p k k 0 k)=m;intro hm h1 h2;have sz:(bubble p k (k - m)).size=p.size:=bubble_size ..;have hk:k < p.size:=by lia
  have e:∀j,pt (bubble p k (k - m)) j=if j=m then pt p k else if m < j/\j<=k then pt p (j - 1) else pt p j:=λj=>by
   rw [ZPT hk (by lia)];have:k - (k - m)=m:=by lia
   rw [this]
  obtain ⟨a,b⟩:=ZHG o f (bubble p k (k - m)) (k + 1) (by lia) (λi j hij hj=>by
   rw [e i,e j];by_cases ji:j=m
   ·rw [if_pos ji];by_cases ii:i=m
    ·rw [if_pos ii];exact o.refl _
    ·rw [if_neg ii,if_neg (by lia)];exact h1 i (by lia)
   ·rw [if_neg ji];by_cases jm:m < j
    ·rw [if_pos ⟨jm,by lia⟩];by_cases ii:i=m
     ·rw [if_pos ii];exact o.asy _ _ (h2 _ (by lia) (by lia))
     ·rw [if_neg ii];by_cases im:m < i
      ·rw [if_pos ⟨im,by lia⟩];exact hs _ _ (by lia) (by lia)
      ·rw [if_neg (by lia)];exact hs _ _ (by lia) (by lia)
    ·rw [if_neg (by lia),if_neg (by lia),if_neg (by lia)];exact hs i j hij (by lia))
  rw [sz] at b;exact ⟨a.trans (bubble_perm ..),b⟩
theorem ZCK (o:WO lt) {n:Nat} (hn:1<=n):(Cj lt (kas_sort n)).toList.Perm (zj n)/\Srt lt (Cj lt (kas_sort n)) n:=by
 unfold kas_sort;rw [Sx];obtain ⟨a,b,c,d⟩:=ZNI o (p:=(zj n).toArray) (nrem:=n) hn (by simp) _ rfl
 revert a b c d
 generalize Cj lt (kas_count n (zj n).toArray)=x;intro a b c d;have hx:x.2.size=n:=by rw [a.size_eq];simp
 split
 ·have e:max x.1 1=x.1:=by lia
  rw [e];obtain ⟨a',b'⟩:=ZHG o (n - x.1) x.2 x.1 (by lia) d;rw [hx] at b';exact ⟨by simpa using (a'.trans a).toList,b'⟩
 ·have e:x.1=n:=by lia
  rw [e] at d;exact ⟨by simpa [Cj] using a.toList,d⟩
end
end DL
namespace DL
open PySem PySem.Spec L2
open PyProof.Rows hiding St
variable {v8:List (xQ×Obj)} {σ:St} {H:Hp} {s:xY} {w:xj} {K:PySem.W.Frag} {elts:List xJ} {i:Nat} {a:Wd} {ta:DA}
section
variable {X:Cx} {v8:List (xQ×Obj)} {σ:St} {H:Hp} {s:xY} {h':Heap}
theorem ZBe {t':Nat} {fp:List xQ} (I:Inv X v8 σ H s) (k:∀b o,b ∉ fp->s.heap.get? b=some o->h'.get? b=some o) (hf:∀b∈fp,FpOk X v8 H b):Inv X v8 σ H {s with heap:=h',toks:=t'}:=by
 have nit:∀b u,H b=some u->b ∉ fp:=λb u e z=>by rw [(hf b z).1] at e;cases e
 refine I.step (g':=s.gens) (d':=s.drawn) (ch:=fp) (λb hb=> ?_) (λb o _ _ hc e _=>k b o hc e) (λb o _ _ hc e _=>⟨o.slots,k b o hc e⟩) (λ_ _ _ _ n=>n)
  (λb o hc e=>⟨o,k b o hc e⟩) (λ_ _ e=>e) (λ_ _ _ e=>e) (λb ps e=>⟨#[],by rw [e];simp⟩) (λm hm=> ?_) (λb u e=> ?_) I.bare
 ·obtain ⟨f0,f1,f2,f3,f4,f5⟩:=hf b hb;exact ⟨f3,f1,f4,f5⟩
 ·obtain ⟨o,es,ep,ho,r⟩:=hm;exact ⟨o,es,ep,k _ o (λz=>(hf _ z).2.1 rfl) ho,r⟩
 ·refine (I.hok b u e).stay (λc v hc q=>k c v ?_ q) (λ_ q=>q) λ_ _ q=>q
  rcases hc with z | z
  ·rw [z];exact nit b u e
  ·exact nit c _ z
theorem ZJ4 {t':Nat} {fp:List xQ} {p:xQ} {xs:List V} {its:List xz} (I:Inv X v8 σ H s) (k:∀b o,b ∉ fp->s.heap.get? b=some o->h'.get? b=some o) (hf:∀b∈fp,FpOk X v8 H b) (hp:s.heap.objs.size<=p)
  (hz:xs.length<=sizeLine) (r:Vals xs its) (ht:Tp h' p its):Inv X v8 σ (upd H p (.tup xs)) {s with heap:=h',toks:=t'}:=by
 obtain ⟨g0,g1,g2,g3,g4,g5⟩:=I.Lh (H':=H) hp (I.hok.fresh hp);exact ZB4 (ZBe I k hf) g0 (zD I.sz hp) g1 g4 g5 ⟨hz,its,r,_,ht,rfl,_,rfl⟩
end
noncomputable def Src.sq (K:PySem.W.Frag) (H:Hp) (xs:List V):Src->Prop
 | .l a=>SqL K H a xs
 | .t a=>SqT K H a xs
variable {sr:Src} {ls:List Src}
theorem Src.sq.val {X:Cx} {xs:List V} (I:Inv X v8 σ H s) (h:sr.sq X.K H xs):∃its:List xz,Vals xs its/\sr.val s.heap its.toArray/\xs.length<=sizeLine:=by
 cases sr with
 | l a=>obtain ⟨its,r,p,hz⟩:=I.list h;exact ⟨its,r,p.isList,hz⟩
 | t a=>obtain ⟨its,r,p,hz⟩:=I.tuple h;exact ⟨its,r,p,hz⟩
theorem Src.sq.inj {X:Cx} {xs ys:List V} (I:Inv X v8 σ H s) (h:sr.sq X.K H xs) (h':sr.sq X.K H ys):xs=ys:=by
 cases sr with
 | l a=>exact I.ZCV h h'
 | t a=>exact I.ZAf h h'
noncomputable def Ite (K:PySem.W.Frag) (sr:Src) (n:Int):It:=
 ⟨λi H=>∃xs x,sr.sq K H xs/\xs[i]? =some x,λi H v H'=>∃p x,v=.ref p/\H p=none/\H'=upd H p (.tup [.int (n + i),x])/\∀xs,sr.sq K H xs->xs[i]? =some x,λi H=>∃xs,sr.sq K H xs/\xs.length<=i⟩
theorem ZOe {P:xW} {x1} {pos:Pos} (sr:Src) (n:Int) (e it:xQ) (hne:e≠it):
  Turn P w K (.Tuple elts x1 pos) (Ite K sr n) [e,it] e (λi h=>∃g old,En h e it .none (n + i) g old/\Gv (n + i) g/\sr.it h it i) where
 mem:=by simp
 obj:=λi h st b hb=>by
  obtain ⟨g,old,he,_,o,ho,_,hd⟩:=st;rcases (show b=e∨b=it by simpa using hb) with rfl | rfl
  ·exact ⟨_,he,λv z=>by cases z⟩
  ·exact ⟨o,ho,λv z=>by rw [hd] at z;cases z⟩
 keep:=λi h h' st k=>by obtain ⟨g,old,he,hg,hi⟩:=st;exact ⟨g,old,k e (by simp) _ he,hg,hi.at λo q=>k it (by simp) o q⟩
 item:=by
  intro X hP hw hK hc i v8 s σ H E I hf st hg;subst hP hw hK;obtain ⟨xs,x,hq,hx⟩:=hg;obtain ⟨its,rv,hv,hz⟩:=Src.sq.val I hq;obtain ⟨u,hu,ru⟩:=rv.get hx;obtain ⟨g,old,he,hgv,hi⟩:=st;refine ZON he hgv hi hv (x:=u) (by simpa using hu) hne λh1 t tk e1 i1 t1 z1 k1=>⟨_,rfl,?_⟩
  refine ZKr (s:={s with heap:=h1,toks:=tk}) e1 λh2 e2 sb=> ?_
  have hpe:s.heap.objs.size≠e:=jJ (zk he);have I2:Inv X v8 σ (upd H s.heap.objs.size (.tup [.int (n + i),x])) {s with heap:=h2,toks:=tk}:=
   ZJ4 (fp:= [e,it]) (its:= [.int (n + i) t,u]) I (λb o hb q=>by
    have hb':b≠e/\b≠it:=by simpa using hb
    exact sb.extBut b o hb'.1 (k1 b o hb'.1 hb'.2 q)) hf (zW _) (by show 2<=sizeLine;decide) (.cons ⟨t,rfl⟩ (.cons ru .nil)) (sb.extBut _ _ hpe t1)
  have hfr:H s.heap.objs.size=none:=I.hok.fresh (zW _);refine ⟨.ref s.heap.objs.size,_,I2,rfl,⟨_,x,rfl,hfr,rfl,λys hy=>by rw [Src.sq.inj I hy hq];exact hx⟩,⟨.none,u,?_,.inl rfl,i1.at λo q=>sb.extBut _ _ (Ne.symm hne) q⟩,λb hb=> ?_⟩
  ·have ee:n + (i:Int) + 1=n + ((i + 1:Nat):Int):=by lia
   rw [<-ee];exact e2
  ·have hb':b=e∨b=it:=by simpa using hb
   rw [Bd (λz=> ?_)]
   ·exact (hf b hb).1
   ·rcases hb' with rfl | rfl
    ·exact hpe z.symm
    ·have hlt:=Src.it.lt hi;rw [z] at hlt;exact qX _ hlt
 done:=by
  intro X hP hw hK hc i v8 s σ H E I hf st hg;subst hP hw hK;obtain ⟨xs,hq,hx⟩:=hg;obtain ⟨its,rv,hv,hz⟩:=Src.sq.val I hq;obtain ⟨g,old,he,hgv,hi⟩:=st;have hl:=rv.length;refine ZNb (I.ok.hd hc) he hi hv (by simp;lia) λh1 xb=>⟨rfl,?_⟩
  exact ZBe (t':=s.toks) (fp:= [e,it]) I (λb o hb q=>xb b o (λz=>hb (by simp [z])) q) hf
 self:=λ_ _ _ _ _ st h=>by obtain ⟨g,old,he,_⟩:=st;exact ZHN he h
section
variable {X:Cx} {E:XK}
theorem ZMW {prog:xW} {A:xZ} {E:xz->xY->Prop} {xs:Array xz} {Q:xz->xY->Prop} (hv:sr.val s.heap xs)
  (h:∀h',En h' (s.heap.objs.size + 1) s.heap.objs.size .none 0 .none .none->sr.it h' s.heap.objs.size 0->(∀b o,s.heap.get? b=some o->h'.get? b=some o)->Q (.ref (s.heap.objs.size + 1)) {s with heap:=h'}):
  vJ (xR prog w) A (call (.type "enumerate") [.ref sr.adr]) Q E s:=by
 have g:Meets (Builtin.«enumerate.__new__» ⟨[.type "enumerate",.ref sr.adr],[]⟩) (λ_ R s=>sr.val s.heap xs/\
   R (.ok (.ret (.ref (s.heap.push {cls:=.type sr.itn,data:=.fields #[.ref sr.adr,.int 0 0]}).objs.size)))
    {s with heap:=(s.heap.push {cls:=.type sr.itn,data:=.fields #[.ref sr.adr,.int 0 0]}).push {cls:=.type "enumerate",data:=.fields #[.none,.bool false,.ref s.heap.objs.size,xS 0,.none,.none]}}):=
  .of_wp λprog w A R s h=>by
   obtain ⟨hp,g,d,tk,os⟩:=s;obtain ⟨hl,h⟩:=h;have hsub:=sub_enumerate;have hL:sr.val (Shared.heap ⟨hp,g,d,tk,os⟩) xs:=hl
   wp_walk
   refine wpAny_stack_any λst=>vv ?_
   split
   ·rename_i c _ _ _ _ _
    cases (c == Value.type "enumerate") <;> (wp_walk using Src.iter hL;exact ⟨_,rfl,h⟩)
   ·wp_walk using Src.iter hL
    exact ⟨_,rfl,h⟩
 refine callType_new PySem.F.called_enumerate (by decide) (PySem.F.typeCall_enumerate_1 _) (PySem.F.newCall_enumerate_1 _) (λobj=>PySem.F.args_object_init_2 obj _) PySem.F.entry_enumerate_new g ⟨hv,?_⟩;have hz:(s.heap.push {cls:=.type sr.itn,data:=.fields #[.ref sr.adr,.int 0 0]}).objs.size=s.heap.objs.size + 1:=qE ..;show _/\_;rw [hz];have he:En ((s.heap.push {cls:=.type sr.itn,data:=.fields #[.ref sr.adr,.int 0 0]}).push {cls:=.type "enumerate",data:=.fields #[.none,.bool false,.ref s.heap.objs.size,xS 0,.none,.none]}) (s.heap.objs.size + 1) s.heap.objs.size .none 0 .none .none:=by
  have:=zB (s.heap.push {cls:=.type sr.itn,data:=.fields #[.ref sr.adr,.int 0 0]}) (o:={cls:=.type "enumerate",data:=.fields #[.none,.bool false,.ref s.heap.objs.size,xS 0,.none,.none]}) rfl;rw [hz] at this;exact this
 exact ⟨⟨_,he,rfl⟩,h _ he ⟨_,zJ _ (zB _ rfl),rfl,rfl⟩ λb o x=>zJ _ (zJ _ x)⟩
noncomputable def ZPt (K:PySem.W.Frag) (ta:TA):TI:=λσ H R=>ta σ H λvs H1=>∃sr xs,vs= [.ref (Src.adr sr)]/\sr.sq K H1 xs/\R (Ite K sr 0) H1
theorem ZKk {elts:List xJ} {x1} {tp:Pos} {a:xJ} {ta:TA} {p pos:Pos} (hg:Gl X "enumerate") (hm:X.mg "enumerate"=none) (ha:PA X [a] ta) (hs:vQ [a] X.env= [(false,eval a X.env)]:=by rfl):PI X (.Tuple elts x1 tp) (.Call (.Name "enumerate" p) [a] [] pos) (ZPt X.K ta):=by
 intro v8 s σ H R I h;refine Call_ (Kg I hg hm PyProof.Rows.boot_enumerate (PyProof.Rows.callWith_type1 (thn (ha pos v8 s σ H _ I h) λus s1 ⟨vs,H1,I1,r1,q1⟩=> ?_) hs rfl));obtain ⟨sr,xs,e,hq,q⟩:=q1;subst e;cases r1 with
 | cons r rr=>
  cases rr;cases r;obtain ⟨its,rv,hv,hz⟩:=Src.sq.val I1 hq;refine ZMW hv λh' he hi kp=> ?_
  refine ZHN he ?_;have I2:Inv X v8 σ H1 {s1 with heap:=h'}:=I1.kept (t':=s1.toks) kp;refine ⟨s1.heap.objs.size + 1,[s1.heap.objs.size + 1,s1.heap.objs.size],_,_,H1,rfl,I2,ZOe sr 0 _ _ (Nat.succ_ne_self _),⟨.none,.none,by simpa using he,.inl rfl,hi⟩,λb hb=> ?_,q⟩;have hb':b=s1.heap.objs.size + 1∨b=s1.heap.objs.size:=by simpa using hb
  have hle:s1.heap.objs.size<=b:=by rcases hb' with rfl | rfl <;> lia
  exact I1.Lh hle (I1.hok.fresh hle)
end
inductive DrV (K:PySem.W.Frag) (H:Hp) (i:Nat):List Src->List V->Prop where
 | nil:DrV K H i [] []
 | cons {sr r v us xs} (hq:Src.sq K H xs sr) (hx:xs[i]? =some v) (t:DrV K H i r us):DrV K H i (sr::r) (v::us)
inductive StV (K:PySem.W.Frag) (H:Hp) (i:Nat):List Src->Prop where
 | here {sr r xs} (hq:Src.sq K H xs sr) (hx:xs.length<=i):StV K H i (sr::r)
 | there {sr r v xs} (hq:Src.sq K H xs sr) (hx:xs[i]? =some v) (t:StV K H i r):StV K H i (sr::r)
noncomputable def Itz (K:PySem.W.Frag) (ls:List Src):It:=
 ⟨λi H=>∃us,DrV K H i ls us,λi H v H'=>∃p us,v=.ref p/\H p=none/\H'=upd H p (.tup us)/\∀us',DrV K H i ls us'->us'=us,λi H=>StV K H i ls⟩
theorem DrV.length {us:List V} (d:DrV K H i ls us):us.length=ls.length:=by
 induction d with
 | nil=>rfl
 | cons _ _ _ ih=>simp [ih]
section
variable {X:Cx} {v8:List (xQ×Obj)} {σ:St} {H:Hp} {s:xY}
theorem DrV.inj (I:Inv X v8 σ H s) :∀{ls:List Src} {us us':List V},DrV X.K H i ls us->DrV X.K H i ls us'->us=us'
 | [],_,_,d,d'=>by cases d;cases d';rfl
 | sr::ls,_,_,d,d'=>by
  cases d with
  | cons hq hx t=>
   cases d' with
   | cons hq' hx' t'=>
    have e:=Src.sq.inj I hq hq';subst e;rw [hx] at hx';cases hx';rw [DrV.inj I t t']
theorem DrV.drw (I:Inv X v8 σ H s) :∀{l:List (Src×xQ)} {us:List V},DrV X.K H i (l.map (·.1)) us->(∀q∈l,q.1.it s.heap q.2 i)->∃ws,Drw s.heap i l ws/\Vals us ws
 | [],us,d,h=>by cases d;exact ⟨[],.nil,.nil⟩
 | (sr,p)::l,us,d,h=>by
  cases d with
  | cons hq hx t=>
   obtain ⟨its,rv,hv,hz⟩:=Src.sq.val I hq;obtain ⟨u,hu,ru⟩:=rv.get hx;obtain ⟨ws,d',r'⟩:=DrV.drw I t λq hq=>h q (zZ _ hq)
   exact ⟨u::ws,.cons (h (sr,p) zX) hv (by simpa using hu) d',.cons ru r'⟩
theorem StV.drw (I:Inv X v8 σ H s) :∀{l:List (Src×xQ)},StV X.K H i (l.map (·.1))->(∀q∈l,q.1.it s.heap q.2 i)->DrwE s.heap i l
 | [],d,h=>by cases d
 | (sr,p)::l,d,h=>by
  cases d with
  | here hq hx=>
   obtain ⟨its,rv,hv,hz⟩:=Src.sq.val I hq;have hl:=rv.length;exact .here (h (sr,p) zX) hv (by simp;lia)
  | there hq hx t=>
   obtain ⟨its,rv,hv,hz⟩:=Src.sq.val I hq;obtain ⟨u,hu,ru⟩:=rv.get hx;exact .there (h (sr,p) zX) hv (by simpa using hu) (StV.drw I t λq hq=>h q (zZ _ hq))
end
theorem ZNW {P:xW} {x1} {pos:Pos} (l:List (Src×xQ)) (z TI TO:xQ) (a:ApZ TO l) (zz:z≠TO/\(∀q∈l,q.2≠z/\q.1.adr≠z)) (tt:TI≠z/\TI≠TO/\∀q∈l,q.2≠TI) (hsz:l.length<=1000000) (hne:l≠ []):
  Turn P w K (.Tuple elts x1 pos) (Itz K (l.map (·.1))) (z::TI::TO::l.map (·.2)) z
   (λi h=>IsZip h z TI TO .none/\Tp h TI (l.map λq=>Value.ref q.2)/\(∃os,Tp h TO os/\os.length=l.length)/\∀q∈l,q.1.it h q.2 i) where
 mem:=by simp
 obj:=λi h st b hb=>by
  obtain ⟨hz,hTI,⟨os,hTO,_⟩,hi⟩:=st;rcases zK.mp hb with rfl | hb
  ·exact ⟨_,hz,λv z=>by cases z⟩
  ·rcases zK.mp hb with rfl | hb
   ·exact ⟨_,hTI,λv z=>by cases z⟩
   ·rcases zK.mp hb with rfl | hb
    ·exact ⟨_,hTO,λv z=>by cases z⟩
    ·obtain ⟨q,hq,rfl⟩:=zG.mp hb;obtain ⟨o,ho,_,hd⟩:=hi q hq;exact ⟨o,ho,λv z=>by rw [hd] at z;cases z⟩
 keep:=λi h h' st k=>by obtain ⟨hz,hTI,⟨os,hTO,ho⟩,hi⟩:=st;exact ⟨k z (by simp) _ hz,k TI (by simp) _ hTI,⟨os,k TO (by simp) _ hTO,ho⟩,λq hq=>(hi q hq).at λo e=>k q.2 (by simp only [zK];exact .inr (.inr (.inr (zG.mpr ⟨q,hq,rfl⟩)))) o e⟩
 item:=by
  intro X hP hw hK hc i v8 s σ H E I hf st hg;subst hP hw hK;obtain ⟨us,dv⟩:=hg;obtain ⟨hz,hTI,⟨os,hTO,ho⟩,hi⟩:=st;obtain ⟨ws,dw,rv⟩:=DrV.drw I dv hi;refine ZLn hz hTI hTO ho hsz hne a zz dw λh1 z1 t1 i1 p1 s1 k1=>⟨_,rfl,?_⟩
  refine wpAny_letOwnedTupleGo_zip (s:={s with heap:=h1}) z1 λh2 z2 sb=> ?_
  have hpz:s.heap.objs.size≠z:=jJ (zk hz);have hul:us.length<=sizeLine:=by rw [dv.length,qW];exact zD hsz size6
  have I2:Inv X v8 σ (upd H s.heap.objs.size (.tup us)) {s with heap:=h2}:=
   ZJ4 (t':=s.toks) (fp:=z::TI::TO::l.map (·.2)) (its:=ws) I (λb o hb q=>by simp only [zK,not_or] at hb;exact sb.extBut b o hb.1 (k1 b o hb.1 hb.2.2.1 hb.2.2.2 q)) hf (zW _) hul rv (sb.extBut _ _ hpz p1)
  have hfr:H s.heap.objs.size=none:=I.hok.fresh (zW _)
  have up:∀b o,b≠z->b≠TO->b ∉ l.map (·.2)->s.heap.get? b=some o->h2.get? b=some o:=λb o b1 b2 b3 q=>sb.extBut b o b1 (k1 b o b1 b2 b3 q)
  refine ⟨.ref s.heap.objs.size,_,I2,rfl,⟨_,us,rfl,hfr,rfl,λus' d'=>DrV.inj I d' dv⟩,⟨z2,up TI _ tt.1 tt.2.1 (λhm=> ?_) hTI,⟨ws,sb.extBut _ _ (Ne.symm zz.1) t1,dw.length⟩,λq hq=>(i1 q hq).at λo e=>sb.extBut _ _ (zz.2 q hq).1 e⟩,λb hb=> ?_⟩
  ·obtain ⟨q,hq,e⟩:=zG.mp hm;exact tt.2.2 q hq e
  ·rw [Bd (λe=> ?_)]
   ·exact (hf b hb).1
   ·have lt:b < s.heap.objs.size:=by
     rcases zK.mp hb with rfl | hb
     ·exact zk hz
     ·rcases zK.mp hb with rfl | hb
      ·exact zk hTI
      ·rcases zK.mp hb with rfl | hb
       ·exact zk hTO
       ·obtain ⟨q,hq,rfl⟩:=zG.mp hb;exact (hi q hq).lt
    rw [e] at lt;exact qX _ lt
 done:=by
  intro X hP hw hK hc i v8 s σ H E I hf st hg;subst hP hw hK;obtain ⟨hz,hTI,⟨os,hTO,ho⟩,hi⟩:=st;have dw:=StV.drw I hg hi;refine ZOh (I.ok.hd hc) hz hTI hTO ho hsz hne a zz dw λh1 k1=>⟨rfl,?_⟩
  exact ZBe (t':=s.toks) (fp:=z::TI::TO::l.map (·.2)) I (λb o hb q=>by simp only [zK,not_or] at hb;exact k1 b o hb.1 hb.2.2.1 hb.2.2.2 q) hf
 self:=λ_ _ _ _ _ st h=>wpAny_pyIter_zip st.1 h
noncomputable def Ie (G:DH) (j:Nat):List D->Option (Option (List D))
 | []=>some (some [])
 | d::r=>match By d G with
  | none=>none
  | some xs=>match xs[j]? with
   | none=>some none
   | some x=>match Ie G j r with
    | some (some ys)=>some (some (x::ys))
    | o=>o
noncomputable def Gz (ds:List D) (j:Nat) (G:DH):Option (Option D):=(Ie G j ds).map λo=>o.map D.tup
def lenOf (G:DH) (d:D):Nat:=match By d G with
 | some xs=>xs.length
 | none=>0
def Km (G:DH) (d:D):Bool:=(By d G).isSome
noncomputable def Gb (n:Int) (d:D) (j:Nat) (G:DH):Option (Option D):=match By d G with
 | none=>none
 | some xs=>some (xs[j]?.map λx=>.tup [.int (n + j),x])
noncomputable def Jf (ds:List D) (G:DH):R ItD:=match ds with
 | [d]=>if Km G d=true then .ok (.fn (lenOf G d) (Gb 0 d)) G else .bad
 | _=>.bad
noncomputable def I9 (n:Nat) (ds:List D) (G:DH):R ItD:=if ds.all (Km G)=true/\ds.length=n then .ok (.fn (lenOf G (ds.headD .non)) (Gz ds)) G else .bad
section
variable {X:Cx} {E:XK}
theorem ZIJ {G:DH} {d:D} {v:V} {xs:List D} (s:Sim a G) (r:Rep a d v) (h:By d G=some xs):
  ∃sr:Src,v=.ref sr.adr/\(∃vs,sr.sq a.K a.H vs)/\∀b:Wd,Ext a b->∀G',Sim b G'->∀ys,By d G'=some ys->∃us,sr.sq b.K b.H us/\Reps b ys us:=by
 cases d with
 | tup ds=>
  obtain ⟨p,vs,rfl,hq,rv⟩:=r;refine ⟨.t p,rfl,⟨vs,hq⟩,λb x G' s' ys hy=> ?_⟩
  cases (show some ds=some ys from hy)
  exact ⟨vs,x.sqT hq,rv.mono x⟩
 | fl ds=>
  obtain ⟨p,vs,rfl,hq,rv⟩:=r;refine ⟨.l p,rfl,⟨vs,hq.sq⟩,λb x G' s' ys hy=> ?_⟩
  cases (show some ds=some ys from hy)
  exact ⟨vs,(x.fzL hq).sq,rv.mono x⟩
 | ref i=>
  obtain ⟨hi,rfl⟩:=r;have hx:∃zs,G[i]? =some (.lst zs):=by
   unfold By at h;dsimp only at h;split at h
   ·rename_i zs hz;exact ⟨zs,hz⟩
   ·cases h
  obtain ⟨zs,hz⟩:=hx;obtain ⟨vs,e1,_⟩:=s.lst hz;refine ⟨.l (a.m i),rfl,⟨vs,.of e1⟩,λb x G' s' ys hy=> ?_⟩;unfold By at hy;dsimp only at hy;split at hy
  ·rename_i zs' hz';cases hy;obtain ⟨us,e2,r2⟩:=s'.lst hz';rw [x.m i hi] at e2;exact ⟨us,.of e2,r2⟩
  ·cases hy
 | _=>cases h
theorem ZKO {G:DH} {d:D} {v:V} (hk:a.K=X.K) (rd:∀b:Wd,Ext a b->∀G',Sim b G'->∀ys,By d G'=some ys->∃us,sr.sq b.K b.H us/\Reps b ys us) (n:Nat):RepI a (.fn n (Gb 0 d)) (Ite X.K sr 0):=by
 intro b x G' s' i;have kb:b.K=X.K:=x.k.trans hk;constructor
 ·intro e he;unfold Gb at he;split at he
  ·cases he
  ·rename_i ys hy;obtain ⟨us,hq,ru⟩:=rd b x G' s' ys hy;rw [kb] at hq;cases hyi:ys[i]? with
   | none=>rw [hyi] at he;cases he
   | some y=>
    rw [hyi] at he;have he':D.tup [.int (0 + i),y]=e:=by simpa using he
    subst he';obtain ⟨u,hu,rx⟩:=ru.get hyi;refine ⟨⟨us,u,hq,hu⟩,?_⟩;rintro w H' ⟨p,u',rfl,hp,rfl,hu'⟩;refine ⟨b.put p (.tup [.int (0 + i),u']),rfl,Ext.put hp,s'.put hp,p,_,rfl,.of Ha,?_⟩;have e1:=hu' us hq;rw [hu] at e1;cases e1;exact ⟨_,_,rfl,rfl,Reps.cons (rx.mono (Ext.put hp)) rfl⟩
 ·intro he;unfold Gb at he;split at he
  ·cases he
  ·rename_i ys hy;obtain ⟨us,hq,ru⟩:=rd b x G' s' ys hy;rw [kb] at hq;cases hyi:ys[i]? with
   | none=>exact ⟨us,hq,by rw [<-ru.length];exact jY.mp hyi⟩
   | some y=>rw [hyi] at he;cases he
theorem Uk {elts:List xJ} {x1} {tp:Pos} {e:xJ} {p pos:Pos} (hg:Gl X "enumerate") (hm:X.mg "enumerate"=none) (ha:QA X E [e] ta) (hs:vQ [e] X.env= [(false,eval e X.env)]:=by rfl):
  QI X E (.Tuple elts x1 tp) (.Call (.Name "enumerate" p) [e] [] pos) (Dg Jf ta):=(ZKk hg hm ha hs).mono λσ H Q h=>by
 obtain ⟨a,S,G,hk,rfl,s,r,h⟩:=h;refine ⟨a,S,G,hk,rfl,s,r,(Ym h).imp ?_⟩;rintro vs _ ⟨b,ds,G1,rfl,x,s1,q,-,h1⟩;unfold Jf at h1;split at h1
 ·rename_i d;split at h1
  ·rename_i hok;obtain ⟨v,r,e1,q1,q2⟩:=q
   cases (show r= [] from q2)
   subst e1
   obtain ⟨xs,hx⟩:=qO.mp (show (By d G1).isSome=true from hok)
   obtain ⟨sr,rfl,⟨us,hq⟩,rd⟩:=ZIJ s1 q1 hx;have kb:b.K=X.K:=x.k.trans hk;exact ⟨sr,us,rfl,by rw [<-kb];exact hq,h1 b _ (Ext.refl b) s1 (ZKO (G:=G1) (v:=.non) kb rd _)⟩
  ·exact h1.elim
 ·exact h1.elim
theorem ZHv {G:DH} (s:Sim a G):∀{ds:List D} {vs:List V},Reps a ds vs->ds.all (Km G)=true->∃ls:List Src,vs=ls.map (λsr=>V.ref sr.adr)/\(∀sr∈ls,∃us,sr.sq a.K a.H us)/\
   ∀b:Wd,Ext a b->∀G',Sim b G'->∀i,(∀ys,Ie G' i ds=some (some ys)->∃us,DrV b.K b.H i ls us/\Reps b ys us)/\(Ie G' i ds=some none->StV b.K b.H i ls)
 | [],vs,r,_=>by
  cases (show vs= [] from r)
  refine ⟨[],rfl,(λ_ h=>nomatch h),λb x G' s' i=>⟨λys h=> ?_,λh=> ?_⟩⟩
  ·cases h;exact ⟨[],.nil,rfl⟩
  ·cases h
 | d::ds,vs,r,h=>by
  rw [qL,zC] at h;obtain ⟨v,vr,rfl,q1,q2⟩:=r
  obtain ⟨xs,hx⟩:=qO.mp (show (By d G).isSome=true from h.1)
  obtain ⟨sr,rfl,hq,rd⟩:=ZIJ s q1 hx;obtain ⟨ls,rfl,hqs,rds⟩:=ZHv s q2 h.2;refine ⟨sr::ls,rfl,λsr' hm=> ?_,λb x G' s' i=>⟨λys hy=> ?_,λhy=> ?_⟩⟩
  ·rcases zK.mp hm with rfl | hm
   ·exact hq
   ·exact hqs sr' hm
  ·unfold Ie at hy;split at hy
   ·cases hy
   ·rename_i zs hz;obtain ⟨us,hu,ru⟩:=rd b x G' s' zs hz;split at hy
    ·cases hy
    ·rename_i y hyi;obtain ⟨u,hui,rx⟩:=ru.get hyi;split at hy
     ·rename_i ys' hys;cases hy;obtain ⟨us',d',r'⟩:=(rds b x G' s' i).1 ys' hys;exact ⟨u::us',.cons hu hui d',Reps.cons rx r'⟩
     ·rename_i hno;exact absurd hy (hno _)
  ·unfold Ie at hy;split at hy
   ·cases hy
   ·rename_i zs hz;obtain ⟨us,hu,ru⟩:=rd b x G' s' zs hz;split at hy
    ·rename_i hyi;exact .here hu (by rw [<-ru.length];exact jY.mp hyi)
    ·rename_i y hyi;obtain ⟨u,hui,rx⟩:=ru.get hyi;split at hy
     ·cases hy
     ·exact .there hu hui ((rds b x G' s' i).2 hy)
theorem ZKa {ds:List D} (hk:a.K=X.K) (rd:∀b:Wd,Ext a b->∀G',Sim b G'->∀i,(∀ys,Ie G' i ds=some (some ys)->∃us,DrV b.K b.H i ls us/\Reps b ys us)/\(Ie G' i ds=some none->StV b.K b.H i ls)) (n:Nat):
  RepI a (.fn n (Gz ds)) (Itz X.K ls):=by
 intro b x G' s' i;have kb:b.K=X.K:=x.k.trans hk;constructor
 ·intro e he;unfold Gz at he;cases hz:Ie G' i ds with
  | none=>rw [hz] at he;cases he
  | some o=>
   cases o with
   | none=>rw [hz] at he;cases he
   | some ys=>
    rw [hz] at he;have he':D.tup ys=e:=by simpa using he
    subst he';obtain ⟨us,d,ru⟩:=(rd b x G' s' i).1 ys hz;rw [kb] at d;refine ⟨⟨us,d⟩,?_⟩;rintro w H' ⟨p,us',rfl,hp,rfl,hu'⟩;cases hu' us d;exact ⟨b.put p (.tup us),rfl,Ext.put hp,s'.put hp,p,us,rfl,.of Ha,ru.mono (Ext.put hp)⟩
 ·intro he;unfold Gz at he;cases hz:Ie G' i ds with
  | none=>rw [hz] at he;cases he
  | some o=>
   cases o with
   | none=>
    have:=(rd b x G' s' i).2 hz;rw [kb] at this;exact this
   | some ys=>rw [hz] at he;cases he
noncomputable def ZCi (n:Nat) (K:PySem.W.Frag) (ta:TA):TI:=λσ H R=>ta σ H λvs H1=>∃ls:List Src,vs=ls.map (λsr=>V.ref sr.adr)/\(∀sr∈ls,∃us,sr.sq K H1 us)/\ls.length=n/\R (Itz K ls) H1
theorem ZDc:∀{ls:List Src} {us:List xz},Vals (ls.map λsr=>V.ref sr.adr) us->us=ls.map λsr=>Value.ref sr.adr
 | [],us,h=>by cases h;rfl
 | sr::ls,us,h=>by
  rw [zA] at h;cases h with
  | cons r rr=>
   cases r;rw [ZDc rr]
   rfl
theorem Vp {n:Nat} {q:Src×Nat} (h:q∈ls.zipIdx n):q.1∈ls/\n<=q.2/\q.2 < n + ls.length:=by obtain ⟨i,hi,rfl⟩:=qD h;simp only [List.length_zipIdx] at hi;simp only [List.getElem_zipIdx];exact ⟨qz hi,by lia,by lia⟩
theorem ZEo {x1} {tp:Pos} {R:It->Hp->Prop} (I:Inv X v8 σ H s) (hq:∀sr∈ls,∃us,sr.sq X.K H us) (hne:ls≠ []) (hl:ls.length<=1000000)
  (hct:checkTypeCall "zip" ⟨ls.map λsr=>Value.ref sr.adr,[]⟩=pure ()) (hcn:checkBuiltinCall "zip.__new__" ⟨.type "zip"::ls.map λsr=>Value.ref sr.adr,[]⟩=pure ()) (hok:∀obj,argsOk "object.__init__" ⟨obj::ls.map λsr=>Value.ref sr.adr,[]⟩)
  (q:R (Itz X.K ls) H):vJ (xR X.prog X.w) X.A (call (.type "zip") (ls.map λsr=>Value.ref sr.adr)) (λv s1=>vJ (xR X.prog X.w) X.A (pyIter v) (PIE X v8 σ (.Tuple elts x1 tp) R) X.xe s1) X.xe s:=by
 have hv:∀sr∈ls,∃xs,sr.val s.heap xs:=λsr hm=>by obtain ⟨us,h⟩:=hq sr hm;obtain ⟨its,_,h',_⟩:=Src.sq.val I h;exact ⟨_,h'⟩
 have hlt:∀sr∈ls,sr.adr < s.heap.objs.size:=λsr hm=>by obtain ⟨xs,h⟩:=hv sr hm;obtain ⟨o,n,ho,_⟩:=h.obj;exact zk ho
 refine ZNG hv hl hct hcn hok λh' n hn hz hTI hTO hi kp=> ?_
 refine wpAny_pyIter_zip hz ?_;have I2:Inv X v8 σ H {s with heap:=h'}:=I.kept (t':=s.toks) kp
 have em:(ls.zipIdx s.heap.objs.size).map (·.1)=ls:=by refine q8 (by simp) λi h1 h2=>by simp
 have e2:(ls.zipIdx s.heap.objs.size).map (·.2)=List.range' s.heap.objs.size ls.length:=by refine q8 (by simp) λi h1 h2=>by simp [Nat.add_comm]
 have qb:∀q∈ls.zipIdx s.heap.objs.size,q.1.adr < s.heap.objs.size/\s.heap.objs.size<=q.2/\q.2 < n:=λq hm=>⟨hlt _ (Vp hm).1,(Vp hm).2.1,by rw [hn];exact (Vp hm).2.2⟩
 have hsn:s.heap.objs.size<=n:=by rw [hn];exact jS _ _
 have ap:ApZ (n + 1) (ls.zipIdx s.heap.objs.size):=⟨by rw [e2];exact List.nodup_range',λq hm=>zE (zq (qb q hm).1 (Nat.le_succ_of_le hsn)),λq hm r hr=>zE (zq (qb q hm).1 (qb r hr).2.1),λq hm=>zE (qF (qb q hm).2.2)⟩;have T:=ZNW (P:=X.prog) (w:=X.w) (K:=X.K) (elts:=elts) (x1:=x1) (pos:=tp) (ls.zipIdx s.heap.objs.size) (n + 2) n (n + 1) ap ⟨Nat.succ_ne_self (n + 1),λq hm=>⟨zE (zq (qb q hm).2.2 (jS n 2)),zE (zq (qb q hm).1 (zD hsn (jS n 2)))⟩⟩
  ⟨zE (Nat.lt_add_of_pos_right (by decide)),zE (qq n),λq hm=>zE (qb q hm).2.2⟩ (by simpa using hl) (by intro e;apply hne;rw [<-em,e];rfl)
 rw [em] at T;refine ⟨n + 2,_,_,_,H,rfl,I2,T,⟨hz,hTI,⟨_,hTO,by simp⟩,hi⟩,λb hb=> ?_,q⟩;have hle:s.heap.objs.size<=b:=by
  rcases zK.mp hb with rfl | hb
  ·exact zD hsn (jS n 2)
  ·rcases zK.mp hb with rfl | hb
   ·exact hsn
   ·rcases zK.mp hb with rfl | hb
    ·exact Nat.le_succ_of_le hsn
    ·obtain ⟨q,hq,rfl⟩:=zG.mp hb;exact (Vp hq).2.1
 exact I.Lh hle (I.hok.fresh hle)
theorem ZK5 (a b c:xz):checkTypeCall "zip" ⟨[a,b,c],[]⟩=pure ():=by kernel_rfl
theorem ZPc (a b c:xz):checkBuiltinCall "zip.__new__" ⟨[.type "zip",a,b,c],[]⟩=pure ():=by kernel_rfl
theorem ZQu (a b c d:xz):argsOk "object.__init__" ⟨[a,b,c,d],[]⟩:=by unfold argsOk;rw [signature?_of (id:="object.__init__") (n:= ['_','_','t','i','n','i','_','_']) (o:= ['t','c','e','j','b','o']) (by kernel_rfl) PySem.F.owner_object];kernel_rfl
theorem ZM5 {elts:List xJ} {x1} {tp:Pos} {a b:xJ} {ta:TA} {p pos:Pos} (hg:Gl X "zip") (hm:X.mg "zip"=none) (ha:PA X [a,b] ta) (hs:vQ [a,b] X.env= [(false,eval a X.env),(false,eval b X.env)]:=by rfl) (hs2:vQ [b] X.env= [(false,eval b X.env)]:=by rfl):
  PI X (.Tuple elts x1 tp) (.Call (.Name "zip" p) [a,b] [] pos) (ZCi 2 X.K ta):=by
 intro v8 s σ H R I h;refine Call_ (Kg I hg hm PyProof.Rows.boot_zip (PyProof.Rows.callWith_type1 (thn (ha pos v8 s σ H _ I h) λus s1 ⟨vs,H1,I1,r1,q1⟩=> ?_) (by rw [hs,hs2]) (by rw [hs2];rfl)));obtain ⟨ls,rfl,hq,hl,q⟩:=q1;cases ZDc r1
 match ls,hl with
 | [x,y],_=>exact ZEo I1 hq (by simp) (by simp) (PySem.F.typeCall_zip_2 _ _) (PySem.F.newCall_zip_2 _ _) (λobj=>PySem.F.args_object_init_3 obj _ _) q
theorem ZQR {elts:List xJ} {x1} {tp:Pos} {a b c:xJ} {ta:TA} {p pos:Pos} (hg:Gl X "zip") (hm:X.mg "zip"=none) (ha:PA X [a,b,c] ta) (hs:vQ [a,b,c] X.env= [(false,eval a X.env),(false,eval b X.env),(false,eval c X.env)]:=by rfl)
  (hs2:vQ [b,c] X.env= [(false,eval b X.env),(false,eval c X.env)]:=by rfl):PI X (.Tuple elts x1 tp) (.Call (.Name "zip" p) [a,b,c] [] pos) (ZCi 3 X.K ta):=by
 intro v8 s σ H R I h;refine Call_ (Kg I hg hm PyProof.Rows.boot_zip (PyProof.Rows.callWith_type1 (thn (ha pos v8 s σ H _ I h) λus s1 ⟨vs,H1,I1,r1,q1⟩=> ?_) (by rw [hs,hs2]) (by rw [hs2];rfl)));obtain ⟨ls,rfl,hq,hl,q⟩:=q1;cases ZDc r1
 match ls,hl with
 | [x,y,z],_=>exact ZEo I1 hq (by simp) (by simp) (ZK5 _ _ _) (ZPc _ _ _) (λobj=>ZQu obj _ _ _) q
theorem ZHt {n:Nat} {Q:It->Hp->Prop} (hK:K=X.K) (h:lI K E (Dg (I9 n) ta) σ H Q):ZCi n K (lA K E ta) σ H Q:=by
 subst hK;obtain ⟨a,S,G,hk,rfl,s,r,h⟩:=h;refine ⟨a,S,G,hk,rfl,s,r,(Ym h).imp ?_⟩;rintro vs _ ⟨b,ds,G1,rfl,x,s1,q,-,h1⟩;unfold I9 at h1;split at h1
 ·rename_i hok;obtain ⟨ls,e,hq,rd⟩:=ZHv s1 q hok.1;have kb:b.K=X.K:=x.k.trans hk;have hl:ls.length=n:=by have:=q.length;rw [e,qW] at this;lia
  exact ⟨ls,e,λsr hm=>by rw [<-kb];exact hq sr hm,hl,h1 b _ (Ext.refl b) s1 (ZKa kb rd _)⟩
 ·exact h1.elim
theorem ZBY {elts:List xJ} {x1} {tp:Pos} {a b:xJ} {p pos:Pos} (hg:Gl X "zip") (hm:X.mg "zip"=none) (ha:QA X E [a,b] ta) (hs:vQ [a,b] X.env= [(false,eval a X.env),(false,eval b X.env)]:=by rfl) (hs2:vQ [b] X.env= [(false,eval b X.env)]:=by rfl):
  QI X E (.Tuple elts x1 tp) (.Call (.Name "zip" p) [a,b] [] pos) (Dg (I9 2) ta):=(ZM5 hg hm ha hs hs2).mono λσ H Q h=>ZHt rfl h
theorem ZRU {elts:List xJ} {x1} {tp:Pos} {a b c:xJ} {p pos:Pos} (hg:Gl X "zip") (hm:X.mg "zip"=none) (ha:QA X E [a,b,c] ta) (hs:vQ [a,b,c] X.env= [(false,eval a X.env),(false,eval b X.env),(false,eval c X.env)]:=by rfl)
  (hs2:vQ [b,c] X.env= [(false,eval b X.env),(false,eval c X.env)]:=by rfl):QI X E (.Tuple elts x1 tp) (.Call (.Name "zip" p) [a,b,c] [] pos) (Dg (I9 3) ta):=(ZQR hg hm ha hs hs2).mono λσ H Q h=>ZHt rfl h
end
noncomputable def ixL:D->D->DH->R D
 | .ref p,.int k,G=>match G[p]? with
  | some (.lst xs)=>match atI xs k with
   | some v=>.ok v G
   | none=>.bad
  | _=>.bad
 | _,_,_=>.bad
noncomputable def Ri (to ti te:DE) (f:D->D->DH->R D):DS:=λS G=>(to S G).toS λo G1=>(ti S G1).toS λi G2=>(ixL o i G2).toS λx G3=>(te S G3).toS λy G4=>(f x y G4).toS λz G5=>(M6 o i z G5).toS λ_ G6=>.nx S G6
def sBad:DS:=λ_ _=>.bad
section
variable {X:Cx} {E:XK}
theorem ZO7 {st:xq}:QS X E st sBad:=λv8 s σ H W I h=>by obtain ⟨a,S,G,hk,rfl,sm,r,h⟩:=h;exact h.elim
theorem Xf {o i e:xJ} {op:Operator} {to ti te:DE} {f:D->D->DH->R D} {tpos pos:Pos} (ho:QE X E o to) (hi:QE X E i ti) (he:QE X E e te) (hop:OpR X (inplaceOp op) (lR2 X.K E f))
  (ha:∀ov iv new,augStore i ov iv new=(do holding [new,ov,iv] (setItem ov iv new);release [new,ov,iv] [];pure .next):=by intros;rfl):QS X E (.AugAssign (.Subscript o i tpos) op e pos) (Ri to ti te f):=by
 intro v8 s σ H W I h;obtain ⟨a,S,G,hk,rfl,sm,r,h⟩:=h;refine wpAny_AugAssign_SubscriptAny (thn (ho v8 s σ a.H _ I ⟨a,S,G,hk,rfl,sm,r,Iz h⟩) ?_) ha;rintro ov s1 ⟨vo,H1,I1,ro,b1,o,G1,rfl,x1,m1,q1,_,h1⟩;have k1:=x1.k.trans hk;refine thn (hi v8 s1 σ b1.H _ I1 ⟨b1,S,G1,k1,rfl,m1,r.mono x1,Iz h1⟩) ?_;rintro iv s2 ⟨vi,H2,I2,ri,b2,i,G2,rfl,x2,m2,q2,_,h2⟩;have k2:=x2.k.trans k1;have q1':=q1.mono x2;cases i with
 | int k=>
  cases o with
  | ref p=>
   obtain ⟨hp,rfl⟩:=q1'
   cases (show vi=V.int k from q2)
   cases ro;obtain ⟨t,rfl⟩:=ri;unfold ixL at h2;dsimp only at h2;split at h2
   ·rename_i xs hx';obtain ⟨vs,e1,r1⟩:=m2.lst hx';split at h2
    ·rename_i d hd;obtain ⟨v,ev,rd⟩:=ZG8 r1 hd;have h2':Di E b2 ((te S G2).toS λy G4=>(f d y G4).toS λz G5=>(M6 (.ref p) (.int k) z G5).toS λ_ G6=>.nx S G6) W:=h2;obtain ⟨its,rv,pl,hz⟩:=I2.list (.of e1);obtain ⟨j,g1,g2,g3,g4,g5⟩:=Yu ev;obtain ⟨w,ew,rw'⟩:=rv.get g2;have hl:=rv.length;have hn:=line63;have fin:vJ (xR X.prog X.w) X.A (getItem (.ref (b2.m p)) (.int k t)) (λold s3=>old=w/\s3=s2) X.xe s2:=by
      by_cases h0:0<=k
      ·have hj:k.toNat=j:=by rw [seqIndex_of h0 g5] at g1;exact Option.some.inj g1
       exact wpAny_getItem_list pl.isList h0 (by lia) (by rw [hj];simpa using ew) ⟨rfl,rfl⟩
      ·have hj:(k + (its.toArray.size:Int)).toNat=j:=by rw [seqIndex_neg (by lia) g4] at g1;rw [zY,<-hl];exact Option.some.inj g1
       exact wpAny_getItem_list_neg pl.isList (by lia) (by rw [zY] <;> lia) (by lia) (by rw [hj];simpa using ew) ⟨rfl,rfl⟩
     refine thn fin ?_;rintro old s3 ⟨rfl,rfl⟩;refine thn (he v8 s3 σ b2.H _ I2 ⟨b2,S,G2,k2,rfl,m2,(r.mono x1).mono x2,Iz h2'⟩) ?_;rintro yv s4 ⟨vy,H4,I4,ry,b4,y,G4,rfl,x4,m4,q4,_,h4⟩;have k4:=x4.k.trans k2;refine thn (hop v8 s4 σ b4.H v vy old yv _ I4 rw' ry ⟨b4,G4,d,y,k4,rfl,m4,rd.mono x4,q4,Iz h4⟩) ?_;rintro new s5 ⟨vn,H5,I5,rn,b5,z,G5,rfl,x5,m5,q5,_,h5⟩;unfold M6 at h5;dsimp only at h5;split at h5
     ·rename_i ys hy;split at h5
      ·rename_i jj hjj;obtain ⟨ws,e5,r5⟩:=m5.lst hy;have hp5:p < b5.n:=zq hp (zD x4.n x5.n);have em:b5.m p=b2.m p:=(x5.m p (zq hp x4.n)).trans (x4.m p hp);obtain ⟨x6,m6⟩:=ZB9 m5 hp5 e5 (r5.set q5 jj);refine thn (set_list v8 s5 σ b5.H (.ref (b2.m p)) (.int k) vn (.ref (b2.m p)) (.int k t) new (λH'=>W.nx σ H') I5 rfl ⟨t,rfl⟩ rn ⟨b5.m p,ws,k,jj,by rw [em],rfl,e5,by rw [<-r5.length];exact hjj,?_⟩) ?_
       ·exact h5 _ σ x6 m6 (((((r.mono x1).mono x2).mono x4).mono x5).mono x6)
       ·rintro _ s6 ⟨H6,I6,q6⟩;exact ⟨σ,H6,I6,q6⟩
      ·exact h5.elim
     ·exact h5.elim
    ·exact h2.elim
   ·exact h2.elim
  | _=>exact (show False from h2).elim
 | _=>cases o <;> exact (show False from h2).elim
end
noncomputable def Qt (ds:List D) (G:DH):R D:=match ds with
 | [d]=>match By d G with
  | some xs=>match Hg xs with
   | some (n::ns)=>.ok (.int (ns.foldl min n)) G
   | _=>.bad
  | none=>.bad
 | _=>.bad
noncomputable def Ro (ds:List D) (G:DH):R D:=match ds with
 | [d]=>match By d G with
  | some xs=>match Hg xs with
   | some (n::ns)=>.ok (.int (ns.foldl max n)) G
   | _=>.bad
  | none=>.bad
 | _=>.bad
theorem Z3:∀(ns:List Int) (n:Int),ns.foldl min n<=n/\(∀x∈ns,ns.foldl min n<=x)/\(ns.foldl min n=n∨ns.foldl min n∈ns)
 | [],n=>⟨qJ _,λx h=>(by cases h),.inl rfl⟩
 | m::ns,n=>by
  obtain ⟨h1,h2,h3⟩:=Z3 ns (min n m);rw [jV];refine ⟨by lia,λx hx=> ?_,?_⟩
  ·rcases zK.mp hx with rfl | hx
   ·lia
   ·exact h2 x hx
  ·rcases h3 with h | h
   ·by_cases e:n<=m
    ·exact .inl (by rw [h];lia)
    ·exact .inr (by rw [h];rw [show min n m=m by lia];exact zX)
   ·exact .inr (zZ _ h)
theorem ZF0:∀(ns:List Int) (n:Int),n<=ns.foldl max n/\(∀x∈ns,x<=ns.foldl max n)/\(ns.foldl max n=n∨ns.foldl max n∈ns)
 | [],n=>⟨qJ _,λx h=>(by cases h),.inl rfl⟩
 | m::ns,n=>by
  obtain ⟨h1,h2,h3⟩:=ZF0 ns (max n m);rw [jV];refine ⟨by lia,λx hx=> ?_,?_⟩
  ·rcases zK.mp hx with rfl | hx
   ·lia
   ·exact h2 x hx
  ·rcases h3 with h | h
   ·by_cases e:m<=n
    ·exact .inl (by rw [h];lia)
    ·exact .inr (by rw [h];rw [show max n m=m by lia];exact zX)
   ·exact .inr (zZ _ h)
section
variable {X:Cx} {E:XK}
theorem intAt {ns:List Int} {its:List xz} {w:xz} (hv:Vals (ns.map V.int) its) (hw:its.toArray[i]? =some w):i < ns.length/\∃t,w=.int (ns.getD i 0) t:=by
 have hw':its[i]? =some w:=by simpa using hw
 have hl:i < (ns.map V.int).length:=by rw [hv.length];exact (zF.mp hw').1
 have hl':i < ns.length:=by simpa using hl
 obtain ⟨u,hu,ru⟩:=hv.get (i:=i) (x:=V.int ns[i]) (by simp [hl']);rw [hw'] at hu;cases hu;obtain ⟨t,rfl⟩:=ru;exact ⟨hl',t,by simp [hl']⟩
theorem ZOf (hc:X.calm=true):CallR X (.builtin "min") (lRn X.K E Qt):=by
 intro v8 s σ H vs us Q I rs h;obtain ⟨a,G,ds,hk,rfl,sm,r,q⟩:=h;unfold Qt at q;split at q
 ·rename_i d;obtain ⟨v,rfl,rv⟩:=reps1 r;split at q
  ·rename_i xs hs;split at q
   ·rename_i n ns hn;cases Zn hn;obtain ⟨p,ws,rfl,h1,r1⟩:=Mh sm rv hs;cases ZBa r1;rw [hk] at h1;obtain ⟨u,rfl,ru⟩:=vals1 rs;cases ru;refine call_min_walk (ZDX I hc h1 λit fp wr its St s₂ hv W st hfp fin=>⟨it,fp,wr,its.toArray.size,_,St,_,rfl,W,st,hfp,?_,CmpOf.ints_lt (λi=>(n::ns).getD i 0) (λi w hw=>(intAt hv hw).2),λw h' tk hw kk=> ?_⟩)
    ·rw [zY,<-hv.length];simp
    ·obtain ⟨hl,t,rfl⟩:=intAt hv hw;obtain ⟨b1,b2⟩:=argBest_lt (λi=>(n::ns).getD i 0) (its.toArray.size - 1);refine ⟨.int (ns.foldl min n),a.H,fin h' tk kk,⟨t,?_⟩,q a _ (Ext.refl a) sm rfl⟩;have hsz:its.toArray.size=ns.length + 1:=by rw [zY,<-hv.length];simp
     obtain ⟨m1,m2,m3⟩:=Z3 ns n;have hle:∀x∈n::ns,ns.foldl min n<=x:=λx hx=>by
      rcases zK.mp hx with rfl | hx
      ·exact m1
      ·exact m2 x hx
     have hin:ns.foldl min n∈n::ns:=by
      rcases m3 with h | h
      ·rw [h];exact zX
      ·exact zZ _ h
     obtain ⟨j,hj,ej⟩:=qD hin;have c1:=b2 j (by simp at hj;lia);have c2:=hle _ (qz hl);have e1:(n::ns).getD j 0=ns.foldl min n:=by rw [zy,zQ hj];exact ej
     have e2:(n::ns).getD (argBest (λi j=>decide ((λi=>(n::ns).getD i 0) i < (λi=>(n::ns).getD i 0) j)) (its.toArray.size - 1)) 0=(n::ns)[argBest (λi j=>decide ((λi=>(n::ns).getD i 0) i < (λi=>(n::ns).getD i 0) j)) (its.toArray.size - 1)]:=by rw [zy,zQ hl];rfl
     have c1':=c1;rw [e1] at c1';rw [<-e2] at c2
     congr 1
     exact Int.le_antisymm c1' c2
   ·exact q.elim
  ·exact q.elim
 ·exact q.elim
theorem ZMh (hc:X.calm=true):CallR X (.builtin "max") (lRn X.K E Ro):=by
 intro v8 s σ H vs us Q I rs h;obtain ⟨a,G,ds,hk,rfl,sm,r,q⟩:=h;unfold Ro at q;split at q
 ·rename_i d;obtain ⟨v,rfl,rv⟩:=reps1 r;split at q
  ·rename_i xs hs;split at q
   ·rename_i n ns hn;cases Zn hn;obtain ⟨p,ws,rfl,h1,r1⟩:=Mh sm rv hs;cases ZBa r1;rw [hk] at h1;obtain ⟨u,rfl,ru⟩:=vals1 rs;cases ru;refine call_max_walk (ZDX I hc h1 λit fp wr its St s₂ hv W st hfp fin=>⟨it,fp,wr,its.toArray.size,_,St,_,rfl,W,st,hfp,?_,CmpOf.ints_gt (λi=>(n::ns).getD i 0) (λi w hw=>(intAt hv hw).2),λw h' tk hw kk=> ?_⟩)
    ·rw [zY,<-hv.length];simp
    ·obtain ⟨hl,t,rfl⟩:=intAt hv hw;obtain ⟨b1,b2⟩:=argBest_gt (λi=>(n::ns).getD i 0) (its.toArray.size - 1);refine ⟨.int (ns.foldl max n),a.H,fin h' tk kk,⟨t,?_⟩,q a _ (Ext.refl a) sm rfl⟩;have hsz:its.toArray.size=ns.length + 1:=by rw [zY,<-hv.length];simp
     obtain ⟨m1,m2,m3⟩:=ZF0 ns n;have hle:∀x∈n::ns,x<=ns.foldl max n:=λx hx=>by
      rcases zK.mp hx with rfl | hx
      ·exact m1
      ·exact m2 x hx
     have hin:ns.foldl max n∈n::ns:=by
      rcases m3 with h | h
      ·rw [h];exact zX
      ·exact zZ _ h
     obtain ⟨j,hj,ej⟩:=qD hin;have c1:=b2 j (by simp at hj;lia);have c2:=hle _ (qz hl);have e1:(n::ns).getD j 0=ns.foldl max n:=by rw [zy,zQ hj];exact ej
     have e2:(n::ns).getD (argBest (λi j=>decide ((λi=>(n::ns).getD i 0) i > (λi=>(n::ns).getD i 0) j)) (its.toArray.size - 1)) 0=(n::ns)[argBest (λi j=>decide ((λi=>(n::ns).getD i 0) i > (λi=>(n::ns).getD i 0) j)) (its.toArray.size - 1)]:=by rw [zy,zQ hl];rfl
     have c1':=c1;rw [e1] at c1';rw [<-e2] at c2
     congr 1
     exact Int.le_antisymm c2 c1'
   ·exact q.elim
  ·exact q.elim
 ·exact q.elim
noncomputable def Jt:D->D->DH->R D
 | .ref p,.int k,G=>match G[p]? with
  | some (.lst xs)=>if -(2 ^ 63)<=k/\k < 2 ^ 63/\xs.length * k.toNat<=1000000 then .ok (.ref G.length) (G++ [.lst (zV k.toNat xs).flatten]) else .bad
  | _=>.bad
 | _,_,_=>.bad
theorem Reps.rep {ds:List D} {vs:List V} (r:Reps a ds vs):∀k,Reps a (zV k ds).flatten (zV k vs).flatten
 | 0=>rfl
 | k + 1=>by rw [qZ,qZ,qC,qC];exact r.append (Reps.rep r k)
theorem ZAr:OpR X (xA .Mult) (lR2 X.K E Jt):=ZLu.mono λx y H Q h=>by
 obtain ⟨a,G,d,e,hk,rfl,s,rd,re,q⟩:=h;cases d with
 | ref p=>
  cases e with
  | int k=>
   unfold Jt at q;dsimp only at q;split at q
   ·rename_i xs hx;split at q
    ·rename_i hc;obtain ⟨vs,e1,r1⟩:=s.lst hx;obtain ⟨hp,rfl⟩:=rd;refine ⟨a.m p,k,vs,rfl,re,e1,hc.1,hc.2.1,?_,λp hp=>Mj s (Reps.rep r1 k.toNat) q p hp⟩;rw [<-r1.length];exact zD hc.2.2 size6
    ·exact q.elim
   ·exact q.elim
  | _=>exact (show False from q).elim
 | _=>exact (show False from q).elim
end
end DL
namespace DL
open PySem PySem.W PyProof.Rows
noncomputable def Safe (n:Nat) {α:Type} (P:α->Prop):KasT α->Prop
 | .ret a=>P a
 | .ask i j k=>i < n/\j < n/\∀b,Safe n P (k b)
theorem Safe.bind {n:Nat} {α β:Type} {f:α->KasT β} {P:α->Prop} {Q:β->Prop} (h2:∀a,P a->Safe n Q (f a)):∀{t:KasT α},Safe n P t->Safe n Q (t.bind f)
 | .ret a,h=>h2 a h
 | .ask _ _ _,h=>⟨h.1,h.2.1,λb=>Safe.bind h2 (h.2.2 b)⟩
def Ents (n:Nat) (p:Array Nat):Prop:=0 < n/\p.Perm (zj n).toArray
theorem Ents.lt {n:Nat} {p:Array Nat} (h:Ents n p) {x:Nat} (hx:x∈p):x < n:=by have:=h.2.mem_iff.mp hx;simpa using this
theorem Ents.pt {n:Nat} {p:Array Nat} (h:Ents n p) (k:Nat):p.getD k 0 < n:=by
 by_cases hk:k < p.size
 ·have:p.getD k 0=p[k]:=by simp [Array.getD,hk]
  rw [this];exact h.lt (Array.getElem_mem hk)
 ·have:p.getD k 0=0:=by simp [Array.getD,hk]
  rw [this];exact h.1
theorem Ents.perm {n:Nat} {p q:Array Nat} (h:Ents n p) (e:q.Perm p):Ents n q:=⟨h.1,e.trans h.2⟩
theorem ZCO {n:Nat} {p:Array Nat} (h:Ents n p):∀f m,Safe n (λ_=>True) (kas_asc p f m)
 | 0,m=>trivial
 | f + 1,m=>⟨h.pt _,h.pt _,λb=>by
   cases b with
   | true=>exact trivial
   | false=>exact ZCO h f (m + 1)⟩
theorem Y4 {n:Nat}:∀f {p:Array Nat} m q,Ents n p->Safe n (λr=>Ents n r.1) (kas_desc f p m q)
 | 0,p,m,q,h=>h
 | f + 1,p,m,q,h=>⟨h.pt _,h.pt _,λb=>by
   cases b with
   | true=>
    by_cases hq:q > 0
    ·simp only [if_true,if_pos hq];exact Y4 f _ _ (h.perm (mirror_perm ..))
    ·simp only [if_true,if_neg hq];exact Y4 f _ _ h
   | false=>
    refine ⟨h.pt _,h.pt _,λd=> ?_⟩;cases d with
    | true=>exact h
    | false=>exact Y4 f _ _ h⟩
theorem ZJD {n:Nat} {p:Array Nat} (h:Ents n p) (m k:Nat):Safe n (λr=>Ents n r.2) (kas_tail3 m k p):=by unfold kas_tail3;refine Safe.bind (P:=λ_=>True) (λa _=> ?_) (ZCO (h.perm (mirror_perm ..)) _ _);exact h.perm (mirror_perm ..)
theorem ZFs {n:Nat} {p:Array Nat} (h:Ents n p) (m k:Nat):Safe n (λr=>Ents n r.2) (kas_descPart m k p):=
 Safe.bind (P:=λr=>Ents n r.1) (λa ha=>by
  split
  ·exact ZJD (ha.perm (mirror_perm ..)) _ _
  ·exact ZJD ha _ _) (Y4 _ _ _ h)
theorem ZEK {n:Nat} {p:Array Nat} (h:Ents n p) (k:Nat):Safe n (λr=>Ents n r.2) (kas_count k p):=
 Safe.bind (P:=λ_=>True) (λa _=>by
  split
  ·exact h
  ·split
   ·refine ⟨h.pt _,h.pt _,λc=> ?_⟩;cases c with
    | true=>exact h
    | false=>exact ZFs (h.perm (mirror_perm ..)) _ _
   ·exact ZFs h _ _) (ZCO h _ _)
theorem Xd {n:Nat} {p:Array Nat} (h:Ents n p) (k:Nat):∀f l r,Safe n (λ_=>True) (kas_place p k f l r)
 | 0,l,r=>trivial
 | f + 1,l,r=>by
  unfold kas_place;split
  ·trivial
  ·refine ⟨h.pt _,h.pt _,λc=> ?_⟩;cases c with
   | true=>exact Xd h k f _ _
   | false=>exact Xd h k f _ _
theorem ZEw {n:Nat}:∀f {p:Array Nat} k,Ents n p->Safe n (λ_=>True) (kas_bin f p k)
 | 0,p,k,h=>trivial
 | f + 1,p,k,h=>Safe.bind (P:=λ_=>True) (λa _=>ZEw f _ (h.perm (bubble_perm ..))) (Xd h k _ _ _)
theorem ZRG {n:Nat} (hn:0 < n):Safe n (λ_=>True) (kas_sort n):=
 Safe.bind (P:=λr=>Ents n r.2) (λa ha=>by
  split
  ·exact ZEw _ _ ha
  ·trivial) (ZEK ⟨hn,Array.Perm.refl _⟩ _)
end DL
namespace DL
open PySem PySem.Spec L2
open PyProof.Rows hiding St
variable {a:Wd} {d:D} {v:V} {xs ys:List D} {G:DH} {vs:List V} {te:DE} {g:DG} {k:Nat} {us:List (Str×V)} {F:List D->DH->R D} {CX:CXT} {fd:xX} {ps:List Str} {e:xJ}
noncomputable def ltL:List D->List D->Option Bool
 | [],[]=>some false
 | [],_::_=>some true
 | _::_,[]=>some false
 | .int a::r,.int b::r'=>if a=b then ltL r r' else some (decide (a < b))
 | .str a::r,.str b::r'=>if a=b then ltL r r' else some (decide (a.cps.toList < b.cps.toList))
 | _::_,_::_=>none
def ltD:D->D->Option Bool
 | .tup xs,.tup ys=>ltL xs ys
 | _,_=>none
noncomputable def ltI (xs:List D) (i j:Nat):Bool:=(ltD (xs.getD i .non) (xs.getD j .non)).getD false
def isIt:D->Bool
 | .tup (.int _::_)=>true
 | _=>false
def W5:D->Bool
 | .tup (.str _::_)=>true
 | _=>false
noncomputable def Qq (xs:List D):Bool:=(xs.all isIt || xs.all W5) && xs.all λx=>xs.all λy=>(ltD x y).isSome
noncomputable def M8 (xs:List D):List D:=if xs.length < 2 then xs else (Cj (ltI xs) (PySem.W.kas_sort xs.length)).toList.map λi=>xs.getD i .non
noncomputable def Vj (ds:List D) (G:DH):R D:=match ds with
 | [d]=>match J7 d G with
  | some xs=>if (xs.length < 64/\(M8 xs).length < 64)/\Qq xs=true then .ok (.ref G.length) (G++ [.lst (M8 xs)]) else .bad
  | none=>.bad
 | _=>.bad
theorem ZIR {n:Nat} {cmp:Nat->Nat->(Bool->xY->Prop)->xY->Prop} {lt:Nat->Nat->Bool} {s:xY} (h:∀i j,i < n->j < n->∀C:Bool->xY->Prop,C (lt i j) s->cmp i j C s) {α:Type} {P:α->Prop} {Q:α->xY->Prop}:
  ∀{t:PySem.W.KasT α},Safe n P t->Q (Cj lt t) s->t.kasWp cmp Q s
 | .ret _,_,hq=>hq
 | .ask i j k,hs,hq=>h i j hs.1 hs.2.1 _ (ZIR h (hs.2.2 (lt i j)) hq)
section
variable {prog:xW} {w:xj} {A:xZ} {s:xY}
theorem ZLD {c:Bool} {a b:Int} {t u:Tok} {Q:Bool->xY->Prop} {E:xz->xY->Prop} (h:Q (decide (a < b)) s):vJ (xR prog w) A (oneLt' c (.int a t) (.int b u)) Q E s:=by
 cases c with
 | true=>exact oneLt_int h
 | false=>exact PySem.W.kat_one _ _ (lt_int (Q:=PySem.W.BoolBack Q) h)
theorem ZNE {c:Bool} {a b:Str} {t u:Tok} {Q:Bool->xY->Prop} {E:xz->xY->Prop} (h:Q (decide (a.cps.toList < b.cps.toList)) s):vJ (xR prog w) A (oneLt' c (.str a t) (.str b u)) Q E s:=by
 cases c with
 | true=>exact oneLt_str h
 | false=>exact PySem.W.kat_one _ _ (lt_str (Q:=PySem.W.BoolBack Q) h)
theorem ZBo {Q:Bool->xY->Prop} {fin:Bool}:∀{xs ys:List D} {vs ws:List V} {us zs:List xz} {i:Nat} {k:Bool},Reps a xs vs->Reps a ys ws->Vals vs us->Vals ws zs->ltL xs ys=some k->fin=decide (us.length < zs.length)->Q k s->
  PySem.W.KatLex prog w A true fin Q (us.zip zs) i s
 | [],[],vs,ws,us,zs,i,k,r1,r2,v1,v2,h,hf,hq=>by
  cases (show vs= [] from r1);cases (show ws= [] from r2);cases v1;cases v2
  cases h;subst hf;exact PySem.W.kat_nil hq
 | [],y::ys,vs,ws,us,zs,i,k,r1,r2,v1,v2,h,hf,hq=>by
  cases (show vs= [] from r1);cases v1
  obtain ⟨w1,wr,rfl,_,_⟩:=r2;cases v2;cases h;subst hf;exact PySem.W.kat_nil (by simpa using hq)
 | x::xs,[],vs,ws,us,zs,i,k,r1,r2,v1,v2,h,hf,hq=>by
  cases (show ws= [] from r2);cases v2
  obtain ⟨w1,wr,rfl,_,_⟩:=r1;cases v1;have hk:k=false:=by cases x <;> (simp [ltL] at h;exact h)
  subst hk;subst hf;exact PySem.W.kat_nil (by simpa using hq)
 | x::xs,y::ys,vs,ws,us,zs,i,k,r1,r2,v1,v2,h,hf,hq=>by
  have hcase:(∃m n,x=.int m/\y=.int n)∨(∃m n,x=.str m/\y=.str n):=by
   cases x <;> cases y <;> first
    | exact .inl ⟨_,_,rfl,rfl⟩
    | exact .inr ⟨_,_,rfl,rfl⟩
    | (exfalso;simp [ltL] at h)
  obtain ⟨v0,vr,rfl,e1,r1⟩:=r1;obtain ⟨w0,wr,rfl,e2,r2⟩:=r2;rcases hcase with ⟨m,n,rfl,rfl⟩ | ⟨m,n,rfl,rfl⟩
  ·cases (show v0=V.int m from e1)
   cases (show w0=V.int n from e2)
   cases v1 with
   | cons q1 v1=>
    cases v2 with
    | cons q2 v2=>
     obtain ⟨t,rfl⟩:=q1;obtain ⟨u,rfl⟩:=q2;rw [List.zip_cons_cons];refine PySem.W.kat_cons (wpAny_eqBool_int (PySem.W.kat_go (λhe=> ?_) λhe=> ?_))
     ·have e:m=n:=by simpa using he
      rw [show ltL (.int m::xs) (.int n::ys)=if m=n then ltL xs ys else some (decide (m < n)) from rfl,if_pos e] at h
      exact PySem.W.kat_yes (ZBo r1 r2 v1 v2 h (by simpa using hf) hq)
     ·have e:m≠n:=by simpa using he
      rw [show ltL (.int m::xs) (.int n::ys)=if m=n then ltL xs ys else some (decide (m < n)) from rfl,if_neg e] at h
      cases h;exact PySem.W.kat_no (ZLD hq)
  ·cases (show v0=V.str m from e1)
   cases (show w0=V.str n from e2)
   cases v1 with
   | cons q1 v1=>
    cases v2 with
    | cons q2 v2=>
     obtain ⟨t,rfl⟩:=q1;obtain ⟨u,rfl⟩:=q2;rw [List.zip_cons_cons];refine PySem.W.kat_cons (wpAny_eqBool_str (PySem.W.kat_go (λhe=> ?_) λhe=> ?_))
     ·have e:m=n:=by simpa using he
      rw [show ltL (.str m::xs) (.str n::ys)=if m=n then ltL xs ys else some (decide (m.cps.toList < n.cps.toList)) from rfl,if_pos e] at h
      exact PySem.W.kat_yes (ZBo r1 r2 v1 v2 h (by simpa using hf) hq)
     ·have e:m≠n:=by simpa using he
      rw [show ltL (.str m::xs) (.str n::ys)=if m=n then ltL xs ys else some (decide (m.cps.toList < n.cps.toList)) from rfl,if_neg e] at h
      cases h;exact PySem.W.kat_no (ZNE hq)
end
section
variable {X:Cx} {E:XK} {v8:List (xQ×Obj)} {σ:St} {s:xY} {H:Hp} {h':Heap}
theorem ZGS {t':Nat} (I:Inv X v8 σ H s) (k:∀b o,b≠X.env.locals->s.heap.get? b=some o->h'.get? b=some o) (ns:∀m,s.heap.Ns X.env.locals m->h'.Ns X.env.locals m):Inv X v8 σ H {s with heap:=h',toks:=t'}:=by
 refine I.step (g':=s.gens) (d':=s.drawn) (ch:= []) (λ_ z=>nomatch z) (λb o hL _ _ e _=>k b o hL e) (λb o hL _ _ e _=>⟨o.slots,k b o hL e⟩) (λ_ _ _ _ n=>n) (λb o _ e=> ?_) (λ_ _ e=>e) (λ_ _ _ e=>e)
  (λb ps e=>⟨#[],by rw [e];simp⟩) ns (λb u e=> ?_) I.bare
 ·by_cases hb:b=X.env.locals
  ·obtain ⟨m,hn,_⟩:=I.loc;obtain ⟨o',_,_,ho',_⟩:=ns m hn;exact ⟨o',by rw [hb];exact ho'⟩
  ·exact ⟨o,k b o hb e⟩
 ·have nL:∀c w,H c=some w->c≠X.env.locals:=λc w e z=>by rw [z,I.free] at e;cases e
  refine (I.hok b u e).stay (λc v hc q=>k c v ?_ q) (λ_ q=>q) λ_ _ q=>q
  rcases hc with z | z
  ·rw [z];exact nL b u e
  ·exact nL c _ z
end
section
variable {prog:xW} {w:xj} {A:xZ} {E:xz->xY->Prop} {s:xY}
theorem ZN5 {l:xQ} {vs:List xz} {Q:xz->xY->Prop} (hl:s.heap.IsList l vs.toArray) (hz:vs.length < 64)
  (h:∀h1,h1.get? (s.heap.objs.size + 1)=some (seqObj "list" vs.toArray 0)->(∀b o,s.heap.get? b=some o->h1.get? b=some o)->
   vJ (xR prog w) A.in1.in1 (Builtin.«list.sort» ⟨[.ref (s.heap.objs.size + 1)],[]⟩) (λfin s'=>fin=.done (.ret .none)/\Q (.ref (s.heap.objs.size + 1)) s') E {s with heap:=h1}):
  vJ (xR prog w) A (call (.builtin "sorted") [.ref l]) Q E s:=by
 have h64:vs.length<=sizeLine:=by rw [xT];lia
 refine Calls.call_function_entry kind_sorted plain_sorted entry_sorted (args_sorted1 _) ?_;unfold Builtin.«sorted»;refine vV (m:=checkCount "sorted" 1 1 _) (vv (vV (collect_list hl (vV (wpAny_newList ?_ h64)) h64)))
 generalize hh:(s.heap.push (seqObj "list" #[] 0)).update s.heap.objs.size (Obj.mapSeq (·++vs.toArray))=h0
 have e0:h0.objs.size=s.heap.objs.size + 1:=by rw [<-hh,Heap.size_update,size_push']
 have k0:∀b o,s.heap.get? b=some o->h0.get? b=some o:=λb o q=>by have hlt:b < s.heap.objs.size:=zk q;rw [<-hh,Heap.get?_update_ne _ _ _ _ (zE hlt),Heap.get?_push_ne _ _ _ (zE hlt)];exact q
 have hD:(h0.push (seqObj "list" vs.toArray 0)).get? (s.heap.objs.size + 1)=some (seqObj "list" vs.toArray 0):=by rw [<-e0];exact zB _ rfl
 have hq:=h (h0.push (seqObj "list" vs.toArray 0)) hD λb o q=>zJ _ (k0 b o q)
 show vJ _ _ _ _ _ {s with heap:=h0.push (seqObj "list" vs.toArray 0)};rw [e0];refine vV (vq (vK slot_list_sort ⟨_,hD,rfl⟩ entry_list_sort ?_ (args_list_sort _)));refine vz hq (λfin s' hf=> ?_) λ_ _ x=>x
 exact ⟨_,hf.1,vv ⟨_,rfl,hf.2⟩⟩
theorem ZOQ {a:xQ} {vs:List xz} {n:Nat} {P:Fin->xY->Prop} (ho:s.heap.get? a=some (seqObj "list" vs.toArray n)) (h2:vs.length < 2)
  (h:∀h' c,h'.get? a=some (seqObj "list" vs.toArray c)->(∀b o,b≠a->s.heap.get? b=some o->h'.get? b=some o)->P (.done (.ret .none)) {s with heap:=h'}):vJ (xR prog w) A (Builtin.«list.sort» ⟨[.ref a],[]⟩) P E s:=by
 have ha:a < s.heap.objs.size:=zk ho;have s1:=qA.update s.heap a (Obj.mapSeq λ_=>(#[]:Array xz));obtain ⟨e1,ho1⟩:∃e1,(s.heap.update a (Obj.mapSeq λ_=>(#[]:Array xz))).get? a=some (seqObj "list" #[] e1):=⟨_,get?_update_seq ho λ_=> #[]⟩;rw [list_sort_plain];refine vV (listItems_at ho rfl (vV (listUpdate_at ho rfl ?_ (by rw [zY,xT];lia) (jI _))))
 refine vV (seqEpoch_at ho1 rfl (vV (wpAny_newTuple (vV (wpAny_newList (vq ?_) (jI _))) (by show vs.length<=_;rw [xT];lia))));dsimp only;have hn2:vs.toArray.size < 2:=by rw [zY];lia
 rw [if_pos hn2,if_pos hn2];refine vV (vv (vV (wpAny_of_eq (a:=((),SortSt.mk' general' (vs.toArray.zip vs.toArray) #[] 7 none)) rfl ?_)));dsimp only
 have hout:(arrOf (SortSt.mk' general' (vs.toArray.zip vs.toArray) #[] 7 none)).map (·.2)=vs.toArray:=by
  show (vs.toArray.zip vs.toArray).map (·.2)=vs.toArray
  refine Array.ext (by simp) λi h1 h2=>by simp
 rw [hout];generalize hh:((s.heap.update a (Obj.mapSeq λ_=>(#[]:Array xz))).push {cls:=.type "tuple",data:=.seq vs.toArray.toList.toArray}).push {cls:=.type "list",data:=.seq ([]:List xz).toArray}=h3;have ho3:h3.get? a=some (seqObj "list" #[] e1):=by rw [<-hh];exact zJ _ (zJ _ ho1)
 have k3:∀b o,b≠a->s.heap.get? b=some o->h3.get? b=some o:=λb o hb q=>by rw [<-hh];exact zJ _ (zJ _ (s1.extBut b o hb q))
 refine vV (seqEpoch_at (o:=seqObj "list" #[] e1) ?_ rfl ?_)
 ·exact ho3
 have s2:=qA.update h3 a (Obj.mapSeq λ_=>vs.toArray);obtain ⟨c2,hc2⟩:∃c2,(h3.update a (Obj.mapSeq λ_=>vs.toArray)).get? a=some (seqObj "list" vs.toArray c2):=⟨_,get?_update_seq ho3 λ_=>vs.toArray⟩;refine vV (listUpdate_at ho3 rfl ?_ (jI _) (by show vs.toArray.size<=_;rw [zY,xT];lia));simp only [bne_self_eq_false,Bool.false_eq_true,if_false];exact vv (h _ c2 hc2 λb o hb q=>s2.extBut b o hb (k3 b o hb q))
end
theorem ZN9:xB "sorted"=some (.builtin "sorted"):=by decide +kernel
section
variable {X:Cx} {E:XK} {v8:List (xQ×Obj)} {σ:St} {s:xY} {H:Hp}
theorem Z7 (I:Inv X v8 σ a.H s) (hk:a.K=X.K) {u:xz} (r:Rep a d v) (ru:RelV v u) (h:d=.tup xs):∃p o vs us n,u=.ref p/\s.heap.get? p=some o/\o.cls=.type "tuple"/\o.data=.seq us n/\Vals vs us.toList/\Reps a xs vs:=by subst h;obtain ⟨p,vs,rfl,hq,rv⟩:=r;cases ru;rw [hk] at hq;obtain ⟨its,rr,⟨o,ho,hc,n,hd⟩,hz⟩:=I.tuple hq;exact ⟨p,o,vs,its.toArray,n,rfl,ho,hc,hd,by simpa using rr,rv⟩
theorem ZNl (h:isIt d=true):∃i r,d=.tup (.int i::r):=by
 unfold isIt at h;split at h
 ·exact ⟨_,_,rfl⟩
 ·cases h
theorem ZMA (h:W5 d=true):∃i r,d=.tup (.str i::r):=by
 unfold W5 at h;split at h
 ·exact ⟨_,_,rfl⟩
 ·cases h
theorem ZJh (I:Inv X v8 σ a.H s) (hk:a.K=X.K):∀{xs:List D} {vs:List V} {us:List xz},Reps a xs vs->Vals vs us->xs.all isIt=true->∃fs,PySem.W.KatTups s.heap us fs/\fs.length=us.length/\∀v∈fs,∃i t,v=.int i t
 | [],vs,us,r,v,h=>by
  cases (show vs= [] from r);cases v
  exact ⟨[],.nil,rfl,λ_ hm=>nomatch hm⟩
 | d::xs,vs,us,r,v,h=>by
  rw [qL,zC] at h;obtain ⟨v0,vr,rfl,e1,r1⟩:=r;cases v with
  | cons q1 v1=>
   obtain ⟨i,rr,rfl⟩:=ZNl h.1;obtain ⟨p,o,ws,zs,n,rfl,ho,hc,hd,hv,hr⟩:=Z7 I hk e1 q1 rfl;obtain ⟨w0,wr,rfl,g1,g2⟩:=hr
   cases (show w0=V.int i from g1)
   obtain ⟨fs,k1,k2,k3⟩:=ZJh I hk r1 v1 h.2;have hz:∃t,zs[0]? =some (.int i t):=by
    cases hz:zs.toList with
    | nil=>rw [hz] at hv;cases hv
    | cons z zr=>
     rw [hz] at hv;cases hv with
     | cons q _=>
      obtain ⟨t,rfl⟩:=q;exact ⟨t,by rw [<-qM,hz];rfl⟩
   obtain ⟨t,hz⟩:=hz;refine ⟨.int i t::fs,.cons ho hc hd hz k1,by simp [k2],λv hm=> ?_⟩;rcases zK.mp hm with rfl | hm
   ·exact ⟨i,t,rfl⟩
   ·exact k3 v hm
theorem ZG2 (I:Inv X v8 σ a.H s) (hk:a.K=X.K):∀{xs:List D} {vs:List V} {us:List xz},Reps a xs vs->Vals vs us->xs.all W5=true->∃fs,PySem.W.KatTups s.heap us fs/\fs.length=us.length/\∀v∈fs,∃i t,v=.str i t
 | [],vs,us,r,v,h=>by
  cases (show vs= [] from r);cases v
  exact ⟨[],.nil,rfl,λ_ hm=>nomatch hm⟩
 | d::xs,vs,us,r,v,h=>by
  rw [qL,zC] at h;obtain ⟨v0,vr,rfl,e1,r1⟩:=r;cases v with
  | cons q1 v1=>
   obtain ⟨i,rr,rfl⟩:=ZMA h.1;obtain ⟨p,o,ws,zs,n,rfl,ho,hc,hd,hv,hr⟩:=Z7 I hk e1 q1 rfl;obtain ⟨w0,wr,rfl,g1,g2⟩:=hr
   cases (show w0=V.str i from g1)
   obtain ⟨fs,k1,k2,k3⟩:=ZG2 I hk r1 v1 h.2;have hz:∃t,zs[0]? =some (.str i t):=by
    cases hz:zs.toList with
    | nil=>rw [hz] at hv;cases hv
    | cons z zr=>
     rw [hz] at hv;cases hv with
     | cons q _=>
      obtain ⟨t,rfl⟩:=q;exact ⟨t,by rw [<-qM,hz];rfl⟩
   obtain ⟨t,hz⟩:=hz;refine ⟨.str i t::fs,.cons ho hc hd hz k1,by simp [k2],λv hm=> ?_⟩;rcases zK.mp hm with rfl | hm
   ·exact ⟨i,t,rfl⟩
   ·exact k3 v hm
theorem ZGn {ws:List V} {us:List xz} {Q:VK} {h2:Heap} {c:Nat} (I:Inv X v8 σ a.H s) (sm:Sim a G) (q:out E a (.ok (.ref G.length) (G++ [.lst ys])) Q) (r:Reps a ys ws) (v:Vals ws us) (hz:us.length < 64)
  (hD:h2.get? (s.heap.objs.size + 1)=some (seqObj "list" us.toArray c)) (k:∀b o,b≠X.env.locals->s.heap.get? b=some o->h2.get? b=some o) (ns:∀m,s.heap.Ns X.env.locals m->h2.Ns X.env.locals m):
  EP X v8 σ Q (.ref (s.heap.objs.size + 1)) {s with heap:=h2}:=by
 have hle:s.heap.objs.size<=s.heap.objs.size + 1:=j3 _;obtain ⟨g0,g1,g2,g3,g4,g5⟩:=I.Lh (H':=a.H) hle (I.hok.fresh hle);have I2:Inv X v8 σ a.H {s with heap:=h2}:=ZGS (t':=s.toks) I k ns;refine ⟨.ref (s.heap.objs.size + 1),_,ZB4 I2 g0 (zD I.sz hle) g1 g4 g5 (o:=.lst ws) ⟨?_,us,c,v,hD⟩,rfl,Mj sm r q _ g0⟩;rw [v.length,xT];lia
end
section
variable {X:Cx} {E:XK}
theorem ZNa (h:Qq xs=true) {x y:D} (hx:x∈xs) (hy:y∈xs):∃k,ltD x y=some k:=by unfold Qq at h;rw [zC] at h;exact qO.mp (qk.mp (qk.mp h.2 x hx) y hy)
theorem ZPl {x y:D} {k:Bool} (h:ltD x y=some k):∃xs ys,x=.tup xs/\y=.tup ys/\ltL xs ys=some k:=by
 unfold ltD at h;split at h
 ·exact ⟨_,_,rfl,rfl,h⟩
 ·cases h
theorem ZHx (r:Reps a xs vs):∀l:List Nat,(∀i∈l,i < xs.length)->Reps a (l.map λi=>xs.getD i .non) (l.map λi=>vs.getD i .non)
 | [],_=>rfl
 | i::l,h=>by
  have hi:i < xs.length:=h i zX;obtain ⟨v,ev,rv⟩:=r.get (i:=i) (d:=xs[i]) (zQ hi);refine ⟨vs.getD i .non,_,rfl,?_,ZHx r l λj hj=>h j (zZ _ hj)⟩;have e1:xs.getD i .non=xs[i]:=by simp [hi]
  have e2:vs.getD i .non=v:=by rw [zy,ev];rfl
  show Rep a (xs.getD i .non) (vs.getD i .non);rw [e1,e2];exact rv
theorem ZEG {us:List xz} (r:Vals vs us):∀l:List Nat,(∀i∈l,i < vs.length)->Vals (l.map λi=>vs.getD i .non) (l.map λi=>us.getD i .none)
 | [],_=>.nil
 | i::l,h=>by
  have hi:i < vs.length:=h i zX;obtain ⟨u,eu,ru⟩:=r.get (i:=i) (x:=vs[i]) (zQ hi);rw [zA,zA];have e1:vs.getD i .non=vs[i]:=by simp [hi]
  have e2:us.getD i .none=u:=by rw [zy,eu];rfl
  rw [e1,e2];exact .cons ru (ZEG r l λj hj=>h j (zZ _ hj))
theorem ZGC {n:Nat} {lt:Nat->Nat->Bool} {P:Array Nat->Prop}:∀{t:PySem.W.KasT (Array Nat)},Safe n P t->P (Cj lt t)
 | .ret _,h=>h
 | .ask i j k,h=>ZGC (t:=k (lt i j)) (h.2.2 (lt i j))
theorem ZJS {n:Nat}:∀f {p:Array Nat} k,Ents n p->Safe n (Ents n) (PySem.W.kas_bin f p k)
 | 0,p,k,h=>h
 | f + 1,p,k,h=>Safe.bind (P:=λ_=>True) (λa _=>ZJS f _ (h.perm (bubble_perm ..))) (Xd h k _ _ _)
theorem ZH5 {n:Nat} (hn:0 < n):Safe n (Ents n) (PySem.W.kas_sort n):=
 Safe.bind (P:=λr=>Ents n r.2) (λa ha=>by
  split
  ·exact ZJS _ _ ha
  ·exact ha) (ZEK ⟨hn,Array.Perm.refl _⟩ _)
theorem ZPi:CallR X (.builtin "sorted") (lRn X.K E Vj):=by
 intro v8 s σ H vs us Q I rs h;obtain ⟨a,G,ds,hk,rfl,sm,r,q⟩:=h;unfold Vj at q;split at q
 ·rename_i d;obtain ⟨v,rfl,rv⟩:=reps1 r;split at q
  ·rename_i xs hs;split at q
   ·rename_i hc;obtain ⟨p,ws,rfl,h1,r1⟩:=Vc sm rv hs;rw [hk] at h1;obtain ⟨u,rfl,ru⟩:=vals1 rs;cases ru;obtain ⟨its,hv,pl,hz⟩:=I.list h1;have hlx:xs.length=its.length:=r1.length.trans hv.length;refine ZN5 pl.isList (by lia) λh1 hD k1=> ?_
    obtain ⟨m,hn,_⟩:=id I.loc;have hns1:h1.Ns X.env.locals m:=hn.keeps k1;have hDL:s.heap.objs.size + 1≠X.env.locals:=jJ (qF I.lt);have nsAll:∀{h2:Heap},h2.Ns X.env.locals m->∀m',s.heap.Ns X.env.locals m'->h2.Ns X.env.locals m':=λ{h2} hh m' hm'=>by have e1:=hn.eq_nsMap;have e2:=hm'.eq_nsMap;rw [e2,<-e1];exact hh
    by_cases hlen:xs.length < 2
    ·refine ZOQ (s:={s with heap:=h1}) hD (by lia) λh2 c hD2 k2=>⟨rfl,?_⟩
     have es:M8 xs=xs:=by unfold M8;rw [if_pos hlen]
     rw [es] at q;refine ZGn I sm q r1 hv (by lia) hD2 (λb o hb e=>k2 b o ?_ (k1 b o e)) (nsAll (hns1.at λo e=>k2 _ o (Ne.symm hDL) e));exact zE (qF (zk e))
    ·have es:M8 xs=(Cj (ltI xs) (PySem.W.kas_sort xs.length)).toList.map λi=>xs.getD i .non:=by unfold M8;rw [if_neg hlen]
     rw [es] at q;refine PySem.W.kat_list_sort (s:={s with heap:=h1}) (Att.ZMu hns1) (news:=Att.ledger h1 X.env.locals (s.heap.objs.size + 1)) ?_ hD hDL (Att.ZDp _ _) (λ⟨_,_⟩ hp=>(Att.Ve.mp hp).2.1) (by lia) (by lia) λe1 h2 F2 N2=> ?_
     ·rintro ⟨b,o⟩ hp;obtain ⟨n1,n2,e⟩:=Att.Ve.mp hp;exact ⟨e,n1,Att.ZDp _ _⟩
     have k2:∀b o,b≠X.env.locals->s.heap.get? b=some o->h2.get? b=some o:=λb o hb e=>
      (N2 (b,o) (zZ _ (Att.Ve.mpr ⟨hb,zE (qF (zk e)),k1 b o e⟩))).1
     have I2:Inv X v8 σ a.H {s with heap:=h2}:=ZGS (t':=s.toks) I k2 (nsAll F2.ns);have hpos:0 < its.length:=by lia
     have fin:(PySem.W.kas_sort its.length).kasWp (PySem.W.kas_ask X.prog X.w X.A.in1.in1 (tuples' true) its) (λp s''=>PySem.W.KasFin (Att.Vn h1) X.env.locals m (s.heap.objs.size + 1) e1 (p.toList.map λi=>its.getD i Value.none) (λs3=>PySem.Fin.done (.ret .none)=PySem.Fin.done (.ret .none)/\EP X v8 σ Q (.ref (s.heap.objs.size + 1)) s3) s'') {s with heap:=h2}:=by
      refine ZIR (lt:=ltI xs) (λi j hi hj C hC=> ?_) (ZH5 hpos) ?_
      ·have hxi:i < xs.length:=by lia
       have hxj:j < xs.length:=by lia
       obtain ⟨v1,ev1,rv1⟩:=r1.get (i:=i) (d:=xs[i]) (zQ hxi);obtain ⟨v2,ev2,rv2⟩:=r1.get (i:=j) (d:=xs[j]) (zQ hxj);obtain ⟨u1,eu1,ru1⟩:=hv.get ev1;obtain ⟨u2,eu2,ru2⟩:=hv.get ev2;obtain ⟨k,hlt⟩:=ZNa hc.2 (qz hxi) (qz hxj);obtain ⟨as,bs,ea,eb,hlL⟩:=ZPl hlt;obtain ⟨p1,o1,vs1,us1,n1,rfl,ho1,_,hd1,hv1,hr1⟩:=Z7 I2 hk rv1 ru1 ea;obtain ⟨p2,o2,vs2,us2,n2,rfl,ho2,_,hd2,hv2,hr2⟩:=Z7 I2 hk rv2 ru2 eb
       have hC':C k {s with heap:=h2}:=by
        have:ltI xs i j=k:=by
         unfold ltI;have e1:xs.getD i .non=xs[i]:=by simp [hxi]
         have e2:xs.getD j .non=xs[j]:=by simp [hxj]
         rw [e1,e2,hlt];rfl
        rw [<-this];exact hC
       unfold PySem.W.kas_ask;have g1:its.getD i Value.none=.ref p1:=by rw [zy,eu1];rfl
       have g2:its.getD j Value.none=.ref p2:=by rw [zy,eu2];rfl
       rw [g1,g2];exact PySem.W.kat_lt ho1 hd1 ho2 hd2 (ZBo hr1 hr2 hv1 hv2 hlL (by simp) hC')
      ·have hen:Ents its.length (Cj (ltI xs) (PySem.W.kas_sort its.length)):=ZGC (ZH5 hpos);rw [hlx] at q;refine PySem.W.KasFin.intro F2 N2 (.head λ⟨_,_⟩ hp=>(Att.Ve.mp hp).2.1) λh3 c F3 N3=>⟨rfl,?_⟩
       have hin:∀i∈(Cj (ltI xs) (PySem.W.kas_sort its.length)).toList,i < its.length:=λi hi=>hen.lt (by simpa using hi)
       refine ZGn I sm q (ZHx r1 _ λi hi=>by rw [hlx];exact hin i hi) (ZEG hv _ λi hi=>by rw [hv.length];exact hin i hi) ?_ (N3 _ zX).1 (λb o hb e=> ?_) (nsAll F3.ns)
       ·rw [hlx] at es;have:=hc.1.2;rw [es] at this;simpa using this
       ·exact (N3 (b,o) (zZ _ (Att.Ve.mpr ⟨hb,zE (qF (zk e)),k1 b o e⟩))).1
     unfold Qq at hc;rw [zC,jC] at hc;rcases hc.2.1 with hall | hall
     ·obtain ⟨fs,t1,t2,t3⟩:=ZJh I2 hk r1 hv hall;refine PySem.W.kat_kind (T:=.type "int") t1 (by lia) (λv hm=> ?_) (by decide) ?_
      ·obtain ⟨i,t,rfl⟩:=t3 v hm;exact PySem.W.Looks.now
      ·exact fin
     ·obtain ⟨fs,t1,t2,t3⟩:=ZG2 I2 hk r1 hv hall;refine PySem.W.kat_kind (T:=.type "str") t1 (by lia) (λv hm=> ?_) (by decide) ?_
      ·obtain ⟨i,t,rfl⟩:=t3 v hm;exact PySem.W.Looks.now
      ·exact fin
   ·exact q.elim
  ·exact q.elim
 ·exact q.elim
end
section
variable {S:DSt} {G:DH}
@[simp] theorem ZSB {to ti:DE} {f:D->D->DH->R D}:Ri to ti te f S G=(to S G).toS λo G1=>(ti S G1).toS λi G2=>(ixL o i G2).toS λx G3=>(te S G3).toS λy G4=>(f x y G4).toS λz G5=>(M6 o i z G5).toS λ_ G6=>.nx S G6:=id rfl
theorem Vy {p:Nat} {k:Int} (h:G[p]? =some (.lst xs)) (e:atI xs k=some d):ixL (.ref p) (.int k) G=.ok d G:=by unfold ixL;simp only;rw [h];simp only;rw [e]
def Eg (xs:List D):List D:=xs.zipIdx.map λq=>.tup [.int q.2,q.1]
def Mu (xs ys:List D):List D:=(xs.zip ys).map λq=>.tup [q.1,q.2]
theorem ZIY {f:Nat->DH->Option (Option D)} {b:DS} (h:∀j G,f j G=some xs[j]?):∀(n j:Nat),j + n=xs.length->∀S G,Em f g b n j S G=Bp g b (xs.drop j) S G
 | 0,j,e,S,G=>by
  unfold Em;rw [h,z5 (by lia),zN (by lia)]
  rfl
 | n + 1,j,e,S,G=>by
  have hj:j < xs.length:=by lia
  unfold Em;rw [h,zQ hj,zL hj,Dp];have:Em f g b n (j + 1)=Bp g b (xs.drop (j + 1)):=by funext S G;exact ZIY h n (j + 1) (by lia) S G
  rw [this]
theorem V4 {f:Nat->DH->Option (Option D)} {b:DS} {n:Nat} (h:∀j G,f j G=some xs[j]?) (hn:n=xs.length):Em f g b n 0 S G=Bp g b xs S G:=by rw [ZIY h n 0 (by lia)];rfl
theorem Yd (j:Nat) (G:DH):Gb 0 (.fl xs) j G=some (Eg xs)[j]? :=by
 unfold Gb Eg;simp only [By,zw,List.getElem?_zipIdx]
 cases xs[j]? <;> simp
theorem ZRB (j:Nat) (G:DH):Gb 0 (.tup xs) j G=some (Eg xs)[j]? :=by
 unfold Gb Eg;simp only [By,zw,List.getElem?_zipIdx]
 cases xs[j]? <;> simp
theorem Ly:(Eg xs).length=xs.length:=by simp [Eg]
@[simp] theorem ZSL:Jf [.fl xs] G=.ok (.fn xs.length (Gb 0 (.fl xs))) G:=by simp [Jf,Km,By,lenOf]
@[simp] theorem ZKA {b:DS} :Em (Gb 0 (.fl xs)) g b xs.length 0 S G=Bp g b (Eg xs) S G:=V4 Yd Ly.symm
@[simp] theorem ZSN {b:DS} :Em (Gb 0 (.tup xs)) g b xs.length 0 S G=Bp g b (Eg xs) S G:=V4 ZRB Ly.symm
theorem ZGz {f:Nat->DH->Option (Option D)} {c:DB} {F:D->Option D} (hf:∀j,f j G=some xs[j]?) (h:∀x∈xs,CStep g c te S G x (F x)):
  ∀(n j:Nat),xs.length<=j + n->Ed f g c te S n j G=.ok ((xs.drop j).filterMap F) G
 | 0,j,hj=>by
  unfold Ed;rw [hf,z5 (by lia)];simp only;rw [zN (by lia)]
  rfl
 | n + 1,j,hj=>by
  unfold Ed;rw [hf];by_cases hlt:j < xs.length
  ·have ih:=ZGz hf h n (j + 1) (by lia);obtain ⟨S1,h1,h2⟩:=h xs[j] (qz hlt);rw [zQ hlt];simp only [h1,R.Mi];rw [zL hlt,qw];rcases h2 with ⟨h2,h3⟩ | ⟨h2,d,h3,h4⟩
   ·simp [h2,h3,ih]
   ·simp [h2,h3,h4,ih]
  ·rw [z5 (by lia),zN (by lia)]
   rfl
theorem Zu {f:Nat->DH->Option (Option D)} {c:DB} {F:D->Option D} {n:Nat} (hf:∀j,f j G=some xs[j]?) (h:∀x∈xs,CStep g c te S G x (F x)) (hn:xs.length<=n):
  Ed f g c te S n 0 G=.ok (xs.filterMap F) G:=ZGz hf h n 0 (by lia)
theorem ZAS {e:D} (hd:By d G=some xs) (he:By e G=some ys) (j:Nat):Gz [d,e] j G=some (Mu xs ys)[j]? :=by
 unfold Gz Mu;simp only [Ie,hd,he,zw,List.getElem?_zip_eq_some]
 have ez:(xs.zip ys)[j]? =match xs[j]?,ys[j]? with
  | some x,some y=>some (x,y)
  | _,_=>none:=by
  rw [List.zip,List.getElem?_zipWith]
  cases xs[j]? <;> cases ys[j]? <;> rfl
 rw [ez];cases xs[j]? with
 | none=>rfl
 | some x=>
  cases ys[j]? with
  | none=>rfl
  | some y=>rfl
theorem ZEV {e:D} (hd:By d G=some xs) (he:By e G=some ys):I9 2 [d,e] G=.ok (.fn xs.length (Gz [d,e])) G:=by simp [I9,Km,hd,he,lenOf]
@[simp] theorem ZC4:By (.fl xs) G=some xs:=id rfl
@[simp] theorem Wf:By (.tup xs) G=some xs:=id rfl
theorem ZLl {i:Nat} (h:G[i]? =some (.lst xs)):By (.ref i) G=some xs:=by simp [By,h]
theorem ZOd {n:Int} {ns:List Int} (h:By d G=some ((n::ns).map D.int)):Qt [d] G=.ok (.int (ns.foldl min n)) G:=by simp only [Qt,h,ZBL]
theorem ZPj {n:Int} {ns:List Int} (h:By d G=some ((n::ns).map D.int)):Ro [d] G=.ok (.int (ns.foldl max n)) G:=by simp only [Ro,h,ZBL]
theorem ZAV {p:Nat} (h:G[p]? =some (.lst [d])) (hk:k<=1000000):Jt (.ref p) (.int (k:Int)) G=.ok (.ref G.length) (G++ [.lst (zV k d)]):=by
 unfold Jt;simp only;rw [h];simp only;have e:(zV k [d]).flatten=zV k d:=by
  induction k with
  | zero=>rfl
  | succ k ih=>rw [qZ,qC,ih (by lia),qZ];rfl
 rw [if_pos ⟨by lia,by lia,by simpa using hk⟩,jG,e]
end
def Bts (i:Int):Prop:=i.natAbs.log2 < 33554432
def MulB (i j:Int):Prop:=CMul i j∨(Bts i/\Bts j)
instance (i:Int):Decidable (Bts i):=by unfold Bts;infer_instance
instance (i j:Int):Decidable (MulB i j):=by unfold MulB;infer_instance
theorem MulB.ok {i j:Int} (h:MulB i j):IntMulOk i j:=by
 rcases h with h | ⟨h1,h2⟩
 ·exact h.ok
 ·have b:∀k:Int,Bts k->Builtin.Int.intBits k<=33554432:=λk hk=>by
   unfold Builtin.Int.intBits;split
   ·exact jI _
   ·exact hk
  have c1:=b i h1;have c2:=b j h2;have h:Builtin.Int.intTooBig (Builtin.Int.intBits i + Builtin.Int.intBits j)=false:=by unfold Builtin.Int.intTooBig bitsLine;exact decide_eq_false (by lia)
  unfold IntMulOk;rw [h];simp
section
variable {X:Cx} {E:XK}
theorem ZNF:OpR X (xA .Mult) (rI MulB λi j=>.int (i * j)):=opI λ_ _ _ _ _ _ _ hc q=>mul_int q hc.ok
end
section
variable {i j:Int} {G:DH}
end
section
variable {X:Cx} {E:XK}
end
noncomputable def Hr (f:Str) (v:D):List (Str×D)->List (Str×D)
 | []=> [(f,v)]
 | (g,x)::r=>if g=f then (g,v)::r else (g,x)::Hr f v r
theorem RepF.mono {b:Wd} (x:Ext a b) {fs:List (Str×D)} (h:RepF a fs us):RepF b fs us:=⟨h.1,h.2.mono x⟩
theorem RepF.cons {g:Str} {fs:List (Str×D)} (h:Rep a d v) (r:RepF a fs us):RepF a ((g,d)::fs) ((g,v)::us):=
 ⟨by simp [r.1],v,us.map (·.2),rfl,h,r.2⟩
theorem RepF.uncons {g:Str} {fs:List (Str×D)} (h:RepF a ((g,d)::fs) us):∃v us',us=(g,v)::us'/\Rep a d v/\RepF a fs us':=by
 obtain ⟨h1,h2⟩:=h;cases us with
 | nil=>simp at h1
 | cons q us=>
  obtain ⟨g',y⟩:=q;simp only [zA,List.cons.injEq] at h1;obtain ⟨rfl,h1⟩:=h1;obtain ⟨v,r,e1,r1,r2⟩:=h2;simp only [zA,List.cons.injEq] at e1;obtain ⟨rfl,rfl⟩:=e1;exact ⟨y,us,rfl,r1,h1,r2⟩
theorem RepF.nil' (h:RepF a [] us):us= []:=by
 obtain ⟨h1,_⟩:=h;cases us with
 | nil=>rfl
 | cons q us=>simp at h1
theorem lkc {α:Type} {f g:Str} {x:α} {fs:List (Str×α)}:jw f ((g,x)::fs)=if (f == g)=true then some x else fs.lookup f:=by
 show (match f == g with
  | true=>some x
  | false=>jw f fs)=_
 cases f == g <;> rfl
theorem RepF.look {f:Str} :∀{fs:List (Str×D)} {us:List (Str×V)},RepF a fs us->fs.lookup f=some d->∃u,us.lookup f=some u/\Rep a d u
 | [],us,h,e=>by simp at e
 | (g,x)::fs,us,h,e=>by
  obtain ⟨v,us',rfl,hv,hr⟩:=h.uncons;rw [lkc] at e ⊢;by_cases q:(f == g)=true
  ·rw [if_pos q] at e ⊢;cases e;exact ⟨v,rfl,hv⟩
  ·rw [if_neg q] at e ⊢;exact RepF.look hr e
theorem RepF.ZAw {f:Str}:∀{fs:List (Str×D)} {us:List (Str×V)},RepF a fs us->fs.lookup f=none->us.lookup f=none
 | [],us,h,e=>by rw [h.nil'];rfl
 | (g,x)::fs,us,h,e=>by
  obtain ⟨v,us',rfl,hv,hr⟩:=h.uncons;rw [lkc] at e ⊢;by_cases q:(f == g)=true
  ·rw [if_pos q] at e;cases e
  ·rw [if_neg q] at e ⊢;exact RepF.ZAw hr e
theorem RepF.put {f:Str} (q:Rep a d v):∀{fs:List (Str×D)} {us:List (Str×V)},RepF a fs us->RepF a (Hr f d fs) (Fx f v us)
 | [],us,h=>by rw [h.nil'];exact RepF.cons (fs:= []) (us:= []) q ⟨rfl,rfl⟩
 | (g,x)::fs,us,h=>by
  obtain ⟨w,us',rfl,hv,hr⟩:=h.uncons;unfold Hr Fx;by_cases e:g=f
  ·rw [if_pos e,if_pos e];exact .cons q hr
  ·rw [if_neg e,if_neg e];exact .cons hv (RepF.put q hr)
theorem RepF.len {fs:List (Str×D)} (h:RepF a fs us):us.length=fs.length:=by have:=congrArg jU h.1;simpa using this.symm
theorem Ext.wrI {p C dx:xQ} {ho:HO} (h:a.H p=some (.ins C dx us)):Ext a (a.put p ho):=
 ⟨rfl,zW _,λ_ _=>rfl,λq xs e=>by
  show upd a.H p ho q=_;rw [Bd (λz=>by subst z;rw [h] at e;cases e)];exact e,λq o u e=>by
  show upd a.H p ho q=_;rw [Bd (λz=>by subst z;rw [h] at e;cases e)];exact e,λ_ t=>t.mono (λq ps e=>by show upd a.H p ho q=_;rw [Bd (λz=>by subst z;rw [h] at e;cases e)];exact e) (λq o u e=>by show upd a.H p ho q=_;rw [Bd (λz=>by subst z;rw [h] at e;cases e)];exact e)⟩
theorem Sim.wrI (s:Sim a G) {i:Nat} (hi:i < a.n) {c:Str} {C dx:xQ} {us':List (Str×V)} {fs':List (Str×D)} (hn:PySem.W.nsIn a.K xP c=some (some (.ref C))) (h:a.H (a.m i)=some (.ins C dx us)) (r:RepF (a.put (a.m i) (.ins C dx us')) fs' us'):
  Sim (a.put (a.m i) (.ins C dx us')) (G.set i (.ins c fs')):=by
 refine ⟨by rw [jB];exact s.len,s.inj,λj o e=> ?_,λj hj=> ?_⟩
 ·rw [jK] at e;show ORep _ o (upd a.H (a.m i) (.ins C dx us') (a.m j));by_cases hij:i=j
  ·subst hij;rw [if_pos rfl,if_pos (by rw [s.len];exact hi)] at e;cases e;rw [Ha];exact ⟨C,dx,us',hn,rfl,r⟩
  ·rw [if_neg hij] at e;rw [Bd λz=>hij (s.inj _ _ (s.lt e) hi z).symm];exact (s.obj j o e).mono (Ext.wrI h)
 ·show upd a.H (a.m i) (.ins C dx us') (a.m j)≠none;by_cases hij:a.m j=a.m i
  ·rw [hij,Ha];simp
  ·rw [Bd hij];exact s.tr j hj
noncomputable def Kc (c:Str) (d:D) (G:DH):Option (List (Str×D)):=match d with
 | .ref i=>match G[i]? with
  | some (.ins c' fs)=>if c'=c then some fs else none
  | _=>none
 | _=>none
theorem Sim.ins {x:V} {c:Str} {fs:List (Str×D)} (s:Sim a G) (r:Rep a d x) (h:Kc c d G=some fs):
  ∃i C dx us,d=.ref i/\i < a.n/\x=.ref (a.m i)/\G[i]? =some (.ins c fs)/\PySem.W.nsIn a.K xP c=some (some (.ref C))/\a.H (a.m i)=some (.ins C dx us)/\RepF a fs us:=by
 unfold Kc at h;split at h
 ·rename_i i;split at h
  ·rename_i c' fs' e;split at h
   ·rename_i hc;subst hc;cases h;obtain ⟨l,ev⟩:=r;obtain ⟨C,dx,us,n,e1,r1⟩:=s.obj i _ e;exact ⟨i,C,dx,us,rfl,l,ev,e,n,e1,r1⟩
   ·cases h
  ·cases h
 ·cases h
noncomputable def Ex (c:Str) (t:DE) (f:Str):DE:=λS G=>(t S G).bind λd G1=>match Kc c d G1 with
 | some fs=>match fs.lookup f with
  | some v=>.ok v G1
  | none=>.bad
 | none=>.bad
noncomputable def Gy (c:Str) (to tv:DE) (f:Str):DS:=λS G=>(tv S G).toS λd G1=>(to S G1).toS λo G2=>match o with
 | .ref i=>match Kc c o G2 with
  | some fs=>if fs.length < 1000 then .nx S (G2.set i (.ins c (Hr f d fs))) else .bad
  | none=>.bad
 | _=>.bad
noncomputable def Ii (c:Str) (m:Str) (F:List D->DH->R D) (to:DE) (t:DA):DE:=λS G=>(to S G).bind λo G1=>match Kc c o G1 with
 | some fs=>match fs.lookup m with
  | none=>(t S G1).bind λds G2=>F (o::ds) G2
  | some _=>.bad
 | none=>.bad
noncomputable def Xz (c:Str) (F:List D->DH->R D) (t:DA):DE:=λS G=>(t S G).bind λds G1=>(F (.ref G1.length::ds) (G1++ [.ins c []])).bind λv G2=>match v with
 | .non=>.ok (.ref G1.length) G2
 | _=>.bad
section
variable {X:Cx} {E:XK} {c f m:Str} {C:xQ} {e o:xJ} {es:List xJ} {t ta tv:DE} {tr:DA} {pos apos pos':Pos}
theorem Fg (hn:PySem.W.nsIn X.K xP c=some (some (.ref C))) (hc:Cls X.K C) (hf:NoAttr X.K C f) (ha:QE X E e t) (hb:xk e f X.env (eval e X.env)=eval e X.env:=by rfl):QE X E (.Attribute e f pos) (Ex c t f):=
 (ZQZ ha hb).mono λσ H Q h=>by
  obtain ⟨a,S,G,hk,rfl,s,r,h⟩:=h;refine ⟨a,S,G,hk,rfl,s,r,(Gn h).imp ?_⟩;rintro v _ ⟨b,d,G1,rfl,x,s1,q,-,h1⟩;split at h1
  ·rename_i fs hi;obtain ⟨i,C',dx,us,rfl,_,rfl,_,n',e1,r1⟩:=s1.ins q hi;have hCC:C'=C:=by
    rw [x.k,hk,hn] at n';cases n'
    rfl
   subst hCC;split at h1
   ·rename_i d' hd;obtain ⟨u,eu,ru⟩:=r1.look hd;exact ⟨b.m i,C',dx,us,u,rfl,e1,hc,hf,eu,h1 b u (Ext.refl b) s1 ru⟩
   ·exact h1.elim
  ·exact h1.elim
theorem O2 (hn:PySem.W.nsIn X.K xP c=some (some (.ref C))) (hc:Cls X.K C) (hf:NoAttr X.K C f) (ha:QE X E o ta) (hv:QE X E e tv) (hs:swapsWith e (some (.Attribute o f pos')) pos.line X.env=pure false:=by rfl):
  QS X E (.Assign [.Attribute o f pos'] e pos) (Gy c ta tv f):=
 (ZP7 ha hv hs).mono λW σ H h=>by
  obtain ⟨a,S,G,hk,rfl,s,r,h⟩:=h;refine ⟨a,S,G,hk,rfl,s,r,(Iz h).imp ?_⟩;rintro v _ ⟨b,d,G1,rfl,x,s1,q,-,h1⟩;refine ⟨b,S,G1,x.k.trans hk,rfl,s1,r.mono x,(Iz h1).imp ?_⟩;rintro v2 _ ⟨b2,d2,G2,rfl,x2,s2,q2,-,h2⟩;split at h2
  ·rename_i i;split at h2
   ·rename_i fs hi;split at h2
    ·rename_i hl;obtain ⟨i',C',dx,us,ei,li,rfl,eg,n',e1,r1⟩:=s2.ins q2 hi;cases ei;have hCC:C'=C:=by
      rw [x2.k,x.k,hk,hn] at n';cases n'
      rfl
     subst hCC;have x3:Ext b2 (b2.put (b2.m i) (.ins C' dx (Fx f v us))):=Ext.wrI e1;have s3:=s2.wrI (fs':=Hr f d fs) li n' e1 (RepF.put ((q.mono x2).mono x3) (r1.mono x3));exact ⟨b2.m i,C',dx,us,rfl,e1,hc,hf,by rw [r1.len];exact hl,h2 _ σ x3 s3 (((r.mono x).mono x2).mono x3)⟩
    ·exact h2.elim
   ·exact h2.elim
  ·exact h2.elim
theorem ZQA {sp:List D->DH->R D} {σ:St} {H:Hp} {Q:VK} (hn:PySem.W.nsIn X.K xP c=some (some (.ref C))) (h:lE X.K E (Ii c m F ta tr) σ H Q):ZD6 C m (lF X.K F) [] E (lE X.K E ta) (lA X.K E tr) σ H Q:=by
 obtain ⟨a,S,G,hk,rfl,s,r,h⟩:=h;refine ⟨a,S,G,hk,rfl,s,r,(Gn h).imp ?_⟩;rintro v _ ⟨b,d,G1,rfl,x,s1,q,-,h1⟩;split at h1
 ·rename_i fs hi;obtain ⟨i,C',dx,us,rfl,_,rfl,_,n',e1,r1⟩:=s1.ins q hi;have hCC:C'=C:=by
   rw [x.k,hk,hn] at n';cases n'
   rfl
  subst hCC;split at h1
  ·rename_i hm;refine ⟨b.m i,dx,us,rfl,e1,r1.ZAw hm,b,S,G1,x.k.trans hk,rfl,s1,r.mono x,(Nx h1).imp ?_⟩;rintro vs _ ⟨b2,ds,G2,rfl,x2,s2,q2,-,h2⟩;exact ⟨b2,G2,.ref i::ds,(x2.k.trans x.k).trans hk,rfl,s2,⟨.ref (b.m i),vs,by rw [jX],q.mono x2,q2⟩,h2⟩
  ·exact h1.elim
 ·exact h1.elim
theorem Ra {g:xQ} {pl:Sem Bool} (hn:PySem.W.nsIn X.K xP c=some (some (.ref C))) (hc:Cls X.K C) (hm:Meth X.K C m g) (FF:FnOk X.prog X.w X.K X.mg X.base CX k g fd ps (lF X.K F)) (hr:Room k X.A) (hb:Binds X.K fd ps [])
  (hx:Passes CX X E) (ho:QE X E o ta) (ha:QA X E (e::es) tr) (he:notStar e=true:=by rfl) (hpl:es.all notStar=true:=by rfl)
  (ht:eval (.Call (.Attribute o m apos) (e::es) [] pos) X.env=(do
   let ov<-eval o X.env
   standAt apos.atName
   let (f,first)<-holding [ov] (getMethod ov m pl)
   callWith pos f first (xy pos (vQ (e::es) X.env)) (backToKw pos (xN [] X.env))):=by rfl):QE X E (.Call (.Attribute o m apos) (e::es) [] pos) (Ii c m F ta tr):=
 (ZNY (pl:=pl) ho hc hm FF hr hb .nil hx ha (Np e es X.env he) (Qu pos X.env es hpl) ht).mono λσ H Q h=>ZQA (sp:=F) hn h
theorem ZCB {g:xQ} {pl:Sem Bool} (hn:PySem.W.nsIn X.K xP c=some (some (.ref C))) (hc:Cls X.K C) (hm:Meth X.K C m g) (FF:FnOk X.prog X.w X.K X.mg X.base CX k g fd ps (lF X.K F)) (hr:Room k X.A) (hb:Binds X.K fd ps [])
  (hx:Passes CX X E) (ho:QE X E o ta)
  (ht:eval (.Call (.Attribute o m apos) [] [] pos) X.env=(do
   let ov<-eval o X.env
   standAt apos.atName
   let (f,first)<-holding [ov] (getMethod ov m pl)
   callWith pos f first (xy pos (vQ [] X.env)) (backToKw pos (xN [] X.env))):=by rfl):QE X E (.Call (.Attribute o m apos) [] [] pos) (Ii c m F ta Ad):=
 (ZOb (pl:=pl) ho hc hm FF hr hb .nil hx ht).mono λσ H Q h=>by
  obtain ⟨a,S,G,hk,rfl,s,r,h⟩:=h;refine ⟨a,S,G,hk,rfl,s,r,(Gn h).imp ?_⟩;rintro v _ ⟨b,d,G1,rfl,x,s1,q,-,h1⟩;split at h1
  ·rename_i fs hi;obtain ⟨i,C',dx,us,rfl,_,rfl,_,n',e1,r1⟩:=s1.ins q hi;have hCC:C'=C:=by
    rw [x.k,hk,hn] at n';cases n'
    rfl
   subst hCC;split at h1
   ·rename_i hm;exact ⟨b.m i,dx,us,rfl,e1,r1.ZAw hm,b,G1,[.ref i],x.k.trans hk,rfl,s1,⟨.ref (b.m i),[],rfl,q,rfl⟩,h1⟩
   ·exact h1.elim
  ·exact h1.elim
theorem ZLz {ds:List D} {Q:VK} (hk:a.K=X.K) (hn:PySem.W.nsIn X.K xP c=some (some (.ref C))) (s:Sim a G) (q:Reps a ds vs)
  (h:out E a ((F (.ref G.length::ds) (G++ [.ins c []])).bind λv G2=>match v with
   | .non=>.ok (.ref G.length) G2
   | _=>.bad) Q):∀x dx,a.H x=none->a.H dx=none->dx≠x->lF X.K F (.ref x::(vs++ [])) (upd (upd a.H dx (.own x)) x (.ins C dx [])) (λv H2=>v=.non/\Q (.ref x) H2) E:=λp dx hp hdx hne=>by
 have x1:Ext a (a.put dx (.own p)):=Ext.put hdx;have s1:Sim (a.put dx (.own p)) G:=s.put hdx;have hp1:(a.put dx (.own p)).H p=none:=by show upd a.H dx (.own p) p=none;rw [Bd λz=>hne z.symm];exact hp
 have x2:Ext (a.put dx (.own p)) ((a.put dx (.own p)).push p (.ins C dx [])):=Ext.push hp1;have s2:Sim ((a.put dx (.own p)).push p (.ins C dx [])) (G++ [.ins c []]):=s1.push hp1 ⟨C,dx,[],by show PySem.W.nsIn a.K xP c=_;rw [hk];exact hn,rfl,rfl,rfl⟩;have hgl:G.length=a.n:=s.len;have mnew:((a.put dx (.own p)).push p (.ins C dx [])).m a.n=p:=by show (if a.n=a.n then p else a.m a.n)=p;rw [if_pos rfl]
 have rp:Rep ((a.put dx (.own p)).push p (.ins C dx [])) (.ref G.length) (.ref p):=by rw [hgl];exact ⟨qq _,by rw [mnew]⟩
 refine ⟨(a.put dx (.own p)).push p (.ins C dx []),_,.ref G.length::ds,hk,rfl,s2,⟨.ref p,vs,by rw [jX],rp,(q.mono x1).mono x2⟩,(Gn (out.mono (x1.trans x2) h)).imp ?_⟩;rintro v _ ⟨b,d,G1,rfl,x3,s3,q3,-,h3⟩;split at h3
 ·have:v=.non:=q3;exact ⟨this,h3 b _ (Ext.refl b) s3 (rp.mono x3)⟩
 ·exact h3.elim
theorem ZED {g:xQ} {p:Pos} (hn:PySem.W.nsIn X.K xP c=some (some (.ref C))) (M:Mk X.K C g) (FF:FnOk X.prog X.w X.K X.mg X.base CX k g fd ps (lF X.K F)) (hr:Room (k + 1) X.A) (hg:Gl X c) (hm:X.mg c=some (.ref C)) (hb:Binds X.K fd ps [])
  (hx:Passes CX X E) (ha:QA X E (e::es) tr) (hdb:(c == ("__debug__":Str))=false:=by decide) (he:notStar e=true:=by rfl) (hpl:es.all notStar=true:=by rfl):QE X E (.Call (.Name c p) (e::es) [] pos) (Xz c F tr):=
 (ZKR M FF hr hg hm hb .nil hx ha hdb (Np e es X.env he) (Qu pos X.env es hpl)).mono λσ H Q h=>by obtain ⟨a,S,G,hk,rfl,s,r,h⟩:=h;refine ⟨a,S,G,hk,rfl,s,r,(Nx h).imp ?_⟩;rintro vs _ ⟨b,ds,G1,rfl,x,s1,q,-,h1⟩;exact ZLz (x.k.trans hk) hn s1 q h1
end
noncomputable def Rj (d:D) (ds:List D) (G:DH):R D:=match ds with
 | [.int k]=>match J7 d G with
  | some xs=>match Hg xs with
   | some ns=>if k∈ns/\ns.length<=1000000 then .ok (.int (ns.idxOf k)) G else .bad
   | none=>.bad
  | none=>.bad
 | _=>.bad
theorem ZJa:∀{ns:List Int} {vs:List V},Reps a (ns.map D.int) vs->vs=ns.map V.int
 | [],vs,h=>h
 | n::ns,vs,h=>by
  obtain ⟨v,r,e,h1,h2⟩:=h
  cases (show v=V.int n from h1)
  rw [e,ZJa h2]
  rfl
theorem Uz:∀{ns:List Int} {us:List xz},Vals (ns.map V.int) us->us.length=ns.length/\∀(j:Nat) (u:xz),us[j]? =some u->∃t,∃h:j < ns.length,u=.int ns[j] t
 | [],us,h=>by cases h;exact ⟨rfl,λj u e=>by simp at e⟩
 | n::ns,us,h=>by
  cases h with
  | cons r rr=>
   obtain ⟨h1,h2⟩:=Uz rr;obtain ⟨t,rfl⟩:=r;refine ⟨by simp [h1],λj u e=> ?_⟩;cases j with
   | zero=>simp at e;exact ⟨t,by simp,by simpa using e.symm⟩
   | succ j=>
    obtain ⟨t',hj,e'⟩:=h2 j u (by simpa using e);exact ⟨t',by simpa using hj,by simpa using e'⟩
section
variable {X:Cx} {E:XK}
theorem ZMy:MtM X "list.index" (lRm X.K E Rj):=by
 intro v8 s σ H x xs v us Q I rx rxs h;obtain ⟨a,G,d,ds,hk,rfl,sm,rd,rds,q⟩:=h;unfold Rj at q;split at q
 ·rename_i k;split at q
  ·rename_i ys hy;split at q
   ·rename_i ns hns;split at q
    ·rename_i hk';obtain ⟨hmem,hlen⟩:=hk';obtain ⟨p,vs,rfl,hq,rv⟩:=Vc sm rd hy;rw [Zn hns] at rv;rw [ZJa rv,hk] at hq;cases rx;obtain ⟨v1,rfl,rv1⟩:=reps1 rds
     cases (show v1=V.int k from rv1)
     obtain ⟨u,rfl,ru⟩:=rxs.one;obtain ⟨t,rfl⟩:=ru;obtain ⟨its,rits,⟨o,n,ho,hc,hdi,hd⟩,hz⟩:=I.list hq;obtain ⟨hl1,hl2⟩:=Uz rits;have hlt:ns.idxOf k < ns.length:=zH hmem;have hjs:ns.idxOf k < its.toArray.size:=by simpa [hl1] using hlt
     have hob:o={cls:=.type "list",dict:=o.dict,data:=.seq its.toArray n,slots:=o.slots}:=by
      obtain ⟨c1,c2,c3,c4⟩:=o;simp only at hc hd;subst hc;subst hd
      rfl
     rw [hob] at ho
     refine call_meets PySem.F.slot_list_index ⟨_,ho,rfl⟩ PySem.F.entry_list_index (PySem.F.args_list_index_2 _ _) (SeqAt.list_indexAt p its.toArray n o.dict o.slots (.int k t) (λy=>match y with | .int i _=>i == k | _=>false) (ns.idxOf k) hjs (by lia) ?_ ?_) ⟨ho,λy hy=> ?_,?_⟩
     ·have hg:its[ns.idxOf k]? =some its.toArray[ns.idxOf k]:=by simp [zQ (by simpa [hl1] using hlt:ns.idxOf k < its.length)]
      obtain ⟨t',h3,e3⟩:=hl2 _ _ hg;rw [e3];simp
     ·intro m hm hlt2;have hml:m < its.length:=by simpa using hm
      have hg:its[m]? =some its.toArray[m]:=by simp [zQ hml]
      obtain ⟨t',h3,e3⟩:=hl2 _ _ hg;rw [e3];have:=List.not_of_lt_findIdx (p:=λx=>x == k) (xs:=ns) hlt2;simpa using this
     ·have hy2:y∈its:=by simpa using hy
      obtain ⟨m,hm,e⟩:=qD hy2;obtain ⟨t',h3,e3⟩:=hl2 m y (by rw [zQ hm,e]);rw [e3];exact SeqAt.EqAt.int_int _ _ _ _
     ·exact ⟨.int (ns.idxOf k),a.H,I.tok _,⟨_,rfl⟩,q a _ (Ext.refl a) sm rfl⟩
    ·exact q.elim
   ·exact q.elim
  ·exact q.elim
 ·exact q.elim
noncomputable def tLR (ta:TA):TE:=λσ H Q=>ta σ H λvs H1=>∃j:Int,vs= [.int j]/\ -(2 ^ 62)<=j/\j<=1000000/\∀l,H1 l=none->Q (.ref l) (upd H1 l (.lst ((zj j.toNat).map λ(i:Nat)=>V.int (i:Int))))
theorem ZOx {acc:Array xz} {n:Nat} (h:ItemsOf (λi v=>∃t,v=.int ((0:Int) + i * 1) t) acc n):Vals ((zj n).map λ(i:Nat)=>V.int (i:Int)) acc.toList:=by
 obtain ⟨h1,h2⟩:=h;refine ZBX (by simp [h1]) λi v u hv hu=> ?_
 have hi:i < n:=by have:=(zF.mp hv).1;simpa using this
 rw [zw,zO hi] at hv;have ev:v=V.int (i:Int):=by simpa using hv.symm
 obtain ⟨t,e⟩:=h2 i u (by rw [<-qM];exact hu);subst ev;refine ⟨t,?_⟩;rw [e]
 congr 1
 lia
theorem ZNz {ta:TA} {p p' pos pos':Pos} (hc:X.calm=true) (hg:Gl X "list") (hm:X.mg "list"=none) (hg2:Gl X "range") (hm2:X.mg "range"=none) (ha:PA X [e] ta) (hs:vQ [e] X.env= [(false,eval e X.env)]:=by rfl)
  (hs2:vQ [.Call (.Name "range" p') [e] [] pos'] X.env= [(false,eval (.Call (.Name "range" p') [e] [] pos') X.env)]:=by rfl):PE X (.Call (.Name "list" p) [.Call (.Name "range" p') [e] [] pos'] [] pos) (tLR ta):=by
 intro v8 s σ H Q I h;refine Call_ (Kg I hg hm Yj (PyProof.Rows.callWith_type1 ?_ hs2 rfl));rw [hs2];refine Calls.spliced_cons (Call_ (Kg I hg2 hm2 PyProof.Rows.boot_range (PyProof.Rows.callWith_type1 (thn (ha pos' v8 s σ H _ I h) λus s1 ⟨vs,H1,I1,r1,q1⟩=> ?_) hs rfl)));obtain ⟨j,rfl,b1,b2,q⟩:=q1;obtain ⟨u,rfl,ru⟩:=r1.one;obtain ⟨t,rfl⟩:=ru;refine call_range_1 (Calls.spliced_nil ?_)
 have hsz:Builtin.Range.rangeSize 0 j 1=(j.toNat:Int):=by rw [rangeSize_one];split <;> lia
 refine call_list_range (I.ok.hd hc) (IsRange.new ..) (small_one (by decide) (by decide) b1 (by lia)) hsz (by lia) λh' tk acc' c' hk hS' hacc=> ?_
 have I2:=I1.kept (t':=s1.toks + 1 + 1) (h':=s1.heap.push {cls:=.type "range",data:=.fields #[.int 0 s1.toks,.int j t,.int 1 (s1.toks + 1)]}) λb o e=>zJ _ e
 refine ⟨.ref _,_,I2.laid (o:=.lst ((zj j.toNat).map λ(i:Nat)=>V.int (i:Int))) (t':=tk) hk (zW _) ⟨?_,acc'.toList,c',ZOx hacc,by simpa using hS'⟩,rfl,q _ (I2.hok.fresh (zW _))⟩;rw [qW,List.length_range,xT];lia
noncomputable def dLR (t:DA):DE:=λS G=>(t S G).bind λds G1=>match ds with
 | [.int j]=>if inR j/\j<=1000000 then .ok (.ref G1.length) (G1++ [.lst (Cm 0 j.toNat)]) else .bad
 | _=>.bad
theorem ZKB {ta:DA} {p p' pos pos':Pos} (hc:X.calm=true) (hg:Gl X "list") (hm:X.mg "list"=none) (hg2:Gl X "range") (hm2:X.mg "range"=none) (ha:QA X E [e] ta) (hs:vQ [e] X.env= [(false,eval e X.env)]:=by rfl)
  (hs2:vQ [.Call (.Name "range" p') [e] [] pos'] X.env= [(false,eval (.Call (.Name "range" p') [e] [] pos') X.env)]:=by rfl):QE X E (.Call (.Name "list" p) [.Call (.Name "range" p') [e] [] pos'] [] pos) (dLR ta):=
 (ZNz hc hg hm hg2 hm2 ha hs hs2).mono λσ H Q h=>by
  obtain ⟨a,S,G,hk,rfl,s,r,h⟩:=h;refine ⟨a,S,G,hk,rfl,s,r,(Nx h).imp ?_⟩;rintro vs _ ⟨b,ds,G1,rfl,x,s1,q,-,h1⟩;split at h1
  ·rename_i j;split at h1
   ·rename_i hj;obtain ⟨v,rfl,rv⟩:=reps1 q
    cases (show v=V.int j from rv)
    refine ⟨j,rfl,hj.1.1,hj.2,λl hl=>Mj s1 ?_ h1 l hl⟩;unfold Cm;generalize zj j.toNat=L
    induction L with
    | nil=>exact rfl
    | cons k L ih=>exact ⟨_,_,rfl,(by show V.int (k:Int)=V.int (0 + (k:Int));rw [Int.zero_add]),ih⟩
   ·exact h1.elim
  ·exact h1.elim
noncomputable def Itd (lo:Int) (n:Nat):It:=⟨λi _=>i < n,λi H x H'=>H'=H/\x=.int (lo - i),λi _=>n<=i⟩
theorem ZOr {P:xW} {w:xj} {K:PySem.W.Frag} {tg:xJ} (it:xQ) (lo:Int) (n:Nat):Turn P w K tg (Itd lo n) [it] it (λi h=>IsRangeIter h it (lo + (i:Nat) * (-1)) ((n:Int) - (i:Nat)) (-1)) where
 mem:=by simp
 obj:=λi h st b hb=>by
  have e:b=it:=by simpa using hb
  subst e;exact ⟨_,st,λv z=>by have z':Data.fields _=Data.cell v:=z;cases z'⟩
 keep:=λi h h' st k=>k it (by simp) _ st
 item:=by
  intro X hP hw hK hc i v8 s σ H E I hf st hg;subst hP hw hK;obtain ⟨f0,f1,f2,f3,f4,f5⟩:=hf it (by simp);have W:=Walks.range (prog:=X.prog) (w:=X.w) (I.ok.hd hc) it lo (-1) n;refine W.item i s _ _ hg st λv h' tk hv st' kk=> ?_
  obtain ⟨t,rfl⟩:=hv;have I1:Inv X v8 σ H {s with heap:=h',toks:=tk}:=I.turned (λb o hb e=>kk b o (by simpa using hb) e) f0 f1 f3 f4 f5;refine ⟨_,rfl,Sg (s:={s with heap:=h',toks:=tk}) (n:="range_iterator") st' rfl rfl (by decide) ⟨.int (lo - i),H,I1,⟨t,?_⟩,⟨rfl,rfl⟩,st',λb hb=>(hf b hb).1⟩⟩
  congr 1
  lia
 done:=by intro X hP hw hK hc i v8 s σ H E I hf st hg;subst hP hw hK;obtain ⟨f0,f1,f2,f3,f4,f5⟩:=hf it (by simp);exact wpAny_pyNext_range_end (I.ok.hd hc) st (by have:n<=i:=hg;lia) λh' eb=>⟨rfl,I.turned (t':=s.toks) (λb o hb e=>eb b o hb e) f0 f1 f3 f4 f5⟩
 self:=λ_ _ _ _ _ st h=>wpAny_pyIter_rangeiter st h
theorem rangeSize_down (a b:Int):Builtin.Range.rangeSize a b (-1)=if b < a then a - b else 0:=by
 unfold Builtin.Range.rangeSize;rw [if_neg (by decide)];have e:(- (-1:Int))=1:=by decide
 rw [e,Int.ediv_one]
 split <;> lia
theorem small_down {a b:Int} (ha: -(2 ^ 62)<=a) (ha':a < 2 ^ 62) (hb: -(2 ^ 62)<=b) (hb':b < 2 ^ 62):Builtin.Range.small a b (-1)=true:=by
 unfold Builtin.Range.small;rw [rangeSize_down];simp only [Builtin.Range.rangeFitsLong,zC,jC,decide_eq_true_eq,beq_iff_eq,show¬((-1:Int) > 0) by decide,if_false]
 split <;> lia
noncomputable def iDn (ta:TA):TI:=λσ H R=>ta σ H λvs H1=>∃i j:Int,vs= [.int i,.int j,.int (-1)]/\(-(2 ^ 62)<=i/\i < 2 ^ 62/\ -(2 ^ 62)<=j/\j < 2 ^ 62)/\R (Itd i (i - j).toNat) H1
theorem ZLQ {tg a b c:xJ} {ta:TA} {p pos:Pos} (hg:Gl X "range") (hm:X.mg "range"=none) (ha:PA X [a,b,c] ta) (hs:vQ [a,b,c] X.env=(false,eval a X.env)::vQ [b,c] X.env:=by rfl) (hs2:(xy pos (vQ [b,c] X.env)).any (·.1)=false:=by rfl):
  PI X tg (.Call (.Name "range" p) [a,b,c] [] pos) (iDn ta):=by
 intro v8 s σ H R I h;refine Call_ (Kg I hg hm PyProof.Rows.boot_range (PyProof.Rows.callWith_type1 (thn (ha pos v8 s σ H _ I h) λus s1 ⟨vs,H1,I1,r1,q1⟩=> ?_) hs hs2));obtain ⟨i,j,e,⟨q1,q2,q3,q4⟩,q⟩:=q1;subst e;cases r1 with
 | cons r rr=>
  cases rr with
  | cons r' rr=>
   cases rr with
   | cons r'' rr=>
    cases rr;obtain ⟨t,rfl⟩:=r;obtain ⟨t',rfl⟩:=r';obtain ⟨t'',rfl⟩:=r'';refine call_range_3 (by decide) ?_ (.inl (PyProof.noPylong_small (by lia)));refine wpAny_pyIter_range (IsRange.new ..) (small_down q1 q2 q3 q4) ?_;have I2:Inv X v8 σ H1 {s1 with heap:=s1.heap.push {cls:=.type "range",data:=.fields #[.int i t,.int j t',.int (-1) t'']},toks:=s1.toks}:=I1.kept λb o e=>zJ _ e
    refine ⟨(s1.heap.push {cls:=.type "range",data:=.fields #[.int i t,.int j t',.int (-1) t'']}).objs.size,[(s1.heap.push {cls:=.type "range",data:=.fields #[.int i t,.int j t',.int (-1) t'']}).objs.size],_,_,H1,rfl,
     I2.kept (t':=s1.toks) λb o e=>zJ _ e,ZOr _ i (i - j).toNat,?_,λb hb=> ?_,q⟩
    ·have e1:i + ((0:Nat):Int) * (-1)=i:=by simp
     have e2:(((i - j).toNat:Nat):Int) - ((0:Nat):Int)=Builtin.Range.rangeSize i j (-1):=by rw [rangeSize_down];split <;> lia
     show IsRangeIter _ _ (i + ((0:Nat):Int) * (-1)) ((((i - j).toNat:Nat):Int) - ((0:Nat):Int)) (-1);rw [e1,e2];exact zB _ rfl
    ·have e:b=(s1.heap.push {cls:=.type "range",data:=.fields #[.int i t,.int j t',.int (-1) t'']}).objs.size:=by simpa using hb
     subst e;exact I2.Lh (zW _) (I2.hok.fresh (zW _))
noncomputable def Jx (lo:Int) (n:Nat):List D:=(zj n).map λ(k:Nat)=>D.int (lo - (k:Int))
noncomputable def rng3 (ds:List D) (G:DH):R ItD:=match ds with
 | [.int i,.int j,.int k]=>if inR i/\inR j/\k= -1 then .ok (.pure (Jx i (i - j).toNat)) G else .bad
 | _=>.bad
theorem ZLG (lo:Int) (n:Nat):RepI a (.pure (Jx lo n)) (Itd lo n):=by
 refine ⟨(zj n).map λ(k:Nat)=>V.int (lo - (k:Int)),?_,λb x i=>⟨λv hv=> ?_,λhl=> ?_⟩⟩
 ·unfold Jx;generalize zj n=l
  induction l with
  | nil=>exact rfl
  | cons k l ih=>exact ⟨_,_,rfl,rfl,ih⟩
 ·rw [zw] at hv;by_cases hi:i < n
  ·rw [zO hi] at hv;have hv':V.int (lo - (i:Int))=v:=by simpa using hv
   exact ⟨hi,λw H' y=>⟨y.2.trans hv',y.1⟩⟩
  ·rw [z5 (by simpa using hi)] at hv;cases hv
 ·show n<=i;simpa using hl
theorem ZFN {tg e' e'':xJ} {ta:DA} {p pos:Pos} (hg:Gl X "range") (hm:X.mg "range"=none) (ha:QA X E [e,e',e''] ta) (hs:vQ [e,e',e''] X.env=(false,eval e X.env)::vQ [e',e''] X.env:=by rfl) (hs2:(xy pos (vQ [e',e''] X.env)).any (·.1)=false:=by rfl):
  QI X E tg (.Call (.Name "range" p) [e,e',e''] [] pos) (Dg rng3 ta):=
 (ZLQ hg hm ha hs hs2).mono λσ H Q h=>by
  obtain ⟨a,S,G,hk,rfl,s,r,h⟩:=h;refine ⟨a,S,G,hk,rfl,s,r,(Ym h).imp ?_⟩;rintro vs _ ⟨b,ds,G1,rfl,x,s1,q,-,h1⟩;unfold rng3 at h1;split at h1
  ·rename_i i j k;split at h1
   ·rename_i hj;obtain ⟨hi,hj,rfl⟩:=hj;obtain ⟨v,r,e1,q1,v2,r2,e2,q2,v3,r3,e3,q3,q4⟩:=q
    cases (show v=V.int i from q1)
    cases (show v2=V.int j from q2)
    cases (show v3=V.int (-1) from q3)
    cases (show r3= [] from q4)
    subst e3;subst e2;exact ⟨i,j,e1,⟨hi.1,hi.2,hj.1,hj.2⟩,h1 b _ (Ext.refl b) s1 (ZLG i (i - j).toNat)⟩
   ·exact h1.elim
  ·exact h1.elim
end
section
variable {prog:xW} {w:xj} {A:xZ} {E:xz->xY->Prop} {s:xY}
end
section
variable {X:Cx} {E:XK}
end
end DL
namespace DL
open PySem PySem.Spec L2
variable {d:D}
noncomputable def Jl (c f:Str) (d:D) (G:DH):R D:=match Kc c d G with
 | some fs=>match fs.lookup f with
  | some v=>.ok v G
  | none=>.bad
 | none=>.bad
noncomputable def Qg (c f:Str) (o d:D) (S:DSt) (G:DH):SR:=match o with
 | .ref i=>match Kc c o G with
  | some fs=>if fs.length < 1000 then .nx S (G.set i (.ins c (Hr f d fs))) else .bad
  | none=>.bad
 | _=>.bad
noncomputable def Us (c m:Str) (F:List D->DH->R D) (t:DA) (S:DSt) (o:D) (G:DH):R D:=match Kc c o G with
 | some fs=>match fs.lookup m with
  | none=>(t S G).bind λds G2=>F (o::ds) G2
  | some _=>.bad
 | none=>.bad
noncomputable def V3 (F:List D->DH->R D) (c:Str) (ds:List D) (G1:DH):R D:=(F (.ref G1.length::ds) (G1++ [.ins c []])).bind λv G2=>match v with
 | .non=>.ok (.ref G1.length) G2
 | _=>.bad
section
variable {S:DSt} {G:DH} {c f m:Str} {t to tv:DE} {ta:DA} {F:List D->DH->R D} {i:Nat} {fs:List (Str×D)} {v d:D}
@[simp] theorem ev_fld:Ex c t f S G=(t S G).bind λd G1=>Jl c f d G1:=id rfl
@[simp] theorem Px:Gy c to tv f S G=(tv S G).toS λd G1=>(to S G1).toS λo G2=>Qg c f o d S G2:=id rfl
@[simp] theorem ZS3:Ii c m F to ta S G=(to S G).bind λo G1=>Us c m F ta S o G1:=id rfl
@[simp] theorem ZSq:Xz c F ta S G=(ta S G).bind λds G1=>V3 F c ds G1:=id rfl
theorem ZBi (h:G[i]? =some (.ins c fs)):Kc c (.ref i) G=some fs:=by unfold Kc;simp only [h,if_true]
theorem N6 (h:G[i]? =some (.ins c fs)) (h2:fs.lookup f=some v):Jl c f (.ref i) G=.ok v G:=by unfold Jl;rw [ZBi h];simp only [h2]
theorem ZK7 (h:G[i]? =some (.ins c fs)) (hl:fs.length < 1000):Qg c f (.ref i) d S G=.nx S (G.set i (.ins c (Hr f d fs))):=by unfold Qg;simp only [ZBi h,hl,if_true]
theorem ZKS (h:G[i]? =some (.ins c fs)) (h2:fs.lookup m=none):Us c m F ta S (.ref i) G=(ta S G).bind λds G2=>F (.ref i::ds) G2:=by unfold Us;rw [ZBi h];simp only [h2]
@[simp] theorem ev_LR:dLR ta S G=(ta S G).bind λds G1=>match ds with
 | [.int j]=>if inR j/\j<=1000000 then .ok (.ref G1.length) (G1++ [.lst (Cm 0 j.toNat)]) else .bad
 | _=>.bad:=id rfl
@[simp] theorem ZJo {i j:Int} (hi:inR i) (hj:inR j):rng3 [.int i,.int j,.int (-1)] G=.ok (.pure (Jx i (i - j).toNat)) G:=by simp [rng3,hi,hj]
theorem ZFL {lo:Int}:Jx lo 0= []:=rfl
theorem ZGY {lo:Int} {n:Nat}:Jx lo (n + 1)=.int lo::Jx (lo - 1) n:=by
 unfold Jx;rw [qH,zA,qU]
 congr 1
 ·simp
 ·refine zT λk _=> ?_
  simp only [Function.comp]
  congr 1
  lia
theorem ZKP {ns:List Int} {k:Int} (h:J7 d G=some (ns.map D.int)) (hm:k∈ns) (hl:ns.length<=1000000):Rj d [.int k] G=.ok (.int (ns.idxOf k)) G:=by unfold Rj;simp only [h,ZBL,hm,hl,and_self,if_true]
theorem ZKj {G G':DH} (hl:G'.length=G.length) (hb:bel G.length d=true):tidy G (.ok d G')=.ok d G':=by
 unfold tidy;simp only [hb,if_true];split
 ·rename_i h;rw [List.take_of_length_le (by lia)] at h;rw [h]
 ·rfl
theorem ZRe {G G':DH} (h:G'.take G.length≠G):tidy G (.ok d G')=.ok d G':=by unfold tidy;simp only [h,if_false]
end
end DL
namespace DL
open PySem PySem.Spec L2
open PyProof.Rows hiding St
noncomputable def Ox (x:Str) (n:Int):Str:=if n < 1 then Str.empty else if (n == 1 || x.length == 0)=true then x else ⟨(zV n.toNat x.cps).foldl (·++·) #[]⟩
theorem ZBW {a:Array Nat}:∀(n:Nat) (b:Array Nat),((zV n a).foldl (·++·) b).toList=b.toList++(zV n a.toList).flatten
 | 0,b=>by simp
 | n + 1,b=>by rw [qZ,jV,ZBW n (b++a),qZ,qC];simp
theorem ZLH {a:Array Nat} (n:Nat):((zV n a).foldl (·++·) #[]).size=n * a.size:=by rw [<-q9,ZBW];simp
theorem ZLS {x:Str} {n:Int}:(Ox x n).cps.toList=(zV n.toNat x.cps.toList).flatten:=by
 unfold Ox;split
 ·rename_i h;have e:n.toNat=0:=by lia
  rw [e];rfl
 ·rename_i h;split
  ·rename_i hx;rw [jC,beq_iff_eq,beq_iff_eq] at hx;rcases hx with rfl | hx
   ·simp
   ·have e:x.cps.toList= []:=by have:x.cps.size=0:=hx;rw [<-q9] at this;exact qS this
    rw [e];simp
  ·show ((zV n.toNat x.cps).foldl (·++·) #[]).toList=_
   rw [ZBW];simp
noncomputable def Bo:D->D->DH->R D
 | .int i,.int j,G=>if MulB i j then .ok (.int (i * j)) G else .bad
 | .str x,.int n,G=>if -1000<=n/\n<=1000/\x.length<=1000 then .ok (.str (Ox x n)) G else .bad
 | _,_,_=>.bad
section
variable {X:Cx} {E:XK}
theorem ZOm:OpR X (xA .Mult) (λx y H Q=>∃i n,x=.str i/\y=.int n/\(-1000<=n/\n<=1000/\i.length<=1000)/\Q (.str (Ox i n)) H):=by
 intro v8 s σ H x y v u Q I rx ry h;obtain ⟨i,n,rfl,rfl,⟨h1,h2,h3⟩,q⟩:=h;obtain ⟨t,rfl⟩:=rx;obtain ⟨t',rfl⟩:=ry;have hlen:∀m:Nat,m<=1000->i.length * m<=1000000:=λm hm=>zD (Nat.mul_le_mul h3 hm) (by decide)
 refine P.mul_str ?_ (λhn hx=> ?_) (λhn hx=> ?_) ?_
 ·rw [decide_eq_false (by lia),decide_eq_false (by lia)];rfl
 ·intro hgt;have hm:0 < n:=by lia
  have:(i.length:Int) * n<=2 ^ 63 - 1:=by have h4:(i.length:Int) * n<=1000 * 1000:=Int.mul_le_mul (by lia) h2 (by lia) (by lia);lia
  have h5:=(Int.le_ediv_iff_mul_le hm).mpr this;lia
 ·have:=hlen n.toNat (by lia);unfold Builtin.Str.tooLong;rw [xT];exact decide_eq_false (by lia)
 ·unfold Ox at q;split
  ·rename_i hn;rw [if_pos hn] at q;exact ⟨by decide,.str Str.empty,H,I.tok _,⟨_,rfl⟩,q⟩
  ·rename_i hn;rw [if_neg hn] at q;split
   ·rename_i hx;rw [if_pos hx] at q;exact ⟨.str i,H,I,⟨t,rfl⟩,q⟩
   ·rename_i hx;rw [if_neg hx] at q;refine ⟨?_,.str _,H,I.tok _,⟨_,rfl⟩,q⟩
    show ((zV n.toNat i.cps).foldl (·++·) #[]).size<=sizeLine
    have h6:i.cps.size<=1000:=h3;have h7:=Nat.mul_le_mul (show n.toNat<=1000 by lia) h6;rw [ZLH,xT];lia
theorem Ds:OpR X (xA .Mult) (lR2 X.K E Bo):=Hv (ZNF.or ZOm) λa G d e x y Q hk s rd re q=>by
 cases d <;> cases e <;> first
  | exact q.elim
  | (
    rename_i i j;unfold Bo at q;dsimp only at q;split at q
    ·first
     | exact .inl ⟨_,_,rd,re,by assumption,q a _ (Ext.refl a) s rfl⟩
     | exact .inr ⟨_,_,rd,re,by assumption,q a _ (Ext.refl a) s rfl⟩
    ·exact q.elim)
end
section
variable {i j:Int} {G:DH}
theorem Jy (h1: -(2 ^ 64) < i) (h2:i < 2 ^ 64):Bo (.int i) (.int j) G=.ok (.int (i * j)) G:=if_pos (.inl (.inl ⟨h1,h2⟩))
theorem Ku (h1: -(2 ^ 64) < j) (h2:j < 2 ^ 64):Bo (.int i) (.int j) G=.ok (.int (i * j)) G:=if_pos (.inl (.inr ⟨h1,h2⟩))
@[simp] theorem ZSO {n:Nat} (h:n < 18446744073709551616):Bo (.int (no_index (OfNat.ofNat n))) (.int j) G=.ok (.int (OfNat.ofNat n * j)) G:=
 Jy (by have:(0:Int)<=(OfNat.ofNat n:Int):=Int.natCast_nonneg n;lia) (by have:(OfNat.ofNat n:Int) < 18446744073709551616:=Int.ofNat_lt.mpr h;lia)
@[simp] theorem ZSY {n:Nat} (h:n < 18446744073709551616):Bo (.int i) (.int (no_index (OfNat.ofNat n))) G=.ok (.int (i * OfNat.ofNat n)) G:=
 Ku (by have:(0:Int)<=(OfNat.ofNat n:Int):=Int.natCast_nonneg n;lia) (by have:(OfNat.ofNat n:Int) < 18446744073709551616:=Int.ofNat_lt.mpr h;lia)
theorem ZKs {x:Str} {n:Int} (h: -1000<=n/\n<=1000/\x.length<=1000):Bo (.str x) (.int n) G=.ok (.str (Ox x n)) G:=if_pos h
end
section
variable {X:Cx} {E:XK} {e st:xJ} {te:TE} {ts:TO} {p2 pos:Pos}
end
section
variable {S:DSt} {G:DH}
end
section
variable {X:Cx} {E:XK}
end
section
variable {S:DSt} {G:DH}
end
section
variable {X:Cx} {v8:List (xQ×Obj)} {σ:St} {H:Hp} {s:xY} {N:List Str} {scope:xK} {caps:List Nat} {x qual:Str} {f:xQ} {cd:xz} {A:xZ}
end
section
variable {X:Cx} {v8:List (xQ×Obj)} {σ:St} {s:xY} {scope:xK} {a:Wd}
end
def ltK (ks:List Int) (i j:Nat):Bool:=decide (ks.getD i 0 < ks.getD j 0)
section
variable {prog:xW} {w:xj} {A:xZ} {E:xz->xY->Prop} {s:xY}
end
section
variable {X:Cx} {v8:List (xQ×Obj)} {σ:St} {H:Hp} {s:xY} {h':Heap} {m:Str->Option xz}
end
section
variable {X:Cx} {v8:List (xQ×Obj)} {σ:St} {N:List Str} {scope:xK} {caps:List Nat} {x:Str} {f:xQ} {A:xZ} {a:Wd} {S:DSt} {body:xJ} {te:DE} {params:Arguments} {pm ctv:xz} {c':xQ} {ob oc:Obj} {vs0:Array xz} {t0:Tok} {E:XK}
 {Dd kS:xQ} {e1:Nat} {m:Str->Option xz} {h₀:Heap} {Q:VK}
end
end DL
namespace DL
open PySem PySem.Spec L2
open PyProof.Rows hiding St
open PySem.W (KatKeys KatFin katRev KatBack)
section
variable {prog:xW} {w:xj} {A:xZ} {E:xz->xY->Prop} {s:xY} {h₀:Heap} {L a kS:xQ} {m:Str->Option xz} {P:PySem.Fin->xY->Prop}
end
end DL
namespace DL
open PySem PySem.Spec L2
open PyProof.Rows hiding St
section
variable {X:Cx} {v8:List (xQ×Obj)} {σ:St} {N:List Str} {scope:xK} {caps:List Nat} {x:Str} {f:xQ} {A:xZ} {a:Wd} {S:DSt} {body:xJ} {te:DE} {params:Arguments} {pm ctv:xz} {c':xQ} {ob oc:Obj} {vs0:Array xz} {t0:Tok}
 {Dd kS:xQ} {e1:Nat} {m:Str->Option xz} {h₀:Heap} {Q:VK}
end
section
variable {X:Cx} {v8:List (xQ×Obj)} {σ:St} {N:List Str} {scope:xK} {caps:List Nat} {x:Str} {f:xQ} {A:xZ} {a:Wd} {S:DSt} {body:xJ} {te:DE} {params:Arguments} {pm ctv:xz} {c':xQ} {ob oc:Obj} {vs0:Array xz} {t0:Tok} {Q:VK}
end
section
variable {X:Cx} {N:List Str} {scope:xK} {caps:List Nat} {x:Str} {body:xJ} {te:DE} {params:Arguments} {e:xJ} {tn:DA} {p p' pos pos' lp kp kp' cp:Pos} {C m:Str} {cj:Nat}
end
end DL
namespace DL
open PySem PySem.W L2
variable {h:Heap} {C:xQ} {m x q:Str} {st:xq}
noncomputable def Pq:List Obj->Nat->v5
 | [],_=> []
 | o::r,n=>match o.cls,o.data with
  | .none,.fields _=>Pq r (n + 1)
  | _,.freed=>Pq r (n + 1)
  | _,_=>(n,o)::Pq r (n + 1)
def T7 (h:Heap):v5:=Pq h.objs.toList 0
theorem ZHJ {a:xQ} {o:Obj}:∀{l:List Obj} {n:Nat},(Pq l n).lookup a=some o->n<=a/\l[a - n]? =some o/\∀x y z,o≠⟨x,y,.freed,z⟩
 | [],n,h=>by cases h
 | p::r,n,h=>by
  have next:(Pq r (n + 1)).lookup a=some o->n<=a/\(p::r)[a - n]? =some o/\∀x y z,o≠⟨x,y,.freed,z⟩:=λh=>by obtain ⟨h1,h2,h3⟩:=ZHJ h;obtain ⟨k,rfl⟩:=Nat.exists_eq_add_of_le h1;rw [Nat.add_sub_cancel_left] at h2;refine ⟨zD (j3 n) h1,?_,h3⟩;rw [show n + 1 + k - n=k + 1 by rw [Nat.add_assoc,Nat.add_sub_cancel_left,Nat.add_comm],jk];exact h2
  unfold Pq at h;split at h
  ·exact next h
  ·exact next h
  ·rename_i hz hf;rw [jZ] at h;split at h
   ·rename_i e;have e':a=n:=by simpa using e
    subst e';cases h;refine ⟨zW _,by simp,λx y z q=> ?_⟩;subst q;exact hz rfl
   ·exact next h
theorem ZOF (h:Heap):(T7 h).In h:=λa o e=>by
 obtain ⟨_,h2,h3⟩:=ZHJ e;have h4:h.objs[a]? =some o:=by simpa using h2
 unfold Heap.get?;rw [h4];split
 ·rename_i q;cases q;exact absurd rfl (h3 _ _ _)
 ·rfl
noncomputable def Lg (p:xW) (N:Nat) (w:xj):Heap:=match openEnds vZ p w N with
 | some s=>s.heap
 | none=>default
noncomputable def Stays (p:xW) (N:Nat) (w:xj) (h:Heap):Prop:=∀b o,(Lg p N w).get? b=some o->h.get? b=some o
theorem Stays.in {p:xW} {N:Nat} {w:xj} (x:Stays p N w h):(T7 (Lg p N w)).In h:=λa o e=>x a o (ZOF _ a o e)
noncomputable def Z0 (p:xW) (N:Nat):Hook:=
 ⟨Heap,λs=>s.heap,Lg p N,Stays p N,λw s e b o q=>by rw [show s.heap=Lg p N w from e];exact q,λw h h' x k b o q=>k b o (x b o q)⟩
section
variable {p q:xW} {loose:List Str} {Xt:xY->Bool} {N:Nat} {β:Type} {see:Heap->β} {val:β}
theorem ZNf (E:∀w,(openEnds vZ p w N).map (λs=>(openSeen q loose (xE p.main.body) Xt true s,see s.heap))=some (openGood q loose,val)):
  LeftO p q loose Xt (Z0 p N).obs (Z0 p N).val N:=λw=>by
 obtain ⟨s,h1,h2⟩:=zP.mp (E w);show Option.map _ _=some (openGood q loose,Lg p N w);unfold Lg;rw [h1];show some (openSeen q loose (xE p.main.body) Xt true s,s.heap)=_;rw [(Prod.mk.inj h2).1]
theorem ZOk (E:∀w,(openEnds vZ p w N).map (λs=>(openSeen q loose (xE p.main.body) Xt true s,see s.heap))=some (openGood q loose,val)) (w:xj):see (Lg p N w)=val:=by obtain ⟨s,h1,h2⟩:=zP.mp (E w);unfold Lg;rw [h1];exact (Prod.mk.inj h2).2
end
noncomputable def dOf (s:xq):DefRec:=match s with
 | Stmt.FunctionDef n a b _ _ _ s _ _ p=>⟨n,a,b,s,p⟩
 | _=>⟨Str.empty,⟨[],[],none,[],[],none,[]⟩,[],{kind:=.module,names:= [],isGenerator:=false,isCoroutine:=false,more:= []},⟨0,0,0,0⟩⟩
noncomputable abbrev XtOf (l:OpenLaw) (q:xW) (s:xY):Bool:=xlAt q [] s && recOk l.row.toRowW.records s
theorem holds_top {l:OpenLaw} {q:xW} {loose:List Str} {N:Nat} {β:Type} {see:Heap->β} {val:β} {d:DefRec} (well:l.wellSaid=true)
  (E:∀w,(openEnds vZ l.prog w N).map (λs=>(openSeen q loose (xE l.prog.main.body) (XtOf l q) true s,see s.heap))=some (openGood q loose,val))
  (hdef:defOf q l.row.name=some (d,[])) (hp:l.row.prog.theDef l.row.name=some (d.params,d.body,d.scope)) (hk:kwWritten? d.params.kwonlyargs d.params.kw_defaults=some []) (hwr:(!l.row.writes || l.row.records.isEmpty)=true)
  (ok:(chainsOk q && opensWell l.row.prog && (frees l.row.toRowW && l.row.within.isEmpty))=true) (hb:l.row.prog.bare) (hw:l.row.toRowW.promised)
  (call:WalkO q loose (XL q []) (Stays l.prog N) l.row.toRowW d [] λf vs=>PySem.call f vs):l.Holds:=
 holds_law well λsaid=>holds_open (r:=l.row) (q:=q) (loose:=loose) (Xt:=XtOf l q) (XP:=XL q []) (YP:=Stays l.prog N) (N:=N) (ZNf E) (Z0 l.prog N).of (Z0 l.prog N).keeps
  (λs e=>xl_of s (jx.mp e).1) XL.keeps hdef hp hk (λs e=>recFacts_of (jx.mp e).2) hwr said ok hb hw call
noncomputable def Bq (K:v5) (n:Str):xQ:=match nsIn K xP n with
 | some (some (.ref f))=>f
 | _=>0
noncomputable def gOk (K:v5) (n:Str):Bool:=match nsIn K xP n with
 | some (some (.ref _))=>true
 | _=>false
theorem ZJT {K:v5} {n:Str} (h:gOk K n=true):nsIn K xP n=some (some (.ref (Bq K n))):=by
 unfold gOk at h;unfold Bq;split at h
 ·rename_i e;rw [e]
 ·cases h
noncomputable def Hq (K:v5) (C:xQ) (m:Str):xQ:=match findIn K (.ref C) m with
 | some (some (.ref f))=>f
 | _=>0
noncomputable def mOk (K:v5) (C:xQ) (m:Str):Bool:=match findIn K (.ref C) m with
 | some (some (.ref f))=>isFn K (.ref f)
 | _=>false
theorem ZGg {K:v5} (h:mOk K C m=true):findIn K (.ref C) m=some (some (.ref (Hq K C m)))/\isFn K (.ref (Hq K C m))=true:=by
 unfold mOk at h;unfold Hq;split at h
 ·rename_i e;rw [e];exact ⟨rfl,h⟩
 ·cases h
noncomputable def noF (K:v5) (C:xQ) (m:Str):Bool:=match findIn K (.ref C) m with
 | some none=>true
 | _=>false
theorem ZOy {K:v5} (h:noF K C m=true):findIn K (.ref C) m=some none:=by
 unfold noF at h;split at h
 ·assumption
 ·cases h
noncomputable def zOk (K:v5) (n:Str):Bool:=match nsIn K xP n with
 | some none=>true
 | _=>false
theorem ZLw {K:v5} {n:Str} (h:zOk K n=true):nsIn K xP n=some none:=by
 unfold zOk at h;split at h
 ·assumption
 ·cases h
noncomputable def ZCP (K:v5) (C:xQ):Bool:=match findIn K (.ref C) "__setattr__" with
 | some (some (.builtin s))=>s == "object.__setattr__"
 | _=>false
theorem ZK3 {K:v5} (h:ZCP K C=true):findIn K (.ref C) "__setattr__"=some (some (.builtin "object.__setattr__")):=by
 unfold ZCP at h;split at h
 ·rename_i e;rw [e,beq_iff_eq.mp h]
 ·cases h
noncomputable def iOk (K:v5) (n:Str) (v:Int):Bool:=match nsIn K xP n with
 | some (some (.int u _))=>decide (u=v)
 | _=>false
noncomputable def sOk (K:v5) (n:Str) (v:Str):Bool:=match nsIn K xP n with
 | some (some (.str u _))=>decide (u=v)
 | _=>false
noncomputable def Ek (K:v5) (n:Str):Tok:=match nsIn K xP n with
 | some (some (.int _ t))=>t
 | some (some (.str _ t))=>t
 | _=>0
theorem ZMZ {K:v5} {n:Str} {v:Int} (h:iOk K n v=true):nsIn K xP n=some (some (.int v (Ek K n))):=by
 unfold iOk at h;unfold Ek;split at h
 ·rename_i e;rw [e,of_decide_eq_true h]
 ·cases h
theorem ZPU {K:v5} {n:Str} {v:Str} (h:sOk K n v=true):nsIn K xP n=some (some (.str v (Ek K n))):=by
 unfold sOk at h;unfold Ek;split at h
 ·rename_i e;rw [e,of_decide_eq_true h]
 ·cases h
noncomputable def Oh (K:v5) (f:xQ):Obj:=match K.lookup f with
 | some o=>o
 | none=>⟨.none,none,.plain,#[]⟩
noncomputable def Dw (K:v5) (f:xQ):xX:=match (Oh K f).data with
 | .func fd=>fd
 | _=>default
def ZKX:xz->Bool
 | .none=>true
 | _=>false
def ZKZ:FuncBody->Option (List xq)
 | .stmts b=>some b
 | _=>none
noncomputable def Yw (K:v5) (x q:Str) (f:xQ):Bool:=match K.lookup f with
 | some ⟨_,_,.func fd,_⟩=>decide (fd.name=x) && decide (fd.qualname=q) && (fd.globals == xP && fd.builtins == builtinsNs && fd.closure.isEmpty && ZKX fd.defaults) && (codeIn K fd.code q && keepIn K (.ref f))
 | _=>false
abbrev DefTxt:=Arguments×Option (List xq)×xK
noncomputable def Xr (K:v5) (f:xQ):DefTxt:=((Dw K f).params,ZKZ (Dw K f).body,(Dw K f).scope)
def Xu (st:xq):DefTxt:=(Ke st,some (Ip st),Ax st)
noncomputable abbrev FnSaid (K:v5) (x q:Str) (st:xq) (f:xQ):Prop:=
 K.lookup f=some ⟨(Oh K f).cls,(Oh K f).dict,.func (fnOf x q (Ke st) (Ip st) (Ax st) .none (Dw K f).kwdefaults (Dw K f).doc (Dw K f).pyModule (Dw K f).annotations (Dw K f).code (Dw K f).closureTuple),(Oh K f).slots⟩/\
  codeIn K (Dw K f).code q=true/\keepIn K (.ref f)=true
theorem ZI8 {K:v5} {f:xQ} (h:Yw K x q f=true) (t:Xr K f=Xu st):FnSaid K x q st f:=by
 unfold Yw at h;split at h
 ·rename_i oc od fd sl e;have eo:Oh K f=⟨oc,od,.func fd,sl⟩:=by unfold Oh;rw [e]
  have ef:Dw K f=fd:=by unfold Dw;rw [eo]
  unfold Xr Xu at t;rw [ef] at t;obtain ⟨t1,t2⟩:=Prod.mk.inj t;obtain ⟨t2,t3⟩:=Prod.mk.inj t2;simp only [zC,decide_eq_true_eq,beq_iff_eq,List.isEmpty_iff] at h;obtain ⟨⟨⟨h1,h2⟩,⟨⟨h3,h4⟩,h5⟩,h6⟩,h7,h8⟩:=h;unfold FnSaid;rw [ef,eo,e];refine ⟨?_,h7,h8⟩;have h6':fd.defaults=.none:=by
   revert h6
   generalize fd.defaults=df;intro h6
   cases df <;> first | rfl | cases h6
  have h9:fd.body=.stmts (Ip st):=by
   revert t2
   generalize fd.body=bd;intro t2
   cases bd <;> first | (cases t2;rfl) | (cases t2)
  have ef':fd=fnOf x q (Ke st) (Ip st) (Ax st) .none fd.kwdefaults fd.doc fd.pyModule fd.annotations fd.code fd.closureTuple:=by show FuncData.mk fd.name fd.qualname fd.params fd.body fd.scope fd.globals fd.closure fd.defaults fd.kwdefaults fd.doc fd.pyModule fd.annotations fd.code fd.closureTuple fd.builtins=_;rw [h1,h2,t1,h9,t3,h3,h5,h6',h4]
  exact congrArg (λz=>some (Obj.mk oc od (.func z) sl)) ef'
 ·cases h
noncomputable def strsOf:List xz->Option (List Str)
 | []=>some []
 | .str s _::r=>(strsOf r).map (s::·)
 | _::_=>none
theorem Yo:∀{l:List xz} {ss:List Str},strsOf l=some ss->Vals (ss.map V.str) l
 | [],ss,h=>by cases h;exact .nil
 | v::r,ss,h=>by
  unfold strsOf at h;split at h
  ·rename_i q;cases q
  ·rename_i s t r' q;cases q;obtain ⟨ss',h1,rfl⟩:=zP.mp h;exact .cons ⟨_,rfl⟩ (Yo h1)
  ·cases h
noncomputable def ZB0 (K:v5) (n:Str) (vs:List Str):Bool:=match nsIn K xP n with
 | some (some (.ref p))=>(match K.lookup p with
   | some ⟨.type t,_,.seq its _,_⟩=>t == "tuple" && decide (strsOf its.toList=some vs) && Nat.ble its.toList.length 1000
   | _=>false)
 | _=>false
noncomputable abbrev GtSaid (K:v5) (n:Str) (vs:List Str):Prop:=∃(p:xQ) (od:Option xQ) (sl:Array (Option xz)) (k:Nat) (its:List xz),nsIn K xP n=some (some (.ref p))/\K.lookup p=some ⟨.type "tuple",od,.seq its.toArray k,sl⟩/\its.length<=1000/\Vals (vs.map V.str) its
theorem ZNC {K:v5} {n:Str} {vs:List Str} (h:ZB0 K n vs=true):GtSaid K n vs:=by
 unfold ZB0 at h;split at h
 ·rename_i p e;split at h
  ·rename_i t od its k sl e2;simp only [zC,beq_iff_eq,decide_eq_true_eq] at h;obtain ⟨⟨rfl,h2⟩,h3⟩:=h;exact ⟨p,od,sl,k,its.toList,e,by rw [e2],Nat.le_of_ble_eq_true h3,Yo h2⟩
  ·cases h
 ·cases h
noncomputable def ZAF (K:v5) (n:Str) (kvs:List (Str×Str)):Bool:=match nsIn K xP n with
 | some (some (.ref p))=>(match K.lookup p with
   | some ⟨.type t,_,.dict es _,_⟩=>t == "dict" && !(p == sysModules) && decide (strsOf (es.toList.map (·.key))=some (kvs.map (·.1))) && decide (strsOf (es.toList.map (·.val))=some (kvs.map (·.2)))
   | _=>false)
 | _=>false
noncomputable abbrev GdSaid (K:v5) (n:Str) (kvs:List (Str×Str)):Prop:=∃(p:xQ) (od:Option xQ) (sl:Array (Option xz)) (k:Nat) (es:Array DictEntry),nsIn K xP n=some (some (.ref p))/\K.lookup p=some ⟨.type "dict",od,.dict es k,sl⟩/\(p == sysModules)=false/\Vals ((kvs.map (·.1)).map V.str) (es.toList.map (·.key))/\Vals ((kvs.map (·.2)).map V.str) (es.toList.map (·.val))
theorem ZQJ {K:v5} {n:Str} {kvs:List (Str×Str)} (h:ZAF K n kvs=true):GdSaid K n kvs:=by
 unfold ZAF at h;split at h
 ·rename_i p e;split at h
  ·rename_i t od es k sl e2;simp only [zC,beq_iff_eq,decide_eq_true_eq,Bool.not_eq_true'] at h;obtain ⟨⟨⟨rfl,h2⟩,h3⟩,h4⟩:=h;exact ⟨p,od,sl,k,es,e,by rw [e2],h2,Yo h3,Yo h4⟩
  ·cases h
 ·cases h
inductive Ask where
 | fn (n:Str) (st:xq)
 | mt (c m q:Str) (st:xq)
 | cl (c:Str)
 | no (c x:Str)
 | z (n:Str)
 | gi (n:Str) (v:Int)
 | gs (n v:Str)
 | gt (n:Str) (vs:List Str)
 | gd (n:Str) (kvs:List (Str×Str))
noncomputable def Ask.chk (K:v5):Ask->Bool
 | .fn n _=>gOk K n && Yw K n n (Bq K n)
 | .mt c m q _=>mOk K (Bq K c) m && Yw K m q (Hq K (Bq K c) m)
 | .cl c=>gOk K c && (plainGet K (Bq K c) Str.empty && hasDictIn K (Bq K c) && plainOver K (Bq K c)) && (ZCP K (Bq K c) && makesIn K (Bq K c) && keepIn K (.ref (Bq K c)))
 | .no c x=>noF K (Bq K c) x
 | .z n=>zOk K n
 | .gi n v=>iOk K n v
 | .gs n v=>sOk K n v
 | .gt n vs=>ZB0 K n vs
 | .gd n kvs=>ZAF K n kvs
noncomputable def Ask.txt (K:v5):Ask->Option DefTxt
 | .fn n _=>some (Xr K (Bq K n))
 | .mt c m _ _=>some (Xr K (Hq K (Bq K c) m))
 | _=>none
noncomputable def Ask.want:Ask->Option DefTxt
 | .fn _ st=>some (Xu st)
 | .mt _ _ _ st=>some (Xu st)
 | _=>none
noncomputable def Ask.Said (K:v5):Ask->Prop
 | .fn n st=>nsIn K xP n=some (some (.ref (Bq K n)))/\FnSaid K n n st (Bq K n)
 | .mt c m q st=>findIn K (.ref (Bq K c)) m=some (some (.ref (Hq K (Bq K c) m)))/\isFn K (.ref (Hq K (Bq K c) m))=true/\FnSaid K m q st (Hq K (Bq K c) m)
 | .cl c=>nsIn K xP c=some (some (.ref (Bq K c)))/\plainGet K (Bq K c) Str.empty=true/\hasDictIn K (Bq K c)=true/\plainOver K (Bq K c)=true/\
   findIn K (.ref (Bq K c)) "__setattr__"=some (some (.builtin "object.__setattr__"))/\makesIn K (Bq K c)=true/\keepIn K (.ref (Bq K c))=true
 | .no c x=>findIn K (.ref (Bq K c)) x=some none
 | .z n=>nsIn K xP n=some none
 | .gi n v=>nsIn K xP n=some (some (.int v (Ek K n)))
 | .gs n v=>nsIn K xP n=some (some (.str v (Ek K n)))
 | .gt n vs=>GtSaid K n vs
 | .gd n kvs=>GdSaid K n kvs
theorem Ask.said {K:v5}:∀{a:Ask},a.chk K=true->a.txt K=a.want->a.Said K
 | .fn n st,h,t=>by obtain ⟨h1,h2⟩:=jx.mp h;exact ⟨ZJT h1,ZI8 h2 (Option.some.inj t)⟩
 | .mt c m q st,h,t=>by obtain ⟨h1,h2⟩:=jx.mp h;exact ⟨(ZGg h1).1,(ZGg h1).2,ZI8 h2 (Option.some.inj t)⟩
 | .cl c,h,_=>by simp only [Ask.chk,zC] at h;obtain ⟨⟨h1,⟨h2,h3⟩,h4⟩,⟨h5,h6⟩,h7⟩:=h;exact ⟨ZJT h1,h2,h3,h4,ZK3 h5,h6,h7⟩
 | .no c x,h,_=>ZOy h
 | .z n,h,_=>ZLw h
 | .gi n v,h,_=>ZMZ h
 | .gs n v,h,_=>ZPU h
 | .gt n vs,h,_=>ZNC h
 | .gd n kvs,h,_=>ZQJ h
def AllSaid (K:v5):List Ask->Prop
 | []=>True
 | a::r=>a.Said K/\AllSaid K r
theorem ZHZ {K:v5}:∀{l:List Ask},(l.all (Ask.chk K),l.map (Ask.txt K))=(true,l.map Ask.want)->AllSaid K l
 | [],_=>trivial
 | a::r,h=>by obtain ⟨h1,h2⟩:=Prod.mk.inj h;rw [qL] at h1;obtain ⟨h3,h4⟩:=jx.mp h1;rw [zA,zA] at h2;obtain ⟨h5,h6⟩:=List.cons.inj h2;exact ⟨Ask.said h3 h5,ZHZ (by rw [h4,h6])⟩
noncomputable def ZCc (l:List Ask) (h:Heap):Bool×List (Option DefTxt):=(l.all (Ask.chk (T7 h)),l.map (Ask.txt (T7 h)))
abbrev ZDs (l:List Ask):Bool×List (Option DefTxt):=(true,l.map Ask.want)
theorem ZRC {K:v5} {a:Str} {f:xQ} {fd:xX} {s:xY} {v:xz} (F:Fun K x q st f fd)
  (h:∀(kV doc pm:xz) (an:Option xQ) (cdv ct:xz) (u:xz),bindArgs (fnOf x q (Ke st) (Ip st) (Ax st) .none kV doc pm an cdv ct) ⟨[u],[]⟩=pure [(a,u)]):BindsTo s fd ⟨[v],[]⟩ [(a,v)]:=by
 obtain ⟨oc,od,kV,doc,pm,an,cdv,ct,osl,rfl,lk,hcd⟩:=F.ex;exact .of_eq (h kV doc pm an cdv ct v)
noncomputable def X5 (p:xW) (w:xj) (n₀:Nat) (ann:Option xz):Nat->SharedT->Thread->Option SharedT
 | 0,_,_=>none
 | n + 1,s,t=>match through t with
  | true=>some s
  | false=>match PySem.W.Fast.tw6613529449190102663 n₀ ann t with
   | false=>none
   | true=>match PySem.W.Fast.tw10156331382660048174 (PySem.W.Fast.tw11892475500146522536 PySem.W.Fast.tw14364793385576792824) p w s t with
    | some (s',t')=>X5 p w n₀ ann n s' t'
    | none=>none
theorem ZHp {p:xW} {w:xj} {n₀:Nat} {ann:Option xz}:∀{n:Nat} {s s':SharedT} {t:Thread},X5 p w n₀ ann n s t=some s'->topRun vZ p w n₀ ann n s.abs t=some s'.abs
 | 0,_,_,_,h=>by cases h
 | n + 1,s,s',t,h=>by
  unfold X5 at h;unfold topRun;rw [<-PySem.W.Fast.te6613529449190102663,<-PySem.W.Fast.te10156331382660048174,<-PySem.W.Fast.te11892475500146522536,<-PySem.W.Fast.te14364793385576792824] at h;cases ht:through t with
  | true=>
   rw [ht] at h;cases h
   rfl
  | false=>
   rw [ht] at h;dsimp only at h ⊢;cases ho:stepOk n₀ ann t with
   | false=>rw [ho] at h;cases h
   | true=>
    rw [ho] at h;dsimp only at h ⊢;split at h
    ·rename_i s2 t2 e;rw [stepT_spec e];exact ZHp h
    ·cases h
noncomputable def ZHg:List Obj->Nat->BT->BT
 | [],_,t=>t
 | o::r,n,t=>ZHg r (n + 1) (t.ins n o)
noncomputable def ZJA (w:xj) (os:OsState):SharedT:=⟨ZHg (v6 w.params).objs.toList 0 .nil,(v6 w.params).objs.size,(v6 w.params).life,Array.mk [],boot_drawn,boot_toks,os⟩
theorem boot_abs:∀w os,(ZJA w os).abs=⟨v6 w.params,Array.mk [],boot_drawn,boot_toks,os⟩:=λw os=>by kernel_rfl
theorem ZP2:∀w:xj,((v6 w.params).isNs xP && (Array.mk []:Array GenState).size == 0)=true:=λw=>by kernel_rfl
noncomputable def ZDa (p:xW) (w:xj) (os:OsState):Option SharedT:=X5 p w (v6 w.params).objs.size (PySem.W.Fast.tw8920871248978507458 (v6 w.params) xP "__annotations__") 100000 (ZJA w os) (topStub p)
noncomputable def ZDy (p:xW) (w:xj) (s:xY):Bool:=staticsOk (PySem.W.Fast.tw5923862056798008813 p.main.body) (v6 w.params) s.heap && namesBound p s.heap && gensDone s && laidKept (v6 w.params) s.heap
theorem ZLk {p q:xW} {loose:List Str} {Xt:xY->Bool} {β:Type} {see:Heap->β} {val:β} (e:opening p=plainProg p.main.scope.names) (f:∀s,fenceModules? p s=some s)
  (R:∀w os,(ZDa p w os).map (λs=>(ZDy p w s.abs,PySem.W.Fast.tw4187177175401517315 q loose (PySem.W.Fast.tw5923862056798008813 p.main.body) Xt true s.abs,see s.abs.heap))=some (true,openGood q loose,val)):
  ∀w,(openEnds vZ p w 100000).map (λs=>(openSeen q loose (xE p.main.body) Xt true s,see s.heap))=some (openGood q loose,val):=λw=>by
 obtain ⟨⟨h,gs,d,k,os⟩,h0,e0⟩:=zP.mp (boot_open (N:=100000) e rfl f w);obtain ⟨rfl,rfl,rfl,rfl⟩:h=v6 w.params/\gs=Array.mk []/\d=boot_drawn/\k=boot_toks:=by simpa using e0
 obtain ⟨s,h1,h2⟩:=zP.mp (R w os);obtain ⟨h3,h4⟩:=Prod.mk.inj h2;obtain ⟨h4,h5⟩:=Prod.mk.inj h4;unfold ZDa at h1;have r:=ZHp h1;rw [boot_abs,<-PySem.W.Fast.te8920871248978507458] at r;rw [<-PySem.W.Fast.te4187177175401517315,<-PySem.W.Fast.te5923862056798008813] at h4;unfold ZDy at h3;rw [<-PySem.W.Fast.te5923862056798008813] at h3;have t:topFrom vZ p w 100000 ⟨v6 w.params,Array.mk [],boot_drawn,boot_toks,os⟩=some s.abs:=by
  unfold topFrom;dsimp only;rw [ZP2,r]
  show (match staticsOk (xE p.main.body) (v6 w.params) s.abs.heap && namesBound p s.abs.heap && gensDone s.abs && laidKept (v6 w.params) s.abs.heap with | true=>_ | false=>_)=_
  rw [h3]
 unfold openEnds;rw [h0];show (topFrom vZ p w 100000 _).map _=_;rw [t];exact congrArg some (Prod.ext h4 h5)
theorem ZPA {l:OpenLaw} (h:PySem.W.Fast.tw9446332074065402090 l=true):l.wellSaid=true:=by rw [PySem.W.Fast.te9446332074065402090];exact h
structure FT (K:v5) (mg:Str->Option xz) (n:Str) (st:xq) (ps:List Str):Prop where
 F:Fun K n n st (Bq K n) (Dw K (Bq K n))
 b:Binds K (Dw K (Bq K n)) ps []
 m:mg n=some (.ref (Bq K n))
 k:keepIn K (.ref (Bq K n))=true
structure MT (K:v5) (c m q:Str) (st:xq) (ps:List Str):Prop where
 F:Fun K m q st (Hq K (Bq K c) m) (Dw K (Hq K (Bq K c) m))
 b:Binds K (Dw K (Hq K (Bq K c) m)) ps []
 me:Meth K (Bq K c) m (Hq K (Bq K c) m)
structure CT (K:v5) (mg:Str->Option xz) (c:Str):Prop where
 N:nsIn K xP c=some (some (.ref (Bq K c)))
 cl:Cls K (Bq K c)
 g:mg c=some (.ref (Bq K c))
 mK:Mk K (Bq K c) (Hq K (Bq K c) "__init__")
theorem T6 {K:v5} {f:xQ} (s:FnSaid K x q st f):Fun K x q st f (Dw K f):=by
 have e:Dw K f=fnOf x q (Ke st) (Ip st) (Ax st) .none (Dw K f).kwdefaults (Dw K f).doc (Dw K f).pyModule (Dw K f).annotations (Dw K f).code (Dw K f).closureTuple:=by
  have h:=s.1
  conv=>lhs;unfold Dw Oh;rw [h]
 exact ⟨⟨_,_,_,_,_,_,_,_,_,e,by rw [e];exact s.1,s.2.1⟩,s.2.2⟩
theorem Cr {K:v5} {mg:Str->Option xz} {n:Str} {ps:List Str} (X:K.In h) (G:h.Ns xP mg) (s:Ask.Said K (.fn n st))
  (hb:∀(kV doc pm:xz) (an:Option xQ) (cdv ct:xz) (us:List xz),us.length=ps.length->bindArgs (fnOf n n (Ke st) (Ip st) (Ax st) .none kV doc pm an cdv ct) ⟨us,[]⟩=pure (ps.zip us)):FT K mg n st ps:=
 ⟨T6 s.2,(T6 s.2).binds hb,mg_of X G s.1,s.2.2.2⟩
theorem Oe {K:v5} {c:Str} {ps:List Str} (s:Ask.Said K (.mt c m q st))
  (hb:∀(kV doc pm:xz) (an:Option xQ) (cdv ct:xz) (us:List xz),us.length=ps.length->bindArgs (fnOf m q (Ke st) (Ip st) (Ax st) .none kV doc pm an cdv ct) ⟨us,[]⟩=pure (ps.zip us)):MT K c m q st ps:=
 ⟨T6 s.2.2,(T6 s.2.2).binds hb,s.1,s.2.1,s.2.2.2.2⟩
theorem ZPV {K:v5} {mg:Str->Option xz} {c:Str} (X:K.In h) (G:h.Ns xP mg) (s:Ask.Said K (.cl c)) (i:Ask.Said K (.mt c "__init__" q st)):CT K mg c:=
 ⟨s.1,⟨s.2.1,s.2.2.1,s.2.2.2.1,s.2.2.2.2.1⟩,mg_of X G s.1,s.2.2.2.2.2.1,i.1,i.2.1,s.2.2.2.2.2.2⟩
noncomputable abbrev FnO (P:xW) (w:xj) (K:v5) (mg:Str->Option xz) (base:Heap) (k:Nat) (n:Str) (ps:List Str) (F:List D->DH->R D):Prop:=FnOk P w K mg base CX0 k (Bq K n) (Dw K (Bq K n)) ps (lF K F)
noncomputable abbrev MtO (P:xW) (w:xj) (K:v5) (mg:Str->Option xz) (base:Heap) (k:Nat) (c m:Str) (ps:List Str) (F:List D->DH->R D):Prop:=FnOk P w K mg base CX0 k (Hq K (Bq K c) m) (Dw K (Hq K (Bq K c) m)) ps (lF K F)
theorem ZQi {K:v5} {fd:xX} {s:xY} {v:xz} {a:Str} {f:xQ} (F:Fun K x q st f fd)
  (h:∀(kV doc pm:xz) (an:Option xQ) (cdv ct:xz) (u:xz),bindArgs (fnOf x q (Ke st) (Ip st) (Ax st) .none kV doc pm an cdv ct) ⟨[u],[]⟩=pure [(a,u)]:=by intros;rfl):BindsTo s fd ⟨[v],[]⟩ [(a,v)]:=ZRC F h
end DL
namespace DL
open PySem PySem.Spec L2
open PyProof.Rows hiding St
section
variable {prog:xW} {w:xj} {A:xZ} {E:xz->xY->Prop} {s:xY}
end
section
variable {X:Cx} {E:XK} {p:xQ} {kvs:List (Str×Str)} {x:Str} {a:xJ} {ta:DE} {np pos:Pos}
end
noncomputable def Fe:D->Option V
 | .int i=>some (.int i)
 | .str x=>some (.str x)
 | _=>none
section
variable {X:Cx} {E:XK} {pos:Pos}
end
section
variable {S:DSt} {G:DH}
end
end DL
namespace Law
open PySem L2 DL
noncomputable def top (i:Nat):xq:=PySem.Challenge.pw_sluiceway_k35_rights_of_a_turn.main.body.getD i (.Pass ⟨0,0,0,0⟩)
def fuel:Nat:=100000
noncomputable def inC (s:xq) (j:Nat):xq:=match s with
 | .ClassDef _ _ _ body _ _ _ _ _ _ _=>body.getD j (.Pass ⟨0,0,0,0⟩)
 | _=>.Pass ⟨0,0,0,0⟩
abbrev ZBf:xq:=top 44
abbrev ZFb:List Str:= ["_law_number_here","_law_k","_law_digit"]
abbrev ZAj:List Str:=ZFb.take 2
theorem Uw:FnScope ZFb ZAj (Ax ZBf):=⟨rfl,rfl,rfl,by decide +kernel,rfl,by decide +kernel,by decide +kernel⟩
abbrev ZBF:xq:=top 43
abbrev ZG1:List Str:= ["_law_script"]
abbrev ZB5:List Str:=ZG1.take 1
theorem ZLa:FnScope ZG1 ZB5 (Ax ZBF):=⟨rfl,rfl,rfl,by decide +kernel,rfl,by decide +kernel,by decide +kernel⟩
abbrev ZBM:xq:=top 45
abbrev ZIw:List Str:= ["_law_script","_law_k","_law_number_here"]
abbrev ZDj:List Str:=ZIw.take 2
theorem Tt:FnScope ZIw ZDj (Ax ZBM):=⟨rfl,rfl,rfl,by decide +kernel,rfl,by decide +kernel,by decide +kernel⟩
abbrev ZB2:xq:=top 48
abbrev ZI9:List Str:= ["_law_cell","_law_unit_here"]
abbrev ZDw:List Str:=ZI9.take 2
theorem ZPf:FnScope ZI9 ZDw (Ax ZB2):=⟨rfl,rfl,rfl,by decide +kernel,rfl,by decide +kernel,by decide +kernel⟩
abbrev ZD5:xq:=top 54
abbrev ZHf:List Str:= ["_law_script"]
abbrev ZDS:List Str:=ZHf.take 1
theorem ZLO:FnScope ZHf ZDS (Ax ZD5):=⟨rfl,rfl,rfl,by decide +kernel,rfl,by decide +kernel,by decide +kernel⟩
abbrev ZDD:xq:=top 47
abbrev ZEH:List Str:= ["_law_script"]
abbrev ZDT:List Str:=ZEH.take 1
theorem ZRN:FnScope ZEH ZDT (Ax ZDD):=⟨rfl,rfl,rfl,by decide +kernel,rfl,by decide +kernel,by decide +kernel⟩
abbrev Qc:xq:=top 57
noncomputable abbrev Tj:List Str:= ["_law_script","_law_house_here","_law_turns","_law_many","_law_b","_law_floods_here","_law_at","_law_cells","_law_flood"]
abbrev ZCw:List Str:=Tj.take 3
theorem Nh:FnScope Tj ZCw (Ax Qc):=⟨rfl,rfl,rfl,by decide +kernel,rfl,by decide +kernel,by decide +kernel⟩
abbrev ZB1:xq:=top 52
noncomputable abbrev ZFO:List Str:= ["_law_steps_here","_law_total","_law_low","_law_many","_law_way"]
abbrev ZBS:List Str:=ZFO.take 1
theorem Rr:FnScope ZFO ZBS (Ax ZB1):=⟨rfl,rfl,rfl,by decide +kernel,rfl,by decide +kernel,by decide +kernel⟩
abbrev ZAg:xq:=top 50
noncomputable abbrev ZHX:List Str:= ["_law_cells","_law_unit_here","_law_pumps","_law_steps_here","_law_low","_law_k","_law_many","_law_way"]
abbrev ZDi:List Str:=ZHX.take 3
theorem Lp:FnScope ZHX ZDi (Ax ZAg):=⟨rfl,rfl,rfl,by decide +kernel,rfl,by decide +kernel,by decide +kernel⟩
abbrev ZA4:xq:=top 49
abbrev ZJy:List Str:= ["_law_script","_law_cell"]
abbrev ZDd:List Str:=ZJy.take 1
theorem ZFM:FnScope ZJy ZDd (Ax ZA4):=⟨rfl,rfl,rfl,by decide +kernel,rfl,by decide +kernel,by decide +kernel⟩
abbrev Uc:xq:=top 51
noncomputable abbrev Vq:List Str:= ["_law_script","_law_b","_law_unit_here","_law_pumps","_law_year_here","_law_rule_here","_law_begin","_law_j","_law_later","_law_cells"]
abbrev ZCz:List Str:=Vq.take 4
theorem K4:FnScope Vq ZCz (Ax Uc):=⟨rfl,rfl,rfl,by decide +kernel,rfl,by decide +kernel,by decide +kernel⟩
abbrev Yc:xq:=top 53
noncomputable abbrev ZAa:List Str:= ["_law_script","_law_b","_law_k","_law_names","_law_river","_law_unit_here","_law_cell","_law_pumps","_law_rule_here","_law_pump","_law_most","_law_to","_law_brim"]
abbrev ZBC:List Str:=ZAa.take 5
theorem Kf:FnScope ZAa ZBC (Ax Yc):=⟨rfl,rfl,rfl,by decide +kernel,rfl,by decide +kernel,by decide +kernel⟩
abbrev ZBt:xq:=top 46
noncomputable abbrev ZF7:List Str:= ["_law_cell","_law_k","_law_many","_law_other","_law_telling"]
abbrev ZBQ:List Str:=ZF7.take 3
theorem ZCn:FnScope ZF7 ZBQ (Ax ZBt):=⟨rfl,rfl,rfl,by decide +kernel,rfl,by decide +kernel,by decide +kernel⟩
abbrev Vr:xq:=top 55
noncomputable abbrev ZAD:List Str:= ["_law_script","_law_first","_law_many","_law_names","_law_k","_law_places","_law_b","_law_step","_law_delay","_law_river","_law_kind","_law_amount_here","_law_rank"]
abbrev ZDk:List Str:=ZAD.take 1
theorem Gj:FnScope ZAD ZDk (Ax Vr):=⟨rfl,rfl,rfl,by decide +kernel,rfl,by decide +kernel,by decide +kernel⟩
abbrev ZCg:xq:=top 62
abbrev ZHD:List Str:= ["_law_house_here","_law_k","_law_j"]
abbrev ZCT:List Str:=ZHD.take 2
theorem ZHB:FnScope ZHD ZCT (Ax ZCg):=⟨rfl,rfl,rfl,by decide +kernel,rfl,by decide +kernel,by decide +kernel⟩
abbrev ZCG:xq:=top 63
abbrev ZGt:List Str:= ["_law_house_here","_law_k","_law_down_here"]
abbrev ZDZ:List Str:=ZGt.take 2
theorem ZFZ:FnScope ZGt ZDZ (Ax ZCG):=⟨rfl,rfl,rfl,by decide +kernel,rfl,by decide +kernel,by decide +kernel⟩
abbrev ZD1:xq:=top 64
abbrev ZFE:List Str:= ["_law_house_here","_law_at","_law_some","_law_k"]
abbrev ZDU:List Str:=ZFE.take 2
theorem ZDE:FnScope ZFE ZDU (Ax ZD1):=⟨rfl,rfl,rfl,by decide +kernel,rfl,by decide +kernel,by decide +kernel⟩
abbrev ZBr:xq:=top 66
noncomputable abbrev ZEz:List Str:= ["_law_house_here","_law_k","_law_at","_law_one","_law_other"]
abbrev ZDQ:List Str:=ZEz.take 3
theorem ZAt:FnScope ZEz ZDQ (Ax ZBr):=⟨rfl,rfl,rfl,by decide +kernel,rfl,by decide +kernel,by decide +kernel⟩
abbrev ZBb:xq:=top 67
noncomputable abbrev ZIh:List Str:= ["_law_house_here","_law_page_here","_law_at","_law_place","_law_k"]
abbrev ZBp:List Str:=ZIh.take 4
theorem ZEl:FnScope ZIh ZBp (Ax ZBb):=⟨rfl,rfl,rfl,by decide +kernel,rfl,by decide +kernel,by decide +kernel⟩
abbrev ZA3:xq:=top 65
abbrev ZJq:List Str:= ["_law_place"]
abbrev ZCy:List Str:=ZJq.take 1
theorem ZPZ:FnScope ZJq ZCy (Ax ZA3):=⟨rfl,rfl,rfl,by decide +kernel,rfl,by decide +kernel,by decide +kernel⟩
abbrev ZBj:xq:=top 58
abbrev ZIb:List Str:= ["_law_script","_law_cell"]
abbrev ZDL:List Str:=ZIb.take 1
theorem ZJX:FnScope ZIb ZDL (Ax ZBj):=⟨rfl,rfl,rfl,by decide +kernel,rfl,by decide +kernel,by decide +kernel⟩
abbrev ZAd:xq:=top 59
abbrev ZI6:List Str:= ["_law_number_here"]
abbrev ZAb:List Str:=ZI6.take 1
theorem ZO6:FnScope ZI6 ZAb (Ax ZAd):=⟨rfl,rfl,rfl,by decide +kernel,rfl,by decide +kernel,by decide +kernel⟩
abbrev Wy:xq:=top 60
abbrev ZCW:List Str:= ["_law_page_here","_law_many","_law_row"]
abbrev ZA6:List Str:=ZCW.take 2
theorem ZFu:FnScope ZCW ZA6 (Ax Wy):=⟨rfl,rfl,rfl,by decide +kernel,rfl,by decide +kernel,by decide +kernel⟩
abbrev ZBd:xq:=top 56
noncomputable abbrev ZEI:List Str:= ["_law_script","_law_house_here","_law_places","_law_unit_here","_law_b","_law_levels","_law_coming","_law_k","_law_level","_law_cell","_law_row","_law_j"]
abbrev ZDb:List Str:=ZEI.take 2
theorem J0:FnScope ZEI ZDb (Ax ZBd):=⟨rfl,rfl,rfl,by decide +kernel,rfl,by decide +kernel,by decide +kernel⟩
abbrev Ub:xq:=inC (top 38) 0
abbrev Zc:List Str:= ["self","house","state","at","flood","levels","coming"]
abbrev ZDn:List Str:=Zc.take 5
theorem ZDP:FnScope Zc ZDn (Ax Ub):=⟨rfl,rfl,rfl,by decide +kernel,rfl,by decide +kernel,by decide +kernel⟩
abbrev ZCF:xq:=inC (top 38) 5
abbrev ZJe:List Str:= ["self","to","delay","cubes"]
abbrev ZDM:List Str:=ZJe.take 4
theorem ZLP:FnScope ZJe ZDM (Ax ZCF):=⟨rfl,rfl,rfl,by decide +kernel,rfl,by decide +kernel,by decide +kernel⟩
abbrev ZBA:xq:=top 18
abbrev ZJn:List Str:= ["house","name","number","place"]
abbrev ZAE:List Str:=ZJn.take 2
theorem ZBw:FnScope ZJn ZAE (Ax ZBA):=⟨rfl,rfl,rfl,by decide +kernel,rfl,by decide +kernel,by decide +kernel⟩
abbrev ZCh:xq:=top 19
abbrev ZEk:List Str:= ["house","place","name"]
abbrev ZCl:List Str:=ZEk.take 2
theorem ZEr:FnScope ZEk ZCl (Ax ZCh):=⟨rfl,rfl,rfl,by decide +kernel,rfl,by decide +kernel,by decide +kernel⟩
abbrev ZDC:xq:=inC (top 38) 4
abbrev ZFQ:List Str:= ["self","number","cubes","down"]
abbrev ZCZ:List Str:=ZFQ.take 3
theorem ZJf:FnScope ZFQ ZCZ (Ax ZDC):=⟨rfl,rfl,rfl,by decide +kernel,rfl,by decide +kernel,by decide +kernel⟩
abbrev Zy:xq:=top 33
noncomputable abbrev ZGc:List Str:= ["stairs","water","river","pump","height","many","way","cubes"]
abbrev ZAp:List Str:=ZGc.take 2
theorem Lx:FnScope ZGc ZAp (Ax Zy):=⟨rfl,rfl,rfl,by decide +kernel,rfl,by decide +kernel,by decide +kernel⟩
abbrev ZBk:xq:=top 32
abbrev ZJK:List Str:= ["rule","turn","held","first","stairs"]
abbrev ZB7:List Str:=ZJK.take 2
theorem Ui:FnScope ZJK ZB7 (Ax ZBk):=⟨rfl,rfl,rfl,by decide +kernel,rfl,by decide +kernel,by decide +kernel⟩
abbrev ZBc:xq:=inC (top 38) 2
noncomputable abbrev ZFv:List Str:= ["self","number","place","came","let","pumped","stays","lies","spilled"]
abbrev ZCb:List Str:=ZFv.take 2
theorem Nf:FnScope ZFv ZCb (Ax ZBc):=⟨rfl,rfl,rfl,by decide +kernel,rfl,by decide +kernel,by decide +kernel⟩
abbrev Vs:xq:=top 26
abbrev ZDf:List Str:= ["rows","takes","passing","row","number"]
abbrev ZB3:List Str:=ZDf.take 2
theorem W7:FnScope ZDf ZB3 (Ax Vs):=⟨rfl,rfl,rfl,by decide +kernel,rfl,by decide +kernel,by decide +kernel⟩
abbrev ZCk:xq:=top 40
abbrev ZF1:List Str:= ["house","number","places","down"]
abbrev ZBv:List Str:=ZF1.take 2
theorem ZCd:FnScope ZF1 ZBv (Ax ZCk):=⟨rfl,rfl,rfl,by decide +kernel,rfl,by decide +kernel,by decide +kernel⟩
abbrev ZA5:xq:=top 41
noncomputable abbrev ZHh:List Str:= ["house","members","came","rows","number","place","down","row_down"]
abbrev ZCM:List Str:=ZHh.take 3
theorem Rw:FnScope ZHh ZCM (Ax ZA5):=⟨rfl,rfl,rfl,by decide +kernel,rfl,by decide +kernel,by decide +kernel⟩
abbrev Th:xq:=top 29
abbrev Ze:List Str:= ["rows","order"]
abbrev ZBm:List Str:=Ze.take 1
theorem ZFf:FnScope Ze ZBm (Ax Th):=⟨rfl,rfl,rfl,by decide +kernel,rfl,by decide +kernel,by decide +kernel⟩
abbrev ZCA:xq:=top 30
abbrev ZGu:List Str:= ["rows","number","way","down"]
abbrev ZCj:List Str:=ZGu.take 2
theorem Wn:FnScope ZGu ZCj (Ax ZCA):=⟨rfl,rfl,rfl,by decide +kernel,rfl,by decide +kernel,by decide +kernel⟩
abbrev Xl:xq:=top 25
abbrev ZAK:List Str:= ["rows","takes","passing","number","way","take","below"]
abbrev ZBh:List Str:=ZAK.take 1
theorem Pr:FnScope ZAK ZBh (Ax Xl):=⟨rfl,rfl,rfl,by decide +kernel,rfl,by decide +kernel,by decide +kernel⟩
abbrev ZDz:xq:=inC (top 38) 3
abbrev ZJj:List Str:= ["self","members","rows","takes","number","took","let"]
abbrev ZDO:List Str:=ZJj.take 2
theorem Rh:FnScope ZJj ZDO (Ax ZDz):=⟨rfl,rfl,rfl,by decide +kernel,rfl,by decide +kernel,by decide +kernel⟩
abbrev ZAB:xq:=top 39
abbrev ZE7:List Str:= ["house","lasts","number","down"]
abbrev ZCY:List Str:=ZE7.take 1
theorem Za:FnScope ZE7 ZCY (Ax ZAB):=⟨rfl,rfl,rfl,by decide +kernel,rfl,by decide +kernel,by decide +kernel⟩
abbrev W2:xq:=inC (top 38) 1
abbrev ZAz:List Str:= ["self","lasts","number","last"]
abbrev ZDK:List Str:=ZAz.take 1
theorem Xo:FnScope ZAz ZDK (Ax W2):=⟨rfl,rfl,rfl,by decide +kernel,rfl,by decide +kernel,by decide +kernel⟩
abbrev Wm:xq:=top 28
abbrev ZCo:List Str:= ["rows","number","takes","passing"]
abbrev ZBK:List Str:=ZCo.take 4
theorem ZQ2:FnScope ZCo ZBK (Ax Wm):=⟨rfl,rfl,rfl,by decide +kernel,rfl,by decide +kernel,by decide +kernel⟩
abbrev Zv:xq:=top 27
abbrev ZDY:List Str:= ["rows","takes","passing"]
abbrev ZC8:List Str:=ZDY.take 1
theorem ZCI:FnScope ZDY ZC8 (Ax Zv):=⟨rfl,rfl,rfl,by decide +kernel,rfl,by decide +kernel,by decide +kernel⟩
abbrev ZC0:xq:=top 37
noncomputable abbrev ZID:List Str:= ["house","state","at","flood","course","found","members","rows","number","place"]
abbrev ZC3:List Str:=ZID.take 4
theorem Pk:FnScope ZID ZC3 (Ax ZC0):=⟨rfl,rfl,rfl,by decide +kernel,rfl,by decide +kernel,by decide +kernel⟩
abbrev Up:xq:=inC (top 38) 6
abbrev Yt:List Str:= ["self"]
abbrev ZBH:List Str:=Yt.take 1
theorem ZPJ:FnScope Yt ZBH (Ax Up):=⟨rfl,rfl,rfl,by decide +kernel,rfl,by decide +kernel,by decide +kernel⟩
abbrev ZD2:xq:=top 36
abbrev ZJu:List Str:= ["house","state","at","flood","course"]
abbrev ZBJ:List Str:=ZJu.take 4
theorem ZGN:FnScope ZJu ZBJ (Ax ZD2):=⟨rfl,rfl,rfl,by decide +kernel,rfl,by decide +kernel,by decide +kernel⟩
abbrev Ji:xq:=top 68
noncomputable abbrev ZGP:List Str:= ["_law_script","_law_house_here","_law_state_here","_law_at","_law_flood","_law_found","_law_page_here","_law_k","_law_due","_law_kept"]
abbrev ZB6:List Str:=ZGP.take 1
theorem Io:FnScope ZGP ZB6 (Ax Ji):=⟨rfl,rfl,rfl,by decide +kernel,rfl,by decide +kernel,by decide +kernel⟩
def Um:DS:=(sAs (dOp Cy (dV 0) (dOp Jg (dC (.int 10)) (dC (.int 8)))) (gV 0))
noncomputable def ZD0:DS:=(Ah (sIf (Ay (Xq Zr Iv (dC (.int 0)) (dV 0) (dOp Jg (dC (.int 10)) (dC (.int 18))))) (Ah (sAs (dOp Be (dOp Ba (dOp Ba (dV 0) (dOp Bo (dC (.int 1009)) (dV 1))) (dC (.int 7))) (dC (.int 999999937))) (gV 0)) (Ah (sAs (dOp Be (dOp Bo (dV 0) (dV 0)) (dC (.int 999999929))) (gV 0)) (sRt (dOp Be (dOp Bo (dV 0) (dOp Ba (dV 0) (dV 1))) (dC (.int 99999989)))))) sNx) (Ah (Dq (Dg rng1 (Ab (dV 1) Ad)) (gV 2) Um) (sRt (dOp Be (dV 0) (dOp Jg (dC (.int 10)) (dC (.int 8)))))))
def Vg:List D->DH->R D:=Bt 2 1 ZD0
noncomputable def ZBT:DS:=(sRt (Mq (dOp Ko (dFn Do (Ab (dV 0) Ad)) (dC (.int 0))) (Yq (dOp Iv (dOp Aj (dV 0) (dC (.int 0))) (dC (.int 0))) (dOp Wb (dOp Aj (dV 0) (dC (.int 0))) (dOp Jg (dC (.int 10)) (dC (.int 18)))))))
def Ou:List D->DH->R D:=Bt 1 0 ZBT
noncomputable def Ql:DS:=(Ah (sIf (Ay (dFn Ou (Ab (dV 0) Ad))) (Ah (sAs (dC (.int 0)) (gV 2)) (Ah (sIf (Ay (dOp Iv (dOp Ba (dC (.int 1)) (dOp Cy (dV 1) (dC (.int 14)))) (dFn Do (Ab (dV 0) Ad)))) (sAs (dOp Aj (dV 0) (dOp Ba (dC (.int 1)) (dOp Cy (dV 1) (dC (.int 14))))) (gV 2)) sNx) (sRt (dFn Vg (Ab (dV 2) (Ab (dOp Be (dV 1) (dC (.int 14))) Ad)))))) sNx) (Ah (sIf (Ay (dOp Iv (dV 1) (dFn Do (Ab (dV 0) Ad)))) (sRt (dOp Aj (dV 0) (dV 1))) sNx) (Ah (sAs (dOp Be (dOp Bo (dC (.int 48271)) (dOp Ba (dOp Bo (dV 1) (dV 1)) (dOp Bo (dC (.int 7)) (dFn Do (Ab (dV 0) Ad))))) (dC (.int 2147483647))) (gV 2)) (Ah (sIf (Ay (dOp Ko (dFn Do (Ab (dV 0) Ad)) (dC (.int 0)))) (sAs (dOp Ba (dV 2) (dOp Be (dOp Bo (dOp Aj (dV 0) (dOp Be (dV 1) (dFn Do (Ab (dV 0) Ad)))) (dC (.int 69621))) (dC (.int 2147483629)))) (gV 2)) sNx) (sRt (dV 2))))))
def Bf:List D->DH->R D:=Bt 2 1 Ql
noncomputable def ZEy:DS:=(sRt (dOp Ba (dOp Bo (dV 1) (dOp Be (dV 0) (dC (.int 7)))) (dOp Be (dOp Cy (dV 0) (dC (.int 7))) (dV 1))))
def O3:List D->DH->R D:=Bt 2 0 ZEy
noncomputable def ZDR:DS:=(sRt (dOp Cq (dOp Be (dFn Bf (Ab (dV 0) (Ab (dC (.int 2)) Ad))) (dC (.int 2))) (dC (.int 1))))
def G8:List D->DH->R D:=Bt 1 0 ZDR
noncomputable def Vm:DS:=(sRt (dOp Aj (Br (dFn Av (Ab (dC (.int 1)) (Ab (dC (.int 1)) (Ab (dOp Jg (dC (.int 10)) (dC (.int 30))) Ad))))) (dOp Be (dOp Cy (dFn Bf (Ab (dV 0) (Ab (dC (.int 0)) Ad))) (dC (.int 840))) (dC (.int 3)))))
def Gs:List D->DH->R D:=Bt 1 0 Vm
noncomputable def ZAW:DE:=(dFn Bf (Ab (dV 1) (Ab (dOp Ba (dOp Ba (dV 3) (dOp Bo (dV 4) (dV 2))) (dV 0)) Ad)))
def ZBU:DE:=(dFn O3 (Ab (dV 0) (Ab (Br (dFn Gs (Ab (dV 1) Ad))) Ad)))
noncomputable def ZCm:DE:=(Br (dOp Bo (Br (dFn Gs (Ab (dV 1) Ad))) (dOp Be (dV 0) (dC (.int 3)))))
noncomputable def ZAN:DS:=(Ah (sAs (Br (Ej (Dg rng1 (Ab (dV 3) Ad)) 1 [0,3,4,6] (gV 0) Ck ZAW)) (gV 7)) (Ah (sAs (Br (Ej (Ew (dV 7)) 1 [0] (gV 0) Ck ZBU)) (gV 8)) (Ah (sIf (Ay (dFn G8 (Ab (dV 0) Ad))) (sAs (Br (Ej (Ew (dV 7)) 1 [0] (gV 0) Ck ZCm)) (gV 8)) sNx) (sEx (Fv Fp (dV 5) (Ab (dFn Gp (Ab (dV 8) Ad)) Ad))))))
noncomputable def ZGq:DS:=(Ah (sAs (dFn Do (Ab (dOp Aj (dV 1) (dC (.int 1))) Ad)) (gV 3)) (Ah (sAs (dOp Ba (dC (.int 6)) (dOp Bo (dC (.int 14)) (dV 3))) (gV 4)) (Ah (sAs (Eh (dFn Av Ad)) (gV 5)) (Ah (Dq (Dg rng1 (Ab (dV 2) Ad)) (gV 6) ZAN) (sRt (dV 5))))))
def W3:List D->DH->R D:=Bt 3 6 ZGq
noncomputable def X7:DS:=(sIf (Ay (dOp Cq (dV 4) (dC (.str "pump")))) (sAs (dOp Ba (dV 1) (dV 3)) (gV 1)) sNx)
noncomputable def ZH9:DS:=(Ah (sAs (dC (.int 0)) (gV 1)) (Ah (Dq (Ew (dV 0)) (Bx 3 (Aq (gV 2) (Aq (gV 3) (Aq (gV 4) Ce)))) X7) (sRt (dV 1))))
def Yl:List D->DH->R D:=Bt 1 4 ZH9
noncomputable def V1:DS:=(Ah (sAs (dOp Ba (dV 4) (dOp Bo (dV 1) (dOp Be (dOp Aj (dV 0) (dOp Ba (dC (.int 1)) (dV 5))) (dC (.int 4))))) (gV 4)) (Ah (sAs (dOp Ba (dC (.int 1)) (dOp Bo (dV 1) (dOp Be (dOp Cy (dOp Aj (dV 0) (dOp Ba (dC (.int 1)) (dV 5))) (dC (.int 4))) (dC (.int 4))))) (gV 6)) (Ah (sAs (dC (.str "river")) (gV 7)) (Ah (sIf (Kp (Ay (dV 2)) (Ay (dOp Cq (dOp Be (dOp Cy (dOp Aj (dV 0) (dOp Ba (dC (.int 1)) (dV 5))) (dC (.int 16))) (dC (.int 2))) (dC (.int 1))))) (sAs (dC (.str "pump")) (gV 7)) sNx) (Ah (sEx (Fv Fp (dV 3) (Ab (dFn Bw (Ab (dV 4) (Ab (dV 6) (Ab (dV 7) Ad)))) Ad))) (sAs (dOp Ba (dV 4) (dV 6)) (gV 4)))))))
noncomputable def ZIg:DS:=(Ah (sAs (Eh (dFn Av Ad)) (gV 3)) (Ah (sAs (dC (.int 0)) (gV 4)) (Ah (Dq (Dg rng1 (Ab (dOp Be (dOp Aj (dV 0) (dC (.int 0))) (dC (.int 4))) Ad)) (gV 5) V1) (sRt (dFn Gp (Ab (dV 3) Ad))))))
def Yi:List D->DH->R D:=Bt 3 5 ZIg
noncomputable def ZCX:DS:=(Ah (sAs (dFn Bf (Ab (dV 0) (Ab (dC (.int 1)) Ad))) (gV 1)) (Ah (sIf (Ay (dOp Cq (dOp Be (dOp Cy (dV 1) (dC (.int 4))) (dC (.int 4))) (dC (.int 1)))) (sRt (dOp Ba (dC (.int 1)) (dOp Be (dOp Cy (dV 1) (dC (.int 16))) (dC (.int 24))))) sNx) (sRt (dOp Ba (dC (.int 1)) (dOp Be (dV 1) (dC (.int 4)))))))
def Jw:List D->DH->R D:=Bt 1 1 ZCX
noncomputable def ZCq:DE:=(dOp Cy (dFn Bf (Ab (dV 1) (Ab (dOp Ba (dOp Ba (dV 2) (dC (.int 5))) (dOp Be (dOp Ba (dOp Bo (dC (.int 3)) (dV 3)) (dV 0)) (dC (.int 6)))) Ad))) (dOp Ba (dC (.int 1)) (dOp Bo (dC (.int 7)) (dOp Cy (dV 3) (dC (.int 2))))))
noncomputable def ZDB:DE:=(dOp Cy (dFn Bf (Ab (dV 1) (Ab (dOp Ba (dOp Ba (dV 2) (dC (.int 5))) (dV 0)) Ad))) (dOp Aj (Br (dFn Av (Ab (dC (.int 1)) (Ab (dC (.int 64)) (Ab (dC (.int 4096)) (Ab (dC (.int 262144)) Ad)))))) (dV 3)))
noncomputable def Zd:DS:=(sIf (dOr (Ay (dOp Cq (dV 7) (dC (.int 0)))) (Kp (Ay (dOp Cq (dOp Be (dV 8) (dC (.int 2))) (dC (.int 1)))) (Ay (dOp Iv (dOp Ba (dV 6) (dC (.int 1))) (dV 4))))) (Ah (sIf (Ay (dOp Ko (dV 7) (dC (.int 0)))) (sAs (dOp Ba (dOp Ba (dV 6) (dC (.int 1))) (dOp Be (dOp Cy (dV 8) (dC (.int 2))) (dOp Fq (dOp Fq (dV 4) (dV 6)) (dC (.int 1))))) (gV 6)) sNx) (sEx (Fv Fp (dV 5) (Ab (dFn Bw (Ab (dV 6) (Ab (dFn Yi (Ab (dV 9) (Ab (dV 2) (Ab (dV 3) Ad)))) Ad))) Ad)))) sNx)
noncomputable def ZFi:DS:=(Ah (sIf (Ay (dFn Ou (Ab (dV 0) Ad))) (Ah (sAs (dOp Cy (dFn Bf (Ab (dV 0) (Ab (dOp Ba (dV 1) (dC (.int 4))) Ad))) (dOp Aj (Br (dFn Av (Ab (dC (.int 1)) (Ab (dC (.int 48)) (Ab (dC (.int 2304)) (Ab (dC (.int 110592)) Ad)))))) (dV 7))) (gV 8)) (sAs (Br (Ej (Dg rng1 (Ab (dC (.int 4)) Ad)) 1 [0,1,7] (gV 0) Ck ZDB)) (gV 9))) sNx) Zd)
noncomputable def ZJM:DS:=(Ah (sAs (Br (Ej (Dg rng1 (Ab (dC (.int 4)) Ad)) 1 [0,1,7] (gV 0) Ck ZCq)) (gV 9)) ZFi)
noncomputable def Nb:DS:=(Ah (sAs (dOp Be (dOp Bo (dOp Bo (dFn Bf (Ab (dV 0) (Ab (dOp Ba (dV 1) (dC (.int 4))) Ad))) (dC (.int 48271))) (dOp Ba (dOp Bo (dV 7) (dV 7)) (dC (.int 1)))) (dC (.int 10007))) (gV 8)) ZJM)
noncomputable def ZIs:DS:=(Ah (sAs (dFn Jw (Ab (dV 0) Ad)) (gV 4)) (Ah (sAs (Eh (dFn Av Ad)) (gV 5)) (Ah (sAs (dC (.int 0)) (gV 6)) (Ah (Dq (Dg rng1 (Ab (dC (.int 4)) Ad)) (gV 7) Nb) (sRt (dFn Gp (Ab (dV 5) Ad)))))))
def Y8:List D->DH->R D:=Bt 4 6 ZIs
def ZBu:DE:=(dFn Yl (Ab (dOp Aj (dV 0) (dC (.int 1))) Ad))
noncomputable def ZAx:DS:=(Ah (sAs (Br (dFn Gs (Ab (dV 0) Ad))) (gV 5)) (Ah (sAs (dFn Bf (Ab (dV 0) (Ab (dOp Ba (dV 1) (dC (.int 11))) Ad))) (gV 6)) (Ah (sAs (Mq (dOp Ko (dFn Do (Ab (dV 3) Ad)) (dC (.int 1))) (dOp Cq (dOp Be (dV 6) (dC (.int 2))) (dC (.int 1)))) (gV 7)) (Ah (sAs (dFn Y8 (Ab (dV 0) (Ab (dV 1) (Ab (dV 5) (Ab (dV 7) Ad))))) (gV 8)) (Ah (sAs (dC .non) (gV 9)) (Ah (sIf (Ay (dV 7)) (Ah (sAs (dOp Ba (dFn Ro (Ab (Br (Ej (Ew (dV 8)) 1 [] (gV 0) Ck ZBu)) Ad)) (dOp Bo (dV 5) (dOp Be (dOp Cy (dV 6) (dC (.int 130))) (dC (.int 2))))) (gV 10)) (Ah (sAs (dOp Aj (dV 3) (dOp Be (dOp Ba (dOp Ba (dV 2) (dC (.int 1))) (dOp Be (dOp Cy (dV 6) (dC (.int 2))) (dOp Fq (dFn Do (Ab (dV 3) Ad)) (dC (.int 1))))) (dFn Do (Ab (dV 3) Ad)))) (gV 11)) (sAs (dFn Bw (Ab (dV 11) (Ab (dOp Ba (dC (.int 1)) (dOp Be (dOp Cy (dV 6) (dC (.int 26))) (dC (.int 5)))) (Ab (dV 10) Ad)))) (gV 9)))) sNx) (Ah (sAs (dFn O3 (Ab (dFn Bf (Ab (dV 0) (Ab (dOp Ba (dV 1) (dC (.int 3))) Ad))) (Ab (dV 5) Ad))) (gV 12)) (sRt (dFn Bw (Ab (dC (.str "basin")) (Ab (dOp Aj (dV 3) (dV 2)) (Ab (dOp Aj (dV 4) (dC (.int 0))) (Ab (dOp Aj (dV 4) (dC (.int 1))) (Ab (dV 12) (Ab (dV 8) (Ab (dV 9) Ad))))))))))))))))
def Vf:List D->DH->R D:=Bt 5 8 ZAx
noncomputable def ZGZ:DS:=(Ah (sAs (dOp Aj (dC (.str "abcdefghijklmnopqrstuvwxyz")) (dOp Be (dOp Cy (dV 0) (dC (.int 21))) (dC (.int 26)))) (gV 3)) (Ah (sIf (Kp (Ay (dOp Cq (dOp Be (dV 0) (dC (.int 3))) (dC (.int 1)))) (Ay (dOp Iv (dV 2) (dC (.int 9))))) (sRt (dOp Bo (dV 3) (dOp Ba (dV 1) (dC (.int 1))))) sNx) (Ah (sAs (dOp Aj (dC (.str "abcdefghijkl")) (dOp Be (dOp Ba (dOp Bo (dC (.int 5)) (dV 1)) (dOp Cy (dV 0) (dC (.int 546)))) (dC (.int 12)))) (gV 4)) (Ah (sIf (Ay (dOp Cq (dOp Be (dV 0) (dC (.int 3))) (dC (.int 2)))) (sRt (dOp Ba (dV 4) (dOp Bo (dV 3) (dOp Be (dOp Cy (dV 0) (dC (.int 3))) (dC (.int 7)))))) sNx) (sRt (dOp Ba (dOp Ba (dOp Bo (dV 3) (dOp Be (dOp Cy (dV 0) (dC (.int 3))) (dC (.int 7)))) (dV 4)) (dOp Bo (dV 3) (dOp Fq (dC (.int 6)) (dOp Be (dOp Cy (dV 0) (dC (.int 3))) (dC (.int 7)))))))))))
def Xp:List D->DH->R D:=Bt 3 2 ZGZ
noncomputable def Zw:DE:=(dFn Xp (Ab (dFn Bf (Ab (dV 1) (Ab (dC (.int 5)) Ad))) (Ab (dV 0) (Ab (dV 2) Ad))))
noncomputable def Sw:DS:=(sIf (Ay (dOp Iv (dV 10) (dC (.int 2)))) (sEx (Fv Fp (dV 5) (Ab (Br (dFn Vf (Ab (dV 0) (Ab (dV 6) (Ab (dV 4) (Ab (dV 3) (Ab (dV 9) Ad))))))) Ad))) (sIf (Ay (dOp Iv (dV 10) (dC (.int 4)))) (sEx (Fv Fp (dV 5) (Ab (dFn Bw (Ab (dC (.str "town")) (Ab (dOp Aj (dV 3) (dV 4)) (Ab (dOp Aj (dV 9) (dC (.int 0))) (Ab (dOp Aj (dV 9) (dC (.int 1))) (Ab (dV 11) (Ab (dV 12) Ad))))))) Ad))) (sEx (Fv Fp (dV 5) (Ab (dFn Bw (Ab (dC (.str "mill")) (Ab (dOp Aj (dV 3) (dV 4)) (Ab (dOp Aj (dV 9) (dC (.int 0))) (Ab (dOp Aj (dV 9) (dC (.int 1))) (Ab (dV 11) Ad)))))) Ad)))))
noncomputable def ZJp:DS:=(Ah (sAs (dOp Be (dFn Bf (Ab (dV 0) (Ab (dOp Ba (dV 6) (dC (.int 4))) Ad))) (dOp Aj (Br (dFn Av (Ab (dC (.int 4)) (Ab (dOp Jg (dC (.int 10)) (dC (.int 40))) Ad)))) (dOp Bo (dOp Be (dOp Cy (dV 1) (dC (.int 840))) (dC (.int 2))) (dFn K5 (Ab (My (dFn G8 (Ab (dV 0) Ad))) Ad))))) (gV 12)) Sw)
noncomputable def Yy:DS:=(Ah (sAs (dFn O3 (Ab (dFn Bf (Ab (dV 0) (Ab (dOp Ba (dV 6) (dC (.int 3))) Ad))) (Ab (Br (dFn Gs (Ab (dV 0) Ad))) Ad))) (gV 11)) ZJp)
noncomputable def ZCQ:DS:=(Ah (sIf (Ay (dFn G8 (Ab (dV 0) Ad))) (sAs (dOp Aj (Br (dFn Av (Ab (dC (.int 2)) (Ab (dC (.int 3)) (Ab (dC (.int 2)) (Ab (dC (.int 3)) (Ab (dC (.int 4)) Ad))))))) (dV 10)) (gV 10)) sNx) Yy)
noncomputable def Uh:DS:=(Ah (sAs (dOp Be (dFn Bf (Ab (dV 0) (Ab (dV 6) Ad))) (dC (.int 5))) (gV 10)) ZCQ)
noncomputable def ZCC:DS:=(Ah (sIf (Ay (dOp Ko (dV 7) (dC (.int 0)))) (sAs (dFn Bw (Ab (dOp Aj (dV 3) (dOp Ba (dV 4) (dV 7))) (Ab (dOp Aj (dV 9) (dC (.int 1))) Ad))) (gV 9)) sNx) Uh)
noncomputable def ZCH:DS:=(Ah (sAs (dFn Bw (Ab (dC (.str "sea")) (Ab (dOp Bo (dOp Be (dV 8) (dC (.int 2))) (dOp Be (dOp Cy (dV 8) (dC (.int 2))) (dC (.int 6)))) Ad))) (gV 9)) ZCC)
noncomputable def Tg:DS:=(Ah (sAs (dFn Bf (Ab (dV 0) (Ab (dOp Ba (dV 6) (dC (.int 2))) Ad))) (gV 8)) ZCH)
noncomputable def ZCe:DS:=(Ah (sIf (dOr (Ay (dOp Cq (dOp Be (dOp Cy (dV 1) (dC (.int 280))) (dC (.int 3))) (dC (.int 1)))) (Ay (dFn G8 (Ab (dV 0) Ad)))) (sAs (dFn Oc (Ab (dC (.int 1)) (Ab (dOp Fq (dOp Fq (dV 2) (dC (.int 1))) (dV 4)) Ad))) (gV 7)) sNx) Tg)
noncomputable def Yh:DS:=(Ah (sAs (dOp Be (dFn Bf (Ab (dV 0) (Ab (dOp Ba (dV 6) (dC (.int 1))) Ad))) (dOp Fq (dV 2) (dV 4))) (gV 7)) ZCe)
noncomputable def Kr:DS:=(Ah (sAs (dOp Ba (dC (.int 6)) (dOp Bo (dC (.int 12)) (dV 4))) (gV 6)) Yh)
noncomputable def ZI1:DS:=(Ah (sAs (dFn Bf (Ab (dV 0) (Ab (dC (.int 0)) Ad))) (gV 1)) (Ah (sAs (dOp Ba (dOp Ba (dC (.int 1)) (dOp Be (dV 1) (dC (.int 5)))) (dFn K5 (Ab (dFn G8 (Ab (dV 0) Ad)) Ad))) (gV 2)) (Ah (sIf (Ay (dOp Cq (dOp Be (dOp Cy (dV 1) (dC (.int 5))) (dC (.int 8))) (dC (.int 1)))) (sAs (dOp Ba (dC (.int 6)) (dOp Be (dOp Cy (dV 1) (dC (.int 40))) (dC (.int 7)))) (gV 2)) sNx) (Ah (sAs (Br (Ej (Dg rng1 (Ab (dV 2) Ad)) 1 [0,2] (gV 0) Ck Zw)) (gV 3)) (Ah (sAs (Eh (dFn Av Ad)) (gV 5)) (Ah (Dq (Dg rng1 (Ab (dV 2) Ad)) (gV 4) Kr) (sRt (dFn Bw (Ab (dFn Jw (Ab (dV 0) Ad)) (Ab (dFn Gp (Ab (dV 5) Ad)) Ad))))))))))
def Z2:List D->DH->R D:=Bt 1 12 ZI1
noncomputable def Jk:DS:=(sIf (Ay (dOp Cq (dOp Aj (dOp Aj (dOp Aj (dV 0) (dC (.int 1))) (dV 2)) (dC (.int 1))) (dOp Aj (dOp Aj (dOp Aj (dV 0) (dC (.int 1))) (dV 1)) (dC (.int 2))))) (sRt (dV 2)) sNx)
noncomputable def ZBE:DS:=(Ah (Dq (Dg rng1 (Ab (dFn Do (Ab (dOp Aj (dV 0) (dC (.int 1))) Ad)) Ad)) (gV 2) Jk) (sRt (dC .non)))
def Vd:List D->DH->R D:=Bt 2 1 ZBE
noncomputable def ZIf:DS:=(Ah (sAs (dFn Vd (Ab (dV 0) (Ab (dV 1) Ad))) (gV 2)) (Ah (sIf (dOr (Ay (dOp Qa (dV 2) (dC .non))) (dOr (Ay (dOp Ko (dOp Aj (dOp Aj (dOp Aj (dV 0) (dC (.int 1))) (dV 1)) (dC (.int 3))) (dC (.int 0)))) (Ay (dOp Cq (dOp Aj (dOp Aj (dOp Aj (dV 0) (dC (.int 1))) (dV 2)) (dC (.int 0))) (dC (.str "basin")))))) (sRt (dC .non)) sNx) (sRt (dV 2))))
def U8:List D->DH->R D:=Bt 2 1 ZIf
noncomputable def Ut:DS:=(sIf (Kp (Ay (dOp Hz (dOp Aj (dOp Aj (dOp Aj (dV 0) (dC (.int 1))) (dV 3)) (dC (.int 0))) (dC (.str "basin")))) (Ay (dOp Tr (dFn U8 (Ab (dV 0) (Ab (dV 3) Ad))) (dV 2)))) (sEx (Fv Fp (dV 2) (Ab (dV 3) Ad))) sNx)
noncomputable def ZIj:DS:=(Ah (sAs (Eh (dFn Av (Ab (dV 1) Ad))) (gV 2)) (Ah (Dq (Dg rng3 (Ab (dOp Fq (dV 1) (dC (.int 1))) (Ab (dUn P0 (dC (.int 1))) (Ab (dUn P0 (dC (.int 1))) Ad)))) (gV 3) Ut) (sRt (dV 2))))
def Xa:List D->DH->R D:=Bt 2 2 ZIj
noncomputable def ZJP:DS:=(Ah (sAs (dOp Aj (dOp Aj (dV 0) (dC (.int 1))) (dV 1)) (gV 3)) (Ah (sAs (dOp Aj (dOp Aj (dV 0) (dC (.int 1))) (dV 2)) (gV 4)) (sRt (Mq (dOp Cq (dOp Aj (dV 3) (dC (.int 0))) (dC (.str "town"))) (Yq (dOp Iv (dOp Aj (dV 3) (dC (.int 5))) (dOp Aj (dV 4) (dC (.int 5)))) (Mq (dOp Cq (dOp Aj (dV 3) (dC (.int 5))) (dOp Aj (dV 4) (dC (.int 5)))) (dOp Iv (dV 1) (dV 2))))))))
def Xh:List D->DH->R D:=Bt 3 2 ZJP
noncomputable def Wo:DS:=(sIf (Kp (Ay (dOp Hz (dV 4) (dV 2))) (Kp (Ay (dOp Ko (dOp Aj (dOp Aj (dV 1) (dV 4)) (dC (.int 1))) (dC (.int 0)))) (K7 (Ay (dFn Xh (Ab (dV 0) (Ab (dV 4) (Ab (dV 2) Ad)))))))) (sRt (dC (.bl false))) sNx)
noncomputable def ZJz:DS:=(Ah (Dq (Ew (Br (dFn Xa (Ab (dV 0) (Ab (dV 3) Ad))))) (gV 4) Wo) (sRt (dOp Cq (dOp Aj (dOp Aj (dV 1) (dV 3)) (dC (.int 3))) (dC (.int 0)))))
def Vo:List D->DH->R D:=Bt 4 1 ZJz
noncomputable def ZHC:DS:=(Ah (sIf (Ay (dOp Cq (dOp Aj (dV 0) (dC (.int 0))) (dC (.str "town")))) (sRt (dOp Aj (dV 0) (dC (.int 4)))) sNx) (sRt (dC (.int 0))))
def Vw:List D->DH->R D:=Bt 1 0 ZHC
noncomputable def ZCx:DS:=(Ah (sAs (dFn Bf (Ab (dV 0) (Ab (dC (.int 3)) Ad))) (gV 1)) (sRt (dOp Be (dOp Cy (dV 1) (dC (.int 2))) (dOp Aj (Br (dFn Av (Ab (dC (.int 50)) (Ab (dOp Jg (dC (.int 10)) (dC (.int 39))) Ad)))) (dOp Be (dV 1) (dC (.int 2)))))))
def U5:List D->DH->R D:=Bt 1 1 ZCx
noncomputable def ZFk:DS:=(sRt (Mq (dFn Ge (Ab (dV 0) (Ab (dC (.ty "int")) Ad))) (Mq (My (dFn Ge (Ab (dV 0) (Ab (dC (.ty "bool")) Ad)))) (dOp Wb (dV 0) (dC (.int 0))))))
def V8:List D->DH->R D:=Bt 1 0 ZFk
def ZJW:DE:=(dFn V8 (Ab (dV 0) Ad))
noncomputable def Wg:DS:=(Ah (sIf (dOr (K7 (Ay (dFn Ge (Ab (dV 2) (Ab (dC (.ty "tuple")) Ad))))) (Ay (dOp Hz (dFn Do (Ab (dV 2) Ad)) (dC (.int 6))))) (sRt (dC (.bl false))) sNx) (sIf (K7 (Ay (dFn Vh (Ab (Br (Ej (Ew (dV 2)) 1 [] (gV 0) Ck ZJW)) Ad)))) (sRt (dC (.bl false))) sNx))
noncomputable def ZEJ:DS:=(Ah (sIf (dOr (K7 (Ay (dFn Ge (Ab (dV 0) (Ab (dC (.ty "tuple")) Ad))))) (Ay (dOp Hz (dFn Do (Ab (dV 0) Ad)) (dV 1)))) (sRt (dC (.bl false))) sNx) (Ah (Dq (Ew (dV 0)) (gV 2) Wg) (sRt (dC (.bl true)))))
def Wa:List D->DH->R D:=Bt 2 1 ZEJ
def ZHo:DS:=(sAs (dOp Cy (dV 9) (dC (.int 3))) (gV 9))
noncomputable def Uj:DS:=(Ah (sEx (Fv Fp (dV 10) (Ab (dOp Bo (dV 3) (dOp Be (dV 9) (dC (.int 3)))) Ad))) ZHo)
def ZHb:DS:=(sEx (Fv Fp (dV 6) (Ab (dFn Gp (Ab (dV 10) Ad)) Ad)))
def Wx:DS:=(Ah (Dq (Dg rng1 (Ab (dC (.int 5)) Ad)) (gV 11) Uj) ZHb)
def ZGJ:DS:=(Ah (sAs (Eh (dFn Av Ad)) (gV 10)) Wx)
noncomputable def ZJg:DS:=(Ah (sAs (dFn Bf (Ab (dV 0) (Ab (dOp Ba (dOp Ba (dV 4) (dFn Do (Ab (dV 2) Ad))) (dV 7)) Ad))) (gV 9)) ZGJ)
def Zj:DS:=(Ah (sEx (Fv Fp (dV 5) (Ab (dV 8) Ad))) ZJg)
noncomputable def ZHq:DS:=(Ah (sIf (Ay (dOp Cq (dOp Aj (dOp Aj (dV 2) (dV 7)) (dC (.int 0))) (dC (.str "basin")))) (sAs (dOp Be (dFn O3 (Ab (dFn Bf (Ab (dV 0) (Ab (dOp Ba (dV 4) (dV 7)) Ad))) (Ab (dV 3) Ad))) (dOp Ba (dOp Aj (dOp Aj (dV 2) (dV 7)) (dC (.int 4))) (dC (.int 1)))) (gV 8)) sNx) Zj)
def U7:DS:=(Ah (sAs (dC (.int 0)) (gV 8)) ZHq)
noncomputable def ZGv:DS:=(Ah (sAs (dOp Aj (dV 1) (dC (.int 1))) (gV 2)) (Ah (sAs (Br (dFn Gs (Ab (dV 0) Ad))) (gV 3)) (Ah (sAs (dOp Ba (dC (.int 6)) (dOp Bo (dC (.int 12)) (dFn Do (Ab (dV 2) Ad)))) (gV 4)) (Ah (sAs (Eh (dFn Av Ad)) (gV 5)) (Ah (sAs (Eh (dFn Av Ad)) (gV 6)) (Ah (Dq (Dg rng1 (Ab (dFn Do (Ab (dV 2) Ad)) Ad)) (gV 7) U7) (sRt (dFn Bw (Ab (dFn Gp (Ab (dV 5) Ad)) (Ab (dFn Gp (Ab (dV 6) Ad)) Ad))))))))))
def Z6:List D->DH->R D:=Bt 2 10 ZGv
def Wt:DE:=(dOp Ba (dV 0) (dOp Aj (dV 1) (dC (.int 0))))
noncomputable def T3:DE:=(Eh (dOp Ba (Br (dFn Ob (Ab (Br (dSl (dV 0) (some (dC (.int 1))) none)) Ad))) (Br (dFn Av (Ab (dC (.int 0)) Ad)))))
noncomputable def ZEm:DS:=(Ah (sAs (dV 2) (Bx 2 (Aq (gV 5) (Aq (gV 6) Ce)))) (Ah (Gy "Course" (dV 0) (dV 1) "house") (Ah (Gy "Course" (dV 0) (dV 5) "levels") (Ah (Gy "Course" (dV 0) (dOp Be (dV 3) (dOp Aj (dV 1) (dC (.int 0)))) "year_turn") (Ah (Gy "Course" (dV 0) (Ej (Dg (I9 2) (Ab (dV 4) (Ab (dV 6) Ad))) 2 [] (Bx 2 (Aq (gV 0) (Aq (gV 1) Ce))) Ck Wt) "came") (Ah (Gy "Course" (dV 0) (Ej (Ew (dV 6)) 1 [] (gV 0) Ck T3) "coming") (Ah (Gy "Course" (dV 0) (Eh (dOp Jt (dFn Av (Ab (dC .non) Ad)) (dFn Do (Ab (dV 5) Ad)))) "page") (Gy "Course" (dV 0) (Eh (dFn Av Ad)) "reaches"))))))))
def Nm:List D->DH->R D:=Bt 5 2 ZEm
noncomputable def ZJJ:DS:=(sIf (Ay (dOp Cq (dV 2) (dC (.int 0)))) (Ri (Ex "Course" (dV 0) "came") (dV 1) (dV 3) Ml) (Ri (dOp Aj (Ex "Course" (dV 0) "coming") (dV 1)) (dOp Fq (dV 2) (dC (.int 1))) (dV 3) Ml))
def Vi:List D->DH->R D:=Bt 4 0 ZJJ
noncomputable def Qi:DS:=(sIf (Ay (dOp Cq (dOp Aj (dV 3) (dC (.int 1))) (dV 1))) (sRt (dV 2)) sNx)
noncomputable def ZH6:DS:=(Ah (Dq (Dg Jf (Ab (dOp Aj (dV 0) (dC (.int 1))) Ad)) (Bx 2 (Aq (gV 2) (Aq (gV 3) Ce))) Qi) sBad)
def T8:List D->DH->R D:=Bt 2 2 ZH6
noncomputable def ZFg:DS:=(Ah (sAs (dOp Aj (dOp Aj (dOp Aj (dV 0) (dC (.int 1))) (dV 1)) (dC (.int 2))) (gV 2)) (Ah (sIf (Ay (dOp Cq (dV 2) (dC (.str "sea")))) (sRt (dC .non)) sNx) (sRt (dFn T8 (Ab (dV 0) (Ab (dV 2) Ad))))))
def V9:List D->DH->R D:=Bt 2 1 ZFg
noncomputable def ZJl:DS:=(Ah (sAs (dFn V9 (Ab (Ex "Course" (dV 0) "house") (Ab (dV 1) Ad))) (gV 3)) (sIf (Ay (dOp Lb (dV 3) (dC .non))) (sEx (Ii "Course" "send" Vi (dV 0) (Ab (dV 3) (Ab (dOp Aj (dOp Aj (dOp Aj (Ex "Course" (dV 0) "house") (dC (.int 1))) (dV 1)) (dC (.int 3))) (Ab (dV 2) Ad))))) sNx))
def Ua:List D->DH->R D:=Bt 3 1 ZJl
noncomputable def Xi:DS:=(Ah (sAs (dFn Y9 (Ab (dC (.int 0)) (Ab (dFn Oc (Ab (dV 5) (Ab (dOp Fq (dV 1) (dV 4)) Ad))) Ad))) (gV 7)) (sIf (Ay (dOp Cq (dV 6) (dC (.str "river")))) (sAu 2 (dV 7) Ml) (sAu 3 (dV 7) Ml)))
noncomputable def ZFF:DS:=(Ah (sAs (dC (.int 0)) (gV 2)) (Ah (sAs (dC (.int 0)) (gV 3)) (Ah (Dq (Ew (dV 0)) (Bx 3 (Aq (gV 4) (Aq (gV 5) (Aq (gV 6) Ce)))) Xi) (sRt (dFn Bw (Ab (dV 2) (Ab (dV 3) (Ab (dOp Fq (dOp Fq (dV 1) (dV 2)) (dV 3)) Ad))))))))
def Wv:List D->DH->R D:=Bt 2 6 ZFF
def X4:DS:=(sIf (Ay (dOp Zr (dV 3) (dV 1))) (sAs (dV 4) (gV 2)) sNx)
noncomputable def ZGD:DS:=(Ah (sAs (dFn Bw Ad) (gV 2)) (Ah (Dq (Ew (dV 0)) (Bx 2 (Aq (gV 3) (Aq (gV 4) Ce))) X4) (sRt (dV 2))))
def Wc:List D->DH->R D:=Bt 2 3 ZGD
noncomputable def ZEW:DS:=(Ah (sAs (dOp Aj (dOp Aj (Ex "Course" (dV 0) "house") (dC (.int 1))) (dV 1)) (gV 2)) (Ah (sAs (dOp Aj (Ex "Course" (dV 0) "came") (dV 1)) (gV 3)) (Ah (sAs (dFn Wv (Ab (dFn Wc (Ab (dOp Aj (dV 2) (dC (.int 5))) (Ab (Ex "Course" (dV 0) "year_turn") Ad))) (Ab (dOp Ba (dOp Aj (Ex "Course" (dV 0) "levels") (dV 1)) (dV 3)) Ad))) (Bx 3 (Aq (gV 4) (Aq (gV 5) (Aq (gV 6) Ce))))) (Ah (sAs (dFn Oc (Ab (dV 6) (Ab (dOp Aj (dV 2) (dC (.int 4))) Ad))) (gV 7)) (Ah (sAs (dOp Fq (dV 6) (dV 7)) (gV 8)) (Ah (sAs (dFn Bw (Ab (dV 3) (Ab (dC (.int 0)) (Ab (dV 8) (Ab (dV 4) (Ab (dV 5) (Ab (dV 7) Ad))))))) (gIx (Ex "Course" (dV 0) "page") (dV 1))) (Ah (sEx (Ii "Course" "send_down" Ua (dV 0) (Ab (dV 1) (Ab (dOp Ba (dV 4) (dV 8)) Ad)))) (sIf (Ay (dOp Lb (dOp Aj (dV 2) (dC (.int 6))) (dC .non))) (sEx (Ii "Course" "send" Vi (dV 0) (Ab (dFn T8 (Ab (Ex "Course" (dV 0) "house") (Ab (dOp Aj (dOp Aj (dV 2) (dC (.int 6))) (dC (.int 0))) Ad))) (Ab (dOp Aj (dOp Aj (dV 2) (dC (.int 6))) (dC (.int 1))) (Ab (dV 5) Ad))))) sNx))))))))
def We:List D->DH->R D:=Bt 2 7 ZEW
def Zz:DE:=(dOp Fq (dOp Aj (dV 0) (dC (.int 1))) (dV 1))
noncomputable def Nu:DS:=(sIf (Ay (dOp Lb (dOp Aj (dV 3) (dC (.int 0))) (dC .non))) (Ri (dV 2) (dOp Aj (dV 3) (dC (.int 0))) (dOp Aj (dV 2) (dV 4)) Ml) sNx)
noncomputable def ZGi:DS:=(Ah (sAs (Ej (Dg (I9 2) (Ab (dV 0) (Ab (dV 1) Ad))) 2 [] (Bx 2 (Aq (gV 0) (Aq (gV 1) Ce))) Ck Zz) (gV 2)) (Ah (Dq (Dg Jf (Ab (dV 0) Ad)) (Bx 2 (Aq (gV 4) (Aq (gV 3) Ce))) Nu) (sRt (dV 2))))
def N7:List D->DH->R D:=Bt 2 3 ZGi
noncomputable def ZFh:DS:=(Ah (sAs (dOp Aj (dV 0) (dC (.int 1))) (gV 2)) (Ah (sAs (dFn V9 (Ab (dV 0) (Ab (dV 1) Ad))) (gV 3)) (Ah (sIf (dOr (Ay (dOp Qa (dV 3) (dC .non))) (Ay (dOp Ko (dOp Aj (dOp Aj (dV 2) (dV 1)) (dC (.int 3))) (dC (.int 0))))) (sRt (dC .non)) sNx) (Ah (sIf (dOr (Ay (dOp Cq (dOp Aj (dOp Aj (dV 2) (dV 1)) (dC (.int 0))) (dC (.str "basin")))) (Ay (dOp Cq (dOp Aj (dOp Aj (dV 2) (dV 3)) (dC (.int 0))) (dC (.str "basin"))))) (sRt (dC .non)) sNx) (sRt (dV 3))))))
def Uv:List D->DH->R D:=Bt 2 2 ZFh
noncomputable def U0:DS:=(Ah (sAs (dOp Aj (dOp Aj (dV 0) (dC (.int 1))) (dV 4)) (gV 5)) (Ah (sAs (dFn Uv (Ab (dV 0) (Ab (dV 4) Ad))) (gV 6)) (Ah (sAs (dIf (Ay (dOp Qa (dV 6) (dC .non))) (dC .non) (Fv Rj (dV 1) (Ab (dV 6) Ad))) (gV 7)) (sIf (Ay (dOp Cq (dOp Aj (dV 5) (dC (.int 0))) (dC (.str "town")))) (sEx (Fv Fp (dV 3) (Ab (dFn Bw (Ab (dV 7) (Ab (dOp Aj (dV 2) (dV 4)) (Ab (dOp Aj (dV 5) (dC (.int 4))) (Ab (dOp Aj (dV 5) (dC (.int 5))) Ad))))) Ad))) (sEx (Fv Fp (dV 3) (Ab (dFn Bw (Ab (dV 7) (Ab (dOp Aj (dV 2) (dV 4)) (Ab (dC (.int 0)) (Ab (dC (.int 0)) Ad))))) Ad)))))))
noncomputable def ZJH:DS:=(Ah (sAs (Eh (dFn Av Ad)) (gV 3)) (Ah (Dq (Ew (dV 1)) (gV 4) U0) (sRt (dV 3))))
def W8:List D->DH->R D:=Bt 3 5 ZJH
def ZDo:DE:=(dFn Bw (Ab (dOp Aj (dV 1) (dC (.int 3))) (Ab (dV 0) Ad)))
def ZAy:DE:=(dV 1)
noncomputable def ZGE:DS:=(Ah (sAs (Br (dFn Vj (Ab (Br (Ej (Dg Jf (Ab (dV 0) Ad)) 2 [] (Bx 2 (Aq (gV 0) (Aq (gV 1) Ce))) Ck ZDo)) Ad))) (gV 1)) (sRt (Ej (Ew (dV 1)) 2 [] (Bx 2 (Aq (gV 0) (Aq (gV 1) Ce))) Ck ZAy)))
def Ww:List D->DH->R D:=Bt 1 1 ZGE
noncomputable def Ud:DS:=(Ah (sEx (Fv Fp (dV 2) (Ab (dV 3) Ad))) (sAs (dOp Aj (dOp Aj (dV 0) (dV 3)) (dC (.int 0))) (gV 3)))
def O1:DB:=(Ay (dOp Lb (dV 3) (dC .non)))
noncomputable def ZF4:DS:=(Ah (sAs (Eh (dFn Av (Ab (dV 1) Ad))) (gV 2)) (Ah (sAs (dOp Aj (dOp Aj (dV 0) (dV 1)) (dC (.int 0))) (gV 3)) (Ah (sWh O1 Ud fuel) (sRt (dV 2)))))
def Uy:List D->DH->R D:=Bt 2 2 ZF4
def ZDG:DE:=(dOp Aj (dV 1) (dV 0))
def Yp:DS:=(Ri (dV 2) (dV 6) (dV 5) Fq)
noncomputable def V0:DS:=(Ah (sAs (Br (dFn Uy (Ab (dV 0) (Ab (dV 3) Ad)))) (gV 4)) (Ah (sAs (dFn Oc (Ab (dOp Aj (dOp Aj (dV 0) (dV 3)) (dC (.int 2))) (Ab (dFn Qt (Ab (Br (Ej (Ew (dV 4)) 1 [2] (gV 0) Ck ZDG)) Ad)) Ad))) (gV 5)) (Ah (sAs (dV 5) (gIx (dV 1) (dV 3))) (Dq (Ew (dV 4)) (gV 6) Yp))))
noncomputable def ZE6:DS:=(Ah (sAs (Eh (dOp Jt (dFn Av (Ab (dC (.int 0)) Ad)) (dFn Do (Ab (dV 0) Ad)))) (gV 1)) (Ah (sAs (Eh (dFn N7 (Ab (dV 0) (Ab (dV 1) Ad)))) (gV 2)) (Ah (Dq (Ew (Br (dFn Ww (Ab (dV 0) Ad)))) (gV 3) V0) (sRt (dV 1)))))
def Uu:List D->DH->R D:=Bt 1 6 ZE6
noncomputable def Mp:DS:=(Ah (sAs (dFn Bw (Ab (dOp Ba (dV 5) (dV 6)) (Ab (dV 5) (Ab (dC (.int 0)) (Ab (dV 6) (Ab (dC (.int 0)) (Ab (dC (.int 0)) Ad))))))) (gIx (Ex "Course" (dV 0) "page") (dV 4))) (sIf (Ay (dOp Cq (dV 4) (dOp Aj (dV 1) (dUn P0 (dC (.int 1)))))) (sEx (Ii "Course" "send_down" Ua (dV 0) (Ab (dV 4) (Ab (dV 6) Ad)))) sNx))
noncomputable def ZGW:DS:=(Ah (sAs (Br (dFn W8 (Ab (Ex "Course" (dV 0) "house") (Ab (dV 1) (Ab (Ex "Course" (dV 0) "came") Ad))))) (gV 2)) (Ah (sAs (Br (dFn Uu (Ab (dV 2) Ad))) (gV 3)) (Ah (Dq (Dg (I9 3) (Ab (dV 1) (Ab (dV 3) (Ab (Br (dFn N7 (Ab (dV 2) (Ab (dV 3) Ad)))) Ad)))) (Bx 3 (Aq (gV 4) (Aq (gV 5) (Aq (gV 6) Ce)))) Mp) (sEx (Fv Fp (Ex "Course" (dV 0) "reaches") (Ab (Eh (dFn Bw (Ab (dV 1) (Ab (dV 2) Ad)))) Ad))))))
def Wu:List D->DH->R D:=Bt 2 5 ZGW
noncomputable def Z1:DS:=(Ah (sAs (dFn Uv (Ab (dV 0) (Ab (dV 2) Ad))) (gV 3)) (sIf (Ay (dOp Lb (dV 3) (dC .non))) (sAs (dOp Aj (dV 1) (dV 3)) (gIx (dV 1) (dV 2))) sNx))
noncomputable def ZFD:DS:=(Ah (sAs (Eh (dLR (Ab (dFn Do (Ab (dOp Aj (dV 0) (dC (.int 1))) Ad)) Ad))) (gV 1)) (Ah (Dq (Dg rng3 (Ab (dOp Fq (dFn Do (Ab (dOp Aj (dV 0) (dC (.int 1))) Ad)) (dC (.int 1))) (Ab (dUn P0 (dC (.int 1))) (Ab (dUn P0 (dC (.int 1))) Ad)))) (gV 2) Z1) (sRt (dV 1))))
def Y6:List D->DH->R D:=Bt 1 3 ZFD
def Ye:DE:=(dV 0)
def Td:DB:=(Ay (dOp Cq (dV 1) (dV 2)))
noncomputable def Qf:DS:=(sIf (Ay (dOp Cq (dOp Aj (dOp Aj (dOp Aj (Ex "Course" (dV 0) "house") (dC (.int 1))) (dV 2)) (dC (.int 0))) (dC (.str "basin")))) (sEx (Ii "Course" "go_basin" We (dV 0) (Ab (dV 2) Ad))) (sIf (Ay (dOp Cq (dV 3) (dV 2))) (sEx (Ii "Course" "go_reach" Wu (dV 0) (Ab (Br (Ej (Dg Jf (Ab (dV 1) Ad)) 2 [2] (Bx 2 (Aq (gV 0) (Aq (gV 1) Ce))) Td Ye)) Ad))) sNx))
noncomputable def ZH0:DS:=(Ah (sAs (Br (dFn Y6 (Ab (Ex "Course" (dV 0) "house") Ad))) (gV 1)) (Dq (Dg Jf (Ab (dV 1) Ad)) (Bx 2 (Aq (gV 2) (Aq (gV 3) Ce))) Qf))
def Ug:List D->DH->R D:=Bt 1 3 ZH0
def ZAl:DE:=(dV 0)
def Xw:DB:=(Ay (dOp Cq (dOp Aj (dV 1) (dV 0)) (dC (.int 0))))
noncomputable def ZJY:DS:=(Ah (sIf (Ay (dOp Cq (dOp Aj (dV 2) (dV 1)) (dOp Aj (dOp Aj (dV 0) (dV 1)) (dC (.int 2))))) (sRt (dC .non)) sNx) (sRt (dOp Aj (Br (Ej (Ew (Br (dFn Uy (Ab (dV 0) (Ab (dV 1) Ad))))) 1 [3] (gV 0) Xw ZAl)) (dC (.int 0)))))
def Wi:List D->DH->R D:=Bt 4 0 ZJY
def ZD7:DE:=(Br (dFn Wi (Ab (dV 1) (Ab (dV 0) (Ab (dV 2) (Ab (dV 3) Ad))))))
noncomputable def ZEn:DS:=(Ah (sAs (Br (dFn Uu (Ab (dV 0) Ad))) (gV 1)) (Ah (sAs (Br (dFn N7 (Ab (dV 0) (Ab (dV 1) Ad)))) (gV 2)) (sRt (Ej (Dg rng1 (Ab (dFn Do (Ab (dV 0) Ad)) Ad)) 1 [0,1,2] (gV 0) Ck ZD7))))
def Ue:List D->DH->R D:=Bt 1 2 ZEn
noncomputable def Ni:DS:=(sIf (Ay (dOp Lb (dV 9) (dC .non))) (sAs (dOp Aj (dV 6) (dV 9)) (gIx (dV 5) (dV 8))) sNx)
noncomputable def Yv:DS:=(Dq (Dg (I9 2) (Ab (dV 6) (Ab (Br (dFn Ue (Ab (dV 7) Ad))) Ad))) (Bx 2 (Aq (gV 8) (Aq (gV 9) Ce))) Ni)
noncomputable def ZHw:DS:=(Ah (sAs (Xz "Course" Nm (Ab (dV 0) (Ab (dV 1) (Ab (dV 2) (Ab (dV 3) Ad))))) (gV 4)) (Ah (sEx (Ii "Course" "go" Ug (dV 4) Ad)) (Ah (sAs (Eh (dOp Jt (dFn Av (Ab (dC .non) Ad)) (dFn Do (Ab (dOp Aj (dV 0) (dC (.int 1))) Ad)))) (gV 5)) (Ah (Dq (Ew (Ex "Course" (dV 4) "reaches")) (Bx 2 (Aq (gV 6) (Aq (gV 7) Ce))) Yv) (sRt (dV 5))))))
def Py:List D->DH->R D:=Bt 4 6 ZHw
def Yg:DE:=(dOp Aj (dV 0) (dC (.int 5)))
def Zf:DE:=(dFn Gp (Ab (dV 0) Ad))
noncomputable def ZFq:DS:=(sRt (dFn Bw (Ab (dFn Gp (Ab (Br (Ej (Ew (Ex "Course" (dV 0) "page")) 1 [] (gV 0) Ck Yg)) Ad)) (Ab (dFn Gp (Ab (Br (Ej (Ew (Ex "Course" (dV 0) "coming")) 1 [] (gV 0) Ck Zf)) Ad)) Ad))))
def Yb:List D->DH->R D:=Bt 1 0 ZFq
noncomputable def ZGp:DS:=(Ah (sAs (Xz "Course" Nm (Ab (dV 0) (Ab (dV 1) (Ab (dV 2) (Ab (dV 3) Ad))))) (gV 4)) (Ah (sEx (Ii "Course" "go" Ug (dV 4) Ad)) (sRt (dFn Bw (Ab (dFn Gp (Ab (Ex "Course" (dV 4) "page") Ad)) (Ab (Ii "Course" "state_behind" Yb (dV 4) Ad) Ad))))))
def Xj:List D->DH->R D:=Bt 4 1 ZGp
def Q0:DS:=(sAs (dFn U8 (Ab (dV 1) (Ab (dV 8) Ad))) (gV 8))
noncomputable def Om:DB:=(Kp (Ay (dOp Lb (dV 8) (dC .non))) (K7 (Ay (dFn Vo (Ab (dV 1) (Ab (dV 6) (Ab (dV 7) (Ab (dV 8) Ad))))))))
noncomputable def ZCR:DS:=(sIf (Ay (dOp Hz (dOp Aj (dV 5) (dV 7)) (dV 8))) (sRt (dC (.bl false))) sNx)
noncomputable def ZAu:DS:=(Ah (sIf (Ay (dOp Iv (dOp Aj (dOp Aj (dV 6) (dV 7)) (dC (.int 1))) (dFn Vw (Ab (dOp Aj (dOp Aj (dV 1) (dC (.int 1))) (dV 7)) Ad)))) (Ah (sAs (dV 7) (gV 8)) (Ah (sWh Om Q0 fuel) (sIf (dOr (Ay (dOp Qa (dV 8) (dC .non))) (dOr (K7 (Ay (dFn Ge (Ab (dOp Aj (dV 5) (dV 7)) (Ab (dC (.ty "int")) Ad))))) (Ay (dFn Ge (Ab (dOp Aj (dV 5) (dV 7)) (Ab (dC (.ty "bool")) Ad)))))) (sRt (dC (.bl false))) sNx))) sNx) ZCR)
def R4:DS:=(Ah (sAs (dC .non) (gV 8)) ZAu)
noncomputable def ZH1:DS:=(sRt (dOp Cq (Br (dFn Py (Ab (dV 1) (Ab (dV 2) (Ab (dV 3) (Ab (dV 4) Ad)))))) (dV 9)))
def ZIt:DS:=(Ah (sEx (Fv Fp (dV 5) (Ab (dC (.int 1)) Ad))) ZH1)
def ZJ0:DS:=(Ah (sAs (Br (dFn Ob (Ab (dV 5) Ad))) (gV 9)) ZIt)
def ZIm:DS:=(Ah (Dq (Dg rng1 (Ab (dFn Do (Ab (dV 4) Ad)) Ad)) (gV 7) R4) ZJ0)
noncomputable def ZBD:DS:=(Ah (sIf (dOr (K7 (Ay (dFn Wa (Ab (dV 6) (Ab (dFn Do (Ab (dV 4) Ad)) Ad))))) (dOr (K7 (Ay (dFn Ge (Ab (dV 5) (Ab (dC (.ty "list")) Ad))))) (Ay (dOp Hz (dFn Do (Ab (dV 5) Ad)) (dFn Do (Ab (dV 4) Ad)))))) (sRt (dC (.bl false))) sNx) ZIm)
noncomputable def ZGQ:DS:=(Ah (sIf (Ay (dOp Cq (dOp Be (dFn Bf (Ab (dV 0) (Ab (dC (.int 4)) Ad))) (dC (.int 2))) (dC (.int 1)))) (sAs (Eh (dFn Py (Ab (dV 1) (Ab (dV 2) (Ab (dV 3) (Ab (dV 4) Ad)))))) (gV 5)) sNx) ZBD)
noncomputable def ZEp:DS:=(Ah (sAs (dOp Aj (dFn Xj (Ab (dV 1) (Ab (dV 2) (Ab (dV 3) (Ab (dV 4) Ad))))) (dC (.int 0))) (gV 6)) ZGQ)
noncomputable def ZFJ:DS:=(Ah (sAs (Eh (dFn Py (Ab (dV 1) (Ab (dV 2) (Ab (dV 3) (Ab (dV 4) Ad)))))) (gV 5)) ZEp)
noncomputable def ZGX:DS:=(Ah (sAs (dOp Aj (Br (dFn W3 (Ab (dV 0) (Ab (dV 1) (Ab (dC (.int 1)) Ad))))) (dC (.int 0))) (gV 4)) ZFJ)
def ZFT:DS:=(Ah (sAs (dFn U5 (Ab (dV 0) Ad)) (gV 3)) ZGX)
def ZFG:DS:=(Ah (sAs (dFn Z6 (Ab (dV 0) (Ab (dV 1) Ad))) (gV 2)) ZFT)
def ZEL:DS:=(Ah (sAs (dFn Z2 (Ab (dV 0) Ad)) (gV 1)) ZFG)
def Ol:List D->DH->R D:=Bt 1 9 ZEL
noncomputable def Holds:Prop:=∀ns:List Int,ns.length<=63->∃G,Ol [.fl (ns.map D.int)] []=.ok (.bl true) G
end Law
namespace Law
open PySem L2 DL
variable {ns xs:List Int} {k m i d j b p to dl a:Nat} {o:Option Nat} {F T P ca fl lv f ca':Nat->Int} {G L:DH} {A:DO} {ds:List D} {ws ms l:List Nat} {x s2:Option D} {α:Type} {t c at_ u yr:Int} {q:Option (Nat×Nat×Int)} {H LV:D} {pg:Nat->List Int} {S:DSt} {co:Nat->Nat->Int} {nm:Nat->Str} {dns:Bool}
theorem ZF6:∃b,∀G,Ou [.fl (ns.map D.int)] G=.ok (.bl b) G:=by
 cases ns with
 | nil=>exact ⟨false,λG=>by unfold Ou ZBT;rw [Bk];simp [Bh]⟩
 | cons n r=>
  refine ⟨decide (n < 0) || decide (1000000000000000000<=n),λG=> ?_⟩;unfold Ou ZBT;rw [Bk];have a0:atI ((n::r).map D.int) 0=some (.int n):=Eo (k:=0) rfl rfl;by_cases h:n < 0
  ·simp [a0,h,Bh]
  ·simp [a0,h,Bh]
def offV:Nat->Int->Int
 | 0,v=>v
 | n + 1,v=>offV n (v / 100000000)
theorem ZEQ {k:D} {G:DH}:∀(n:Nat) (j:Nat) (v:Int) (x:Option D),∃x',Bp (gV 2) Um (Cm j n) [some (.int v),some k,x] G=.nx [some (.int (offV n v)),some k,x'] G
 | 0,j,v,x=>⟨x,by rw [Pj,Ea];rfl⟩
 | n + 1,j,v,x=>by
  obtain ⟨x',ih⟩:=ZEQ (k:=k) (G:=G) n (j + 1) (v / 100000000) (some (.int j));refine ⟨x',?_⟩;have hb:Um [some (.int v),some k,some (.int j)] G=.nx [some (.int (v / 100000000)),some k,some (.int j)] G:=by unfold Um;simp
  rw [Lk,Dp];simp only [Du,R.Dl,qY,hb,Dr];have e1:((j:Int) + 1)=((j + 1:Nat):Int):=by lia
  rw [e1,ih]
  rfl
theorem ZJc {v:Int} (hk:k<=1000):∃r:Int,(0<=r/\r < 100000000)/\∀G,Vg [.int v,.int k] G=.ok (.int r) G:=by
 by_cases h:0<=v/\v < 1000000000000000000
 ·let a:=(v + 1009 * (k:Int) + 7) % 999999937;let b:=a * a % 999999929;refine ⟨b * (b + k) % 99999989,by lia,λG=> ?_⟩;have ha:0<=a/\a < 999999937:=by lia
  have hb:0<=b/\b < 999999929:=by lia
  unfold Vg ZD0;rw [Bk];have m1:Bo (.int a) (.int a)=λG=>R.ok (.int (a * a)) G:=by funext G;exact Jy (by lia) (by lia)
  have m2:Bo (.int b) (.int (b + k))=λG=>R.ok (.int (b * (b + k))) G:=by funext G;exact Jy (by lia) (by lia)
  simp [h.1,h.2]
  rw [show (v + 1009 * (k:Int) + 7) % 999999937=a from rfl,m1]
  simp
  rw [show a * a % 999999929=b from rfl,m2]
  simp [Bh]
 ·refine ⟨offV k v % 100000000,by lia,λG=> ?_⟩;obtain ⟨x',hx⟩:=ZEQ (k:=.int k) (G:=G) k 0 v none;have hx':Bp (gV 2) Um (Cm 0 k) [some (.int v),some (.int k),none] G=.nx [some (.int (offV k v)),some (.int k),x'] G:=hx;unfold Vg ZD0;rw [Bk];have hr:inR (k:Int):=Gg (by lia) (by lia);by_cases h0:0<=v
  ·have h1:¬v < 1000000000000000000:=λz=>h ⟨h0,z⟩
   simp [h0,h1,hr,hx',Bh]
  ·simp [h0,hr,hx',Bh]
theorem ZGh (hl:ns.length<=63) (hk:k<=1000):∃v:Int,∀G,Bf [.fl (ns.map D.int),.int k] G=.ok (.int v) G:=by
 obtain ⟨b,ht⟩:=ZF6 (ns:=ns);have hd:((k:Int) / 14)=((k / 14:Nat):Int):=by lia
 have hm:((k:Int) % 14)=((k % 14:Nat):Int):=by lia
 cases b with
 | true=>
  by_cases h:1 + k / 14 < ns.length
  ·obtain ⟨r,hr,ho⟩:=ZJc (v:=ns[1 + k / 14]) (k:=k % 14) (by lia);refine ⟨r,λG=> ?_⟩;unfold Bf Ql;rw [Bk];have a1:atI (ns.map D.int) (1 + (k:Int) / 14)=some (.int ns[1 + k / 14]):=Eo (k:=1 + k / 14) (by lia) (by rw [zw,zQ h];rfl);have hc:(1 + (k:Int) / 14) < ns.length:=by lia
   simp [ht,hc,a1];rw [hm,ho];simp [Bh]
  ·obtain ⟨r,hr,ho⟩:=ZJc (v:=0) (k:=k % 14) (by lia);refine ⟨r,λG=> ?_⟩;unfold Bf Ql;rw [Bk];have hc:¬(1 + (k:Int) / 14) < ns.length:=by lia
   simp [ht,hc];rw [hm,ho];simp [Bh]
 | false=>
  by_cases h:k < ns.length
  ·refine ⟨ns[k],λG=> ?_⟩;unfold Bf Ql;rw [Bk];have a1:atI (ns.map D.int) (k:Int)=some (.int ns[k]):=Eo (k:=k) rfl (by rw [zw,zQ h];rfl);simp [ht,h,a1,Bh]
  ·have m0:∀G,Bo (.int k) (.int k) G=R.ok (.int ((k:Int) * k)) G:=λG=>Jy (by lia) (by lia)
   by_cases h0:0 < ns.length
   ·have hi:k % ns.length < ns.length:=Nat.mod_lt _ h0;refine ⟨48271 * ((k:Int) * k + 7 * ns.length) % 2147483647 + ns[k % ns.length] * 69621 % 2147483629,λG=> ?_⟩;unfold Bf Ql;rw [Bk];have a1:atI (ns.map D.int) ((k:Int) % ns.length)=some (.int ns[k % ns.length]):=Eo (k:=k % ns.length) (by simp) (by rw [zw,zQ hi];rfl);simp [ht,h,m0,h0,a1,Bh]
   ·have e:ns= []:=qS (by lia);subst e;refine ⟨48271 * ((k:Int) * k + 7 * 0) % 2147483647,λG=> ?_⟩;unfold Bf Ql;rw [Bk];have ht':∀G,Ou [.fl []] G=.ok (.bl false) G:=ht;have hk0:¬(k:Int) < 0:=by lia
    simp [ht',hk0,m0,Bh]
theorem cells (hl:ns.length<=63):∃f:Nat->Int,∀k:Nat,k<=1000->∀G,Bf [.fl (ns.map D.int),.int k] G=.ok (.int (f k)) G:=by refine ⟨λk=>if h:k<=1000 then (ZGh hl h).choose else 0,λk hk=> ?_⟩;simp only [dif_pos hk];exact (ZGh hl hk).choose_spec
structure Row where
 down:Option Nat
 water:Int
 need:Int
 rank:Int
variable {rs:List Row}
def dnD:Option Nat->D
 | none=>.non
 | some d=>.int d
def Row.enc (r:Row):D:=.tup [dnD r.down,.int r.water,.int r.need,.int r.rank]
@[simp] theorem ZNX {n:Nat} :bel n (dnD o)=true:=by cases o <;> rfl
@[simp] theorem ZL3 {n:Nat} {r:Row}:bel n r.enc=true:=by simp [Row.enc]
@[simp] theorem ZSb {n:Nat} :bels n (rs.map Row.enc)=true:=Gi λr _=>ZL3
@[simp] theorem ZG7 {n:Nat} :bels n (xs.map D.int)=true:=Gi λr _=>rfl
structure Fine (k n:Nat) (r:Row):Prop where
 dn:∀d,r.down=some d->k < d/\d < n
 w0:0<=r.water
 n0:0<=r.need
 r0:0<=r.rank
def Reach (rs:List Row):Prop:=∀k r,rs[k]? =some r->Fine k rs.length r
def tab (n:Nat) (F:Nat->Int):List D:=(zj n).map λi=>D.int (F i)
def fset (F:Nat->Int) (d:Nat) (v:Int):Nat->Int:=λi=>if i=d then v else F i
@[simp] theorem ZSa {n:Nat} :(tab n F).length=n:=by simp [tab]
@[simp] theorem S7 {n:Nat} :bels m (tab n F)=true:=Gi λ_ _=>rfl
theorem Oi {n:Nat} (h:i < n):(tab n F)[i]? =some (.int (F i)):=by unfold tab;rw [zw,zO h];rfl
theorem Gf {n:Nat} (h:i < n):atI (tab n F) (i:Int)=some (.int (F i)):=Eo rfl (Oi h)
theorem Sv {n:Nat} {v:Int}:(tab n F).set d (.int v)=tab n (fset F d v):=by
 refine j5 λi=> ?_
 by_cases hi:i < n
 ·by_cases e:d=i
  ·subst e;rw [jQ (by simpa using hi),Oi hi];simp [fset]
  ·rw [qP e,Oi hi,Oi hi];have:i≠d:=λz=>e z.symm
   simp [fset,this]
 ·rw [z5 (by simp;lia),z5 (by simp;lia)]
theorem ZGL {n:Nat} {F':Nat->Int} (h:∀i,i < n->F i=F' i):tab n F=tab n F':=by
 unfold tab;refine zT λi hi=> ?_
 rw [h i (zS.mp hi)]
noncomputable def col (g:Row->Int) (rs:List Row) (i:Nat):Int:=match rs[i]? with
 | some r=>g r
 | none=>0
def Cg (rs:List Row) (i:Nat):Option Nat:=rs[i]?.bind Row.down
theorem Ik (h:Reach rs) (e:Cg rs k=some d):k < d/\d < rs.length:=by
 unfold Cg at e;cases hr:rs[k]? with
 | none=>rw [hr] at e;cases e
 | some r=>rw [hr] at e;exact (h k r hr).dn d e
theorem Wq (hk:k < rs.length):Cg rs k=rs[k].down:=by unfold Cg;rw [zQ hk];rfl
theorem Zh (hk:¬k < rs.length):Cg rs k=none:=by unfold Cg;rw [z5 (by lia)];rfl
noncomputable def gstep (F:Nat->Int) (k:Nat) (o:Option Nat):Nat->Int:=match o with
 | none=>F
 | some d=>fset F d (F d + F k)
noncomputable def gat (rs:List Row):Nat->Nat->(Nat->Int)->Nat->Int
 | 0,_,F=>F
 | m + 1,k,F=>gat rs m (k + 1) (gstep F k (Cg rs k))
abbrev gath (rs:List Row) (F:Nat->Int):Nat->Int:=gat rs rs.length 0 F
theorem Va:∀(m k:Nat) (a b:Nat->Int),gat rs m k (λi=>a i - b i)=λi=>gat rs m k a i - gat rs m k b i
 | 0,k,a,b=>rfl
 | m + 1,k,a,b=>by
  unfold gat;have e:gstep (λi=>a i - b i) k (Cg rs k)=λi=>gstep a k (Cg rs k) i - gstep b k (Cg rs k) i:=by
   cases Cg rs k with
   | none=>rfl
   | some d=>
    funext i;simp only [gstep,fset]
    split <;> lia
  rw [e,Va m (k + 1)]
theorem U4 (hk:k < rs.length):atI (rs.map Row.enc) (k:Int)=some (.tup [dnD (Cg rs k),.int (col Row.water rs k),.int (col Row.need rs k),.int (col Row.rank rs k)]):=
 Eo rfl (by rw [zw,Wq hk];simp [col,zQ hk,Row.enc])
theorem ZJQ (hR:Reach rs) {t:D} {G:DH}:∀(m k:Nat) (F:Nat->Int) (x y:Option D),k + m=rs.length->∃x' y',
  Bp (Bx 2 (Aq (gV 4) (Aq (gV 3) Ce))) Nu ((Eg (rs.map Row.enc)).drop k) [some (.fl (rs.map Row.enc)),some t,some (.ref G.length),x,y] (G++ [.lst (tab rs.length F)])=
   .nx [some (.fl (rs.map Row.enc)),some t,some (.ref G.length),x',y'] (G++ [.lst (tab rs.length (gat rs m k F))])
 | 0,k,F,x,y,h=>⟨x,y,by rw [zN (by rw [Ly];simp;lia),Ea];rfl⟩
 | m + 1,k,F,x,y,h=>by
  have hk:k < rs.length:=by lia
  have e0:(Eg (rs.map Row.enc)).drop k=.tup [.int k,rs[k].enc]::(Eg (rs.map Row.enc)).drop (k + 1):=by rw [zL (by rw [Ly];simpa using hk)];simp [Eg]
  obtain ⟨x',y',ih⟩:=ZJQ hR (t:=t) (G:=G) m (k + 1) (gstep F k (Cg rs k)) (some rs[k].enc) (some (.int k)) (by lia);refine ⟨x',y',?_⟩;have hb:Nu [some (.fl (rs.map Row.enc)),some t,some (.ref G.length),some rs[k].enc,some (.int k)] (G++ [.lst (tab rs.length F)])=
    .nx [some (.fl (rs.map Row.enc)),some t,some (.ref G.length),some rs[k].enc,some (.int k)] (G++ [.lst (tab rs.length (gstep F k (Cg rs k)))]):=by
   unfold Nu;cases hd:Cg rs k with
   | none=>
    have:rs[k].down=none:=by rw [<-Wq hk];exact hd
    simp [Row.enc,this,dnD,gstep]
   | some d=>
    have e:rs[k].down=some d:=by rw [<-Wq hk];exact hd
    have hdn:=Ik hR hd;have g0:(G++ [DO.lst (tab rs.length F)])[G.length]? =some (.lst (tab rs.length F)):=by simp
    simp [Row.enc,e,dnD,gstep,Vy g0 (Gf hdn.2),Dj,Gf hk,Ep,Jv,hdn.2,Sv]
  rw [e0,Dp];simp [Du,hb];exact ih
noncomputable def M5 (rs:List Row) (i:Nat):D:=.tup [dnD (Cg rs i),.int (col Row.water rs i),.int (col Row.need rs i),.int (col Row.rank rs i)]
theorem ZHz:rs.map Row.enc=(zj rs.length).map (M5 rs):=by
 refine j5 λi=> ?_
 by_cases hi:i < rs.length
 ·rw [zw,zw,zO hi,zQ hi];simp [M5,Row.enc,Wq hi,col,zQ hi]
 ·rw [z5 (by simp;lia),z5 (by simp;lia)]
theorem ZAY (hR:Reach rs) (hl:rs.length<=40) {t:D} (ht:By t G=some (tab rs.length T)):N7 [.fl (rs.map Row.enc),t] G=.ok (.ref G.length) (G++ [.lst (tab rs.length (gath rs λi=>col Row.water rs i - T i))]):=by
 obtain ⟨x',y',hL⟩:=ZJQ hR (t:=t) (G:=G) rs.length 0 (λi=>col Row.water rs i - T i) none none (by lia);have hz:∀j,Gz [.fl (rs.map Row.enc),t] j G=some ((zj rs.length).map λi=>D.tup [M5 rs i,.int (T i)])[j]? :=λj=>by
  rw [ZAS ZC4 ht,Mu,ZHz,tab,List.zip_map',qU]
  rfl
 let F:D->Option D:=λd=>match d with
  | .tup [.tup [_,.int w,_,_],.int v]=>some (.int (w - v))
  | _=>none
 have hc:Ed (Gz [.fl (rs.map Row.enc),t]) (Bx 2 (Aq (gV 0) (Aq (gV 1) Ce))) Ck Zz (Bl 2 [] [some (.fl (rs.map Row.enc)),some t,none,none,none]) rs.length 0 G=.ok (tab rs.length λi=>col Row.water rs i - T i) G:=by
  rw [Zu (F:=F) hz (λx hx=> ?_) (by simp)]
  ·congr 1
   rw [qQ];show (zj rs.length).filterMap (λi=>some (D.int (col Row.water rs i - T i)))=_;rw [qj]
   rfl
  ·obtain ⟨i,_,rfl⟩:=zG.mp hx;refine ⟨[some (M5 rs i),some (.int (T i))],by simp [Bl],.inr ⟨rfl,.int (col Row.water rs i - T i),?_,rfl⟩⟩;unfold Zz;simp [M5]
 have hl2:rs.length<=1000000:=by lia
 unfold N7 ZGi;rw [Bk];have hL':Bp (Bx 2 (Aq (gV 4) (Aq (gV 3) Ce))) Nu (Eg (rs.map Row.enc)) [some (.fl (rs.map Row.enc)),some t,some (.ref G.length),none,none] (G++ [.lst (tab rs.length λi=>col Row.water rs i - T i)])=_:=hL;have hcf:Em (Gb 0 (.fl (rs.map Row.enc))) (Bx 2 (Aq (gV 4) (Aq (gV 3) Ce))) Nu rs.length 0 [some (.fl (rs.map Row.enc)),some t,some (.ref G.length),none,none] (G++ [.lst (tab rs.length λi=>col Row.water rs i - T i)])=.nx [some (.fl (rs.map Row.enc)),some t,some (.ref G.length),x',y'] (G++ [.lst (tab rs.length (gath rs λi=>col Row.water rs i - T i))]):=by
  have:=ZKA (S:= [some (.fl (rs.map Row.enc)),some t,some (.ref G.length),none,none]) (G:=G++ [.lst (tab rs.length λi=>col Row.water rs i - T i)]) (g:=Bx 2 (Aq (gV 4) (Aq (gV 3) Ce))) (b:=Nu) (xs:=rs.map Row.enc);rw [qW] at this;rw [this];exact hL'
 simp [ZEV (ZC4 (xs:=rs.map Row.enc)) ht,hc,Av,hl2,hcf,Fb]
theorem ZJG {g:Row->Int} (h:∀r∈rs,0<=g r) (k:Nat):0<=col g rs k:=by
 unfold col;split
 ·rename_i r hr;exact h r (List.mem_of_getElem? hr)
 ·exact qJ _
theorem Reach.need (h:Reach rs) (k:Nat):0<=col Row.need rs k:=ZJG (λr hr=>by obtain ⟨i,hi,rfl⟩:=qD hr;exact (h i _ (zQ hi)).n0) k
theorem Reach.water (h:Reach rs) (k:Nat):0<=col Row.water rs k:=ZJG (λr hr=>by obtain ⟨i,hi,rfl⟩:=qD hr;exact (h i _ (zQ hi)).w0) k
theorem ZAq (h:bels (G.length + 1) ds=true):freeze (G++ [A]) (.ok (.ref (G.length + 1)) (G++A:: .lst ds::L))=.ok (.fl ds) (G++ [A]):=by have:=Fj (G:=G++ [A]) (ds:=ds) (L:=L) (by simpa using h);simpa using this
theorem ZQp (h:bels (G.length + 1) ds=true):tidy (G++ [A]) (.ok (.ref (G.length + 1)) (G++A:: .lst ds::L))=.ok (.ref (G.length + 1)) (G++ [A,.lst ds]):=by have:=Fb (G:=G++ [A]) (ds:=ds) (L:=L) (by simpa using h);simpa using this
theorem ZCf {B:DO} (h:bels (G.length + 2) ds=true):freeze (G++ [A,B]) (.ok (.ref (G.length + 2)) (G++A::B:: .lst ds::L))=.ok (.fl ds) (G++ [A,B]):=by have:=Fj (G:=G++ [A,B]) (ds:=ds) (L:=L) (by simpa using h);simpa using this
noncomputable def Mg (rs:List Row):Nat->Nat->List Nat
 | 0,k=> [k]
 | m + 1,k=>k::(match Cg rs k with
  | none=> []
  | some d=>Mg rs m d)
def way (rs:List Row) (k:Nat):List Nat:=Mg rs rs.length k
theorem ZEC (hR:Reach rs):∀(m m' k:Nat),rs.length<=m + k + 1->rs.length<=m' + k + 1->Mg rs m k=Mg rs m' k
 | 0,m',k,h,h'=>by
  have hn:Cg rs k=none:=by
   cases hd:Cg rs k with
   | none=>rfl
   | some d=>have:=Ik hR hd;lia
  cases m' with
  | zero=>rfl
  | succ m'=>simp [Mg,hn]
 | m + 1,0,k,h,h'=>by
  have hn:Cg rs k=none:=by
   cases hd:Cg rs k with
   | none=>rfl
   | some d=>have:=Ik hR hd;lia
  simp [Mg,hn]
 | m + 1,m' + 1,k,h,h'=>by
  cases hd:Cg rs k with
  | none=>simp [Mg,hd]
  | some d=>
   have:=Ik hR hd;simp [Mg,hd,ZEC hR m m' d (by lia) (by lia)]
def J6 (rs:List Row):Option Nat->List Nat
 | none=> []
 | some d=>way rs d
theorem Ey (hR:Reach rs) (k:Nat):way rs k=k::J6 rs (Cg rs k):=by
 unfold way;rw [ZEC hR rs.length (rs.length + 1) k (by lia) (by lia)];show k::_=_;cases hd:Cg rs k with
 | none=>rfl
 | some d=>rfl
theorem ZM9:dnD none=.non:=id rfl
@[simp] theorem ZSg:dnD (some d)=.int d:=id rfl
def Ao (ws:List Nat):List D:=ws.map λ(i:Nat)=>D.int (i:Int)
@[simp] theorem ZCp:bels m (Ao ws)=true:=Gi λ_ _=>rfl
@[simp] theorem ZEs:(Ao ws).length=ws.length:=by simp [Ao]
theorem ZEi (hR:Reach rs) (hl:rs.length<=40) :∀(m:Nat) (o:Option Nat) (acc:List Nat),0 < m->(∀d,o=some d->d < rs.length/\rs.length - d < m/\acc.length + (rs.length - d)<=100)->
  sWh O1 Ud m [some (.fl (rs.map Row.enc)),x,some (.ref G.length),some (dnD o)] (G++ [.lst (Ao acc)])=.nx [some (.fl (rs.map Row.enc)),x,some (.ref G.length),some .non] (G++ [.lst (Ao (acc++J6 rs o))])
 | 0,o,acc,h0,h=>by lia
 | m + 1,none,acc,h0,h=>by
  have ht:O1 [some (.fl (rs.map Row.enc)),x,some (.ref G.length),some (dnD none)] (G++ [.lst (Ao acc)])=.ok false (G++ [.lst (Ao acc)]):=by unfold O1;simp [dnD]
  unfold sWh;rw [ht];simp [J6,dnD]
 | m + 1,some d,acc,h0,h=>by
  obtain ⟨h1,h2,h3⟩:=h d rfl;have ht:O1 [some (.fl (rs.map Row.enc)),x,some (.ref G.length),some (dnD (some d))] (G++ [.lst (Ao acc)])=.ok true (G++ [.lst (Ao acc)]):=by unfold O1;simp [dnD]
  have hla:acc.length < 1000000:=by lia
  have hb:Ud [some (.fl (rs.map Row.enc)),x,some (.ref G.length),some (dnD (some d))] (G++ [.lst (Ao acc)])=.nx [some (.fl (rs.map Row.enc)),x,some (.ref G.length),some (dnD (Cg rs d))] (G++ [.lst (Ao (acc++ [d]))]):=by unfold Ud;simp [Dj,Ep,hla,U4 h1,Ao]
  unfold sWh;rw [ht];simp only [R.Dl,if_true,hb,Dr];rw [ZEi hR hl m (Cg rs d) (acc++ [d]) (by lia) (λe he=>by have:=Ik hR he;simp;lia)]
  have:J6 rs (some d)=d::J6 rs (Cg rs d):=Ey hR d;rw [this];simp
theorem ZEx (hR:Reach rs) (hl:rs.length<=40) (hk:k < rs.length) (G:DH):Uy [.fl (rs.map Row.enc),.int k] G=.ok (.ref G.length) (G++ [.lst (Ao (way rs k))]):=by
 have hL:=ZEi hR hl (x:=some (.int k)) (G:=G) fuel (Cg rs k) [k] (by unfold fuel;lia) (λd hd=>by have:=Ik hR hd;unfold fuel;simp;lia)
 have hL':sWh O1 Ud fuel [some (.fl (rs.map Row.enc)),some (.int k),some (.ref G.length),some (dnD (Cg rs k))] (G++ [.lst [.int k]])=_:=hL;rw [Ey hR];unfold Uy ZF4;rw [Bk];simp [Av,Fb,U4 hk,hL']
noncomputable def ltK (rs:List Row) (i j:Nat):Bool:=decide (col Row.rank rs i < col Row.rank rs j∨(col Row.rank rs i=col Row.rank rs j/\i < j))
theorem O8 (rs:List Row):WO (ltK rs) where
 asy:=λi j h=>by simp only [ltK,decide_eq_true_eq,decide_eq_false_iff_not] at h ⊢;lia
 neg:=λi j k h=>by simp only [ltK,decide_eq_true_eq] at h ⊢;lia
theorem ZGV (h:ltK rs j i=false) (hne:i≠j):ltK rs i j=true:=by simp only [ltK,decide_eq_true_eq,decide_eq_false_iff_not] at h ⊢;lia
noncomputable def ord (rs:List Row):List Nat:=if rs.length < 2 then zj rs.length else (Cj (ltK rs) (PySem.W.kas_sort rs.length)).toList
theorem Ow (rs:List Row):(ord rs).Perm (zj rs.length):=by
 unfold ord;split
 ·exact .refl _
 ·exact (ZCK (O8 rs) (by lia)).1
theorem ZQS (rs:List Row):(ord rs).Pairwise λi j=>ltK rs i j=true:=by
 have hp:=Ow rs;unfold ord at hp ⊢;split
 ·rename_i h
  rcases (by lia:rs.length=0∨rs.length=1) with e | e <;> rw [e] <;> simp [jD]
 ·rename_i h;rw [if_neg h] at hp;have hs:=(ZCK (O8 rs) (n:=rs.length) (by lia)).2;have nd:(Cj (ltK rs) (PySem.W.kas_sort rs.length)).toList.Nodup:=hp.nodup_iff.mpr List.nodup_range;have hl:(Cj (ltK rs) (PySem.W.kas_sort rs.length)).toList.length=rs.length:=by rw [hp.length_eq];simp
  generalize Cj (ltK rs) (PySem.W.kas_sort rs.length)=p at hs nd hl;rw [qy];intro i j hi hj hij;have hz:p.size=rs.length:=by simpa using hl
  have hi':i < p.size:=by simpa using hi
  have hj':j < p.size:=by simpa using hj
  have e1:pt p i=p[i]:=by simp [pt,Array.getD,hi']
  have e2:pt p j=p[j]:=by simp [pt,Array.getD,hj']
  have h1:=hs i j (Nat.le_of_lt hij) (by lia);rw [e1,e2] at h1;have hne:p.toList[i]≠p.toList[j]:=λz=>by have:=(qy.mp nd) i j hi hj hij;exact this z
  simp only [Array.getElem_toList] at hne ⊢;exact ZGV h1 hne
theorem Rz (h:k∈ord rs):k < rs.length:=by have:=(Ow rs).mem_iff.mp h;simpa using this
theorem ZFc (rs:List Row):(ord rs).length=rs.length:=by rw [(Ow rs).length_eq];simp
theorem ZE4 {n:Nat} {lt lt':Nat->Nat->Bool} (h:∀i j,i < n->j < n->lt i j=lt' i j) {P:α->Prop}:∀{t:PySem.W.KasT α},Safe n P t->Cj lt t=Cj lt' t
 | .ret _,_=>rfl
 | .ask i j k,hs=>by show Cj lt (k (lt i j))=Cj lt' (k (lt' i j));rw [h i j hs.1 hs.2.1];exact ZE4 h (hs.2.2 _)
def Hf (rs:List Row) (k:Nat):D:=.tup [.int (col Row.rank rs k),.int k]
theorem ZJF (i j:Nat):ltD (Hf rs i) (Hf rs j)=some (ltK rs i j):=by
 have e:ltD (Hf rs i) (Hf rs j)=if col Row.rank rs i=col Row.rank rs j then (if (i:Int)=j then some false else some (decide ((i:Int) < j))) else some (decide (col Row.rank rs i < col Row.rank rs j)):=rfl
 rw [e];by_cases h:col Row.rank rs i=col Row.rank rs j
 ·rw [if_pos h];by_cases h2:(i:Int)=j
  ·rw [if_pos h2]
   congr 1
   simp only [ltK]
   symm
   simp only [decide_eq_false_iff_not];lia
  ·rw [if_neg h2]
   congr 1
   simp only [ltK];rw [decide_eq_decide];lia
 ·rw [if_neg h]
  congr 1
  simp only [ltK];rw [decide_eq_decide];lia
def Hw (rs:List Row):List D:=(zj rs.length).map (Hf rs)
theorem ZBB (h:i < rs.length):(Hw rs).getD i .non=Hf rs i:=by unfold Hw;rw [zy,zw,zO h];rfl
theorem ZJv (rs:List Row):M8 (Hw rs)=(ord rs).map (Hf rs):=by
 have hl:(Hw rs).length=rs.length:=by simp [Hw]
 unfold M8 ord;rw [hl];split
 ·rfl
 ·rename_i h;have e:Cj (ltI (Hw rs)) (PySem.W.kas_sort rs.length)=Cj (ltK rs) (PySem.W.kas_sort rs.length):=
   ZE4 (n:=rs.length) (λi j hi hj=>by unfold ltI;rw [ZBB hi,ZBB hj,ZJF];rfl) (ZRG (by lia))
  rw [e];refine zT λi hi=> ?_
  have hp:=(ZCK (O8 rs) (n:=rs.length) (by lia)).1;exact ZBB (by simpa using hp.mem_iff.mp hi)
theorem ZL2 (rs:List Row):Qq (Hw rs)=true:=by
 unfold Qq Hw;rw [zC,jC];refine ⟨.inl ?_,?_⟩
 ·rw [qk];intro x hx;obtain ⟨i,_,rfl⟩:=zG.mp hx
  rfl
 ·rw [qk];intro x hx;rw [qk];intro y hy;obtain ⟨i,_,rfl⟩:=zG.mp hx;obtain ⟨j,_,rfl⟩:=zG.mp hy;rw [ZJF];rfl
@[simp] theorem ZPD:bels m (ws.map (Hf rs))=true:=Gi λ_ _=>by simp [Hf]
theorem ZNo (hl:rs.length<=40) (G:DH):Ww [.fl (rs.map Row.enc)] G=.ok (.ref G.length) (G++ [.lst (Ao (ord rs))]):=by
 have he:∀j,Gb 0 (.fl (rs.map Row.enc)) j G=some ((zj rs.length).map λ(k:Nat)=>D.tup [.int (k:Int),M5 rs k])[j]? :=λj=>by
  rw [Yd,Eg,ZHz,List.zipIdx_map,qU]
  congr 2
  refine q8 (by simp) λi h1 h2=>by simp
 let F:D->Option D:=λd=>match d with
  | .tup [.int k,.tup [_,_,_,.int r]]=>some (.tup [.int r,.int k])
  | _=>none
 have hc:Ed (Gb 0 (.fl (rs.map Row.enc))) (Bx 2 (Aq (gV 0) (Aq (gV 1) Ce))) Ck ZDo (Bl 2 [] [some (.fl (rs.map Row.enc)),none]) rs.length 0 G=.ok (Hw rs) G:=by
  rw [Zu (F:=F) he (λx hx=> ?_) (by simp)]
  ·congr 1
   rw [qQ];show (zj rs.length).filterMap (λi=>some (Hf rs i))=_;rw [qj]
   rfl
  ·obtain ⟨i,_,rfl⟩:=zG.mp hx;refine ⟨[some (.int i),some (M5 rs i)],by simp [Bl],.inr ⟨rfl,Hf rs i,?_,rfl⟩⟩;unfold ZDo;simp [M5,Hf,Bw]
 let F2:D->Option D:=λd=>match d with
  | .tup [_,k]=>some k
  | _=>none
 have hc2:∀S,Dy (Bx 2 (Aq (gV 0) (Aq (gV 1) Ce))) Ck ZAy (Bl 2 [] S) ((ord rs).map (Hf rs)) G=.ok (Ao (ord rs)) G:=λS=>by
  rw [Qy (F:=F2) (λx hx=> ?_)]
  ·congr 1
   rw [qQ];show (ord rs).filterMap (λ(i:Nat)=>some (D.int (i:Int)))=_;rw [qj]
   rfl
  ·obtain ⟨i,_,rfl⟩:=zG.mp hx;refine ⟨[some (.int (col Row.rank rs i)),some (.int i)],by simp [Bl,Hf],.inr ⟨rfl,.int i,?_,rfl⟩⟩;unfold ZAy;simp
 have hkl:(Hw rs).length=rs.length:=by simp [Hw]
 have hl2:rs.length<=1000000:=by lia
 have hs:∀G,Vj [.fl (Hw rs)] G=.ok (.ref G.length) (G++ [.lst ((ord rs).map (Hf rs))]):=λG=>by have h1:J7 (.fl (Hw rs)) G=some (Hw rs):=rfl;simp only [Vj,h1];rw [if_pos ⟨⟨by rw [hkl];lia,by rw [ZJv];simp [ZFc];lia⟩,ZL2 rs⟩,ZJv]
 have hbk:bels G.length (Hw rs)=true:=ZPD;have hol:=ZFc rs;have hl3:(ord rs).length<=1000000:=by lia
 unfold Ww ZGE;rw [Bk];simp [hc,Av,hkl,hl2,Fj,hbk,hs,hc2,hl3,Fb]
noncomputable def wmin (P:Nat->Int):List Nat->Int
 | []=>0
 | k::r=>(r.map P).foldl min (P k)
theorem ZLM (h:b∈ws):wmin P ws<=P b:=by
 cases ws with
 | nil=>cases h
 | cons k r=>
  obtain ⟨h1,h2,_⟩:=Z3 (r.map P) (P k);rcases zK.mp h with rfl | h
  ·exact h1
  ·exact h2 _ (zG.mpr ⟨b,h,rfl⟩)
theorem ZE3 (h:ws≠ []):∃b∈ws,wmin P ws=P b:=by
 cases ws with
 | nil=>exact absurd rfl h
 | cons k r=>
  obtain ⟨_,_,h3⟩:=Z3 (r.map P) (P k);rcases h3 with h3 | h3
  ·exact ⟨k,zX,h3⟩
  ·obtain ⟨b,hb,e⟩:=zG.mp h3;exact ⟨b,zZ _ hb,e.symm⟩
noncomputable def Hl (P:Nat->Int) (ws:List Nat) (t:Int):Nat->Int:=λi=>if i∈ws then P i - t else P i
noncomputable def W4 (P:Nat->Int) (t:Int) (ws:List Nat):Nat->Int:=ws.foldl (λP b=>fset P b (P b - t)) P
theorem ZGF:∀{ws:List Nat} {P:Nat->Int},ws.Nodup->W4 P t ws=Hl P ws t
 | [],P,_=>by funext i;simp [W4,Hl]
 | b::ws,P,h=>by
  obtain ⟨h1,h2⟩:=qK.mp h;show W4 (fset P b (P b - t)) t ws=_;rw [ZGF h2];funext i;by_cases e:i=b
  ·subst e;simp [Hl,fset,h1]
  ·simp [Hl,fset,e]
theorem ZJw (hR:Reach rs):∀(m k:Nat),rs.length<=m + k->k < rs.length->∀b∈way rs k,k<=b/\b < rs.length
 | 0,k,h,hk,b,hb=>by lia
 | m + 1,k,h,hk,b,hb=>by
  rw [Ey hR] at hb;rcases zK.mp hb with rfl | hb
  ·lia
  ·cases hd:Cg rs k with
   | none=>rw [hd] at hb;cases hb
   | some d=>
    have:=Ik hR hd;rw [hd] at hb;have:=ZJw hR m d (by lia) (by lia) b hb;lia
theorem Mt (hR:Reach rs) (hk:k < rs.length) (hb:b∈way rs k):k<=b/\b < rs.length:=ZJw hR rs.length k (by lia) hk b hb
theorem ZEO (hR:Reach rs):∀(m k:Nat),rs.length<=m + k->(way rs k).Nodup
 | 0,k,h=>by rw [Ey hR,Zh (by lia)];simp [J6]
 | m + 1,k,h=>by
  rw [Ey hR];cases hd:Cg rs k with
  | none=>simp [J6]
  | some d=>
   have hlt:=Ik hR hd;refine qK.mpr ⟨λhm=> ?_,ZEO hR m d (by lia)⟩;have:=Mt hR hlt.2 hm;lia
theorem ZKK (hR:Reach rs) (k:Nat):(way rs k).Nodup:=ZEO hR rs.length k (by lia)
theorem ZC6 (hR:Reach rs):∀(m k:Nat),rs.length<=m + k->(way rs k).length<=m + 1
 | 0,k,h=>by rw [Ey hR,Zh (by lia)];simp [J6]
 | m + 1,k,h=>by
  rw [Ey hR];cases hd:Cg rs k with
  | none=>simp [J6]
  | some d=>
   have hlt:=Ik hR hd;have:=ZC6 hR m d (by lia);show (way rs d).length + 1<=_;lia
theorem ZGa (hR:Reach rs) (k:Nat):k∈way rs k:=by rw [Ey hR];exact zX
noncomputable def take1 (rs:List Row) (P:Nat->Int) (k:Nat):Int:=min (col Row.need rs k) (wmin P (way rs k))
noncomputable def srv (rs:List Row):List Nat->(Nat->Int)->(Nat->Int)->(Nat->Int)×(Nat->Int)
 | [],P,T=>(P,T)
 | k::ks,P,T=>srv rs ks (Hl P (way rs k) (take1 rs P k)) (fset T k (take1 rs P k))
noncomputable def shr (rs:List Row):Nat->Int:=(srv rs (ord rs) (gath rs (col Row.water rs)) λ_=>0).2
def pD (P:Nat->Int) (ws:List Nat):List D:=ws.map λi=>D.int (P i)
@[simp] theorem ZSC:(pD P ws).length=ws.length:=by simp [pD]
@[simp] theorem ZQa:bels m (pD P ws)=true:=Gi λ_ _=>rfl
theorem ZES {a b c d e:Option D} {t:Int} {A:DO} {G:DH}:∀(ws:List Nat) (P:Nat->Int) (x:Option D),(∀b∈ws,b < rs.length)->∃x',
  Bp (gV 6) Yp (Ao ws) [a,b,some (.ref (G.length + 1)),c,d,some (.int t),x] (G++ [A,.lst (tab rs.length P)])=.nx [a,b,some (.ref (G.length + 1)),c,d,some (.int t),x'] (G++ [A,.lst (tab rs.length (W4 P t ws))])
 | [],P,x,h=>⟨x,rfl⟩
 | w::ws,P,x,h=>by
  obtain ⟨x',ih⟩:=ZES (a:=a) (b:=b) (c:=c) (d:=d) (e:=e) (t:=t) (A:=A) (G:=G) ws (fset P w (P w - t)) (some (.int w)) λb hb=>h b (zZ _ hb)
  refine ⟨x',?_⟩;have hw:=h w zX;have g0:(G++ [A,DO.lst (tab rs.length P)])[G.length + 1]? =some (.lst (tab rs.length P)):=Zx _ 1;have hse:∀(L:DH) o,(G++L).set (G.length + 1) o=G++L.set 1 o:=λL o=>ZC1 L 1 o
  have hb:Yp [a,b,some (.ref (G.length + 1)),c,d,some (.int t),some (.int w)] (G++ [A,.lst (tab rs.length P)])=.nx [a,b,some (.ref (G.length + 1)),c,d,some (.int t),some (.int w)] (G++ [A,.lst (tab rs.length (fset P w (P w - t)))]):=by unfold Yp;simp [Vy g0 (Gf hw),g0,hse,Jv,hw,Sv]
  show Bp _ _ (.int w::Ao ws) _ _=_;rw [Dp];simp only [Du,R.Dl,qY,hb,Dr];exact ih
theorem ZGm {rs:List Row} (hR:Reach rs) (hl:rs.length<=40) {G:DH}:∀(ks:List Nat) (P T:Nat->Int) (x y z w:Option D),(∀k∈ks,k < rs.length)->∃x' y' z' w',
  Bp (gV 3) V0 (Ao ks) [some (.fl (rs.map Row.enc)),some (.ref G.length),some (.ref (G.length + 1)),x,y,z,w] (G++ [.lst (tab rs.length T),.lst (tab rs.length P)])=
   .nx [some (.fl (rs.map Row.enc)),some (.ref G.length),some (.ref (G.length + 1)),x',y',z',w'] (G++ [.lst (tab rs.length (srv rs ks P T).2),.lst (tab rs.length (srv rs ks P T).1)])
 | [],P,T,x,y,z,w,h=>⟨x,y,z,w,rfl⟩
 | k::ks,P,T,x,y,z,w,h=>by
  have hk:=h k zX;have hwl:∀b∈way rs k,b < rs.length:=λb hb=>(Mt hR hk hb).2
  obtain ⟨w1,hsub⟩:=ZES (rs:=rs) (a:=some (.fl (rs.map Row.enc))) (b:=some (.ref G.length)) (c:=some (.int k)) (d:=some (.fl (Ao (way rs k)))) (e:=none) (t:=take1 rs P k) (A:=.lst (tab rs.length (fset T k (take1 rs P k)))) (G:=G) (way rs k) P w hwl;rw [ZGF (ZKK hR k)] at hsub;obtain ⟨x',y',z',w',ih⟩:=ZGm hR hl (G:=G) ks (Hl P (way rs k) (take1 rs P k)) (fset T k (take1 rs P k)) (some (.int k)) (some (.fl (Ao (way rs k)))) (some (.int (take1 rs P k))) w1 λj hj=>h j (zZ _ hj)
  refine ⟨x',y',z',w',?_⟩;have g0:(G++ [DO.lst (tab rs.length T),DO.lst (tab rs.length P)])[G.length + 1]? =some (.lst (tab rs.length P)):=Zx _ 1;have hcomp:Dy (gV 0) Ck ZDG (Bl 1 [2] [some (.fl (rs.map Row.enc)),some (.ref G.length),some (.ref (G.length + 1)),some (.int k),some (.fl (Ao (way rs k))),z,w]) (Ao (way rs k)) (G++ [DO.lst (tab rs.length T),DO.lst (tab rs.length P)])=.ok (pD P (way rs k)) (G++ [DO.lst (tab rs.length T),DO.lst (tab rs.length P)]):=by
   rw [Qy (F:=λd=>match d with | .int i=>some (.int (P i.toNat)) | _=>none) (λq hq=> ?_)]
   ·congr 1
    unfold Ao;rw [qQ];show (way rs k).filterMap (λ(i:Nat)=>some (D.int (P ((i:Int).toNat))))=_;rw [qj];simp [pD]
   ·obtain ⟨i,hi,rfl⟩:=zG.mp hq;refine ⟨[some (.int i),some (.ref (G.length + 1))],by simp [Bl],.inr ⟨rfl,.int (P i),?_,by simp⟩⟩;unfold ZDG;simp [g0,Gf (hwl i hi)]
  have hwn:(way rs k).length<=1000000:=by have h1:=ZC6 hR rs.length k (by lia);lia
  have hmin:∀G,Qt [.fl (pD P (way rs k))] G=.ok (.int (wmin P (way rs k))) G:=λG=>by rw [Ey hR];exact ZOd (n:=P k) (ns:=(J6 rs (Cg rs k)).map P) (by simp [pD])
  have hfr:freeze (G++ [DO.lst (tab rs.length T),DO.lst (tab rs.length P)]) (.ok (.ref (G.length + 2)) (G++ [DO.lst (tab rs.length T),DO.lst (tab rs.length P),.lst (pD P (way rs k))]))=.ok (.fl (pD P (way rs k))) (G++ [DO.lst (tab rs.length T),DO.lst (tab rs.length P)]):=ZCf ZQa;have hfw:freeze (G++ [DO.lst (tab rs.length T),DO.lst (tab rs.length P)]) (.ok (.ref (G.length + 2)) (G++ [DO.lst (tab rs.length T),DO.lst (tab rs.length P),.lst (Ao (way rs k))]))=.ok (.fl (Ao (way rs k))) (G++ [DO.lst (tab rs.length T),DO.lst (tab rs.length P)]):=ZCf ZCp
  have hb:V0 [some (.fl (rs.map Row.enc)),some (.ref G.length),some (.ref (G.length + 1)),some (.int k),y,z,w] (G++ [.lst (tab rs.length T),.lst (tab rs.length P)])=
    .nx [some (.fl (rs.map Row.enc)),some (.ref G.length),some (.ref (G.length + 1)),some (.int k),some (.fl (Ao (way rs k))),some (.int (take1 rs P k)),w1] (G++ [.lst (tab rs.length (fset T k (take1 rs P k))),.lst (tab rs.length (Hl P (way rs k) (take1 rs P k)))]):=by
   unfold V0;have ht1:min (col Row.need rs k) (wmin P (way rs k))=take1 rs P k:=rfl;simp [ZEx hR hl hk,hfw,U4 hk,hcomp,Av,hwn,hfr,hmin,ht1,Dj,Ep,Jv,hk,Sv,hsub]
  show Bp _ _ (.int k::Ao ks) _ _=_;rw [Dp];simp only [Du,R.Dl,qY,hb,Dr];exact ih
theorem ZG6 (hR:Reach rs) (hl:rs.length<=40) (G:DH):Uu [.fl (rs.map Row.enc)] G=.ok (.ref G.length) (G++ [.lst (tab rs.length (shr rs))]):=by
 have hz:zV rs.length (D.int 0)=tab rs.length λ_=>0:=by unfold tab;refine q8 (by simp) λi h1 h2=>by simp
 have hrep:Jt (.ref G.length) (.int (rs.length:Int)) (G++ [.lst [.int 0]])=.ok (.ref (G.length + 1)) (G++ [.lst [.int 0],.lst (tab rs.length λ_=>0)]):=by rw [ZAV (d:=.int 0) (by rw [Dj];rfl) (by lia),hz];simp
 have ht1:tidy G (.ok (.ref (G.length + 1)) (G++ [.lst [.int 0],.lst (tab rs.length λ_=>0)]))=.ok (.ref G.length) (G++ [.lst (tab rs.length λ_=>0)]):=T9 _ (k:=1) rfl S7;have hp:N7 [.fl (rs.map Row.enc),.ref G.length] (G++ [.lst (tab rs.length λ_=>0)])=.ok (.ref (G.length + 1)) (G++ [.lst (tab rs.length λ_=>0),.lst (tab rs.length (gath rs (col Row.water rs)))]):=by rw [ZAY hR hl (T:=λ_=>0) (ZLl (by rw [Dj];rfl))];simp
 have ht2:tidy (G++ [.lst (tab rs.length λ_=>0)]) (.ok (.ref (G.length + 1)) (G++ [.lst (tab rs.length λ_=>0),.lst (tab rs.length (gath rs (col Row.water rs)))]))=.ok (.ref (G.length + 1)) (G++ [.lst (tab rs.length λ_=>0),.lst (tab rs.length (gath rs (col Row.water rs)))]):=ZQp S7;have hfs:freeze (G++ [.lst (tab rs.length λ_=>0),.lst (tab rs.length (gath rs (col Row.water rs)))]) (.ok (.ref (G.length + 2)) (G++ [.lst (tab rs.length λ_=>0),.lst (tab rs.length (gath rs (col Row.water rs))),.lst (Ao (ord rs))]))=.ok (.fl (Ao (ord rs))) (G++ [.lst (tab rs.length λ_=>0),.lst (tab rs.length (gath rs (col Row.water rs)))]):=ZCf ZCp
 obtain ⟨x',y',z',w',hL⟩:=ZGm hR hl (G:=G) (ord rs) (gath rs (col Row.water rs)) (λ_=>0) none none none none λk hk=>Rz hk
 have hfin:∀A,tidy G (.ok (.ref G.length) (G++ [.lst (tab rs.length (shr rs)),A]))=.ok (.ref G.length) (G++ [.lst (tab rs.length (shr rs))]):=λA=>Fb S7
 have hL':Bp (gV 3) V0 (Ao (ord rs)) [some (.fl (rs.map Row.enc)),some (.ref G.length),some (.ref (G.length + 1)),none,none,none,none] (G++ [.lst (tab rs.length λ_=>0),.lst (tab rs.length (gath rs (col Row.water rs)))])=
   .nx [some (.fl (rs.map Row.enc)),some (.ref G.length),some (.ref (G.length + 1)),x',y',z',w'] (G++ [.lst (tab rs.length (shr rs)),.lst (tab rs.length (srv rs (ord rs) (gath rs (col Row.water rs)) λ_=>0).1)]):=hL
 unfold Uu ZE6;rw [Bk];simp [Av,hrep,ht1,hp,ht2,ZNo hl,hfs,hL',hfin]
def ind (t:Int) (ws:List Nat):Nat->Int:=λi=>if i∈ws then t else 0
theorem ZCs (hR:Reach rs) :∀(m j:Nat) (A:Nat->Int),k < j->gat rs m j (λi=>A i + ind t [k] i)=λi=>gat rs m j A i + ind t [k] i
 | 0,j,A,h=>rfl
 | m + 1,j,A,h=>by
  unfold gat;have e:gstep (λi=>A i + ind t [k] i) j (Cg rs j)=λi=>gstep A j (Cg rs j) i + ind t [k] i:=by
   cases hd:Cg rs j with
   | none=>rfl
   | some d=>
    have:=Ik hR hd;funext i;simp only [gstep,fset,ind,qB];have h1:j≠k:=by lia
    have h2:d≠k:=by lia
    by_cases hi:i=d
    ·subst hi;simp [h1,h2]
    ·simp [hi]
  rw [e,ZCs hR m (j + 1) _ (by lia)]
theorem Yk (hR:Reach rs) :∀(m j k:Nat) (A:Nat->Int),j + m=rs.length->j<=k->k < rs.length->gat rs m j (λi=>A i + ind t [k] i)=λi=>gat rs m j A i + ind t (way rs k) i
 | 0,j,k,A,h,h1,h2=>by lia
 | m + 1,j,k,A,h,h1,h2=>by
  unfold gat;by_cases hjk:j < k
  ·have e:gstep (λi=>A i + ind t [k] i) j (Cg rs j)=λi=>gstep A j (Cg rs j) i + ind t [k] i:=by
    cases hd:Cg rs j with
    | none=>rfl
    | some d=>
     funext i;simp only [gstep,fset,ind,qB];have h3:j≠k:=by lia
     by_cases hi:i=d
     ·subst hi;simp [h3];split <;> lia
     ·simp [hi]
   rw [e,Yk hR m (j + 1) k _ (by lia) (by lia) h2]
  ·have ej:j=k:=by lia
   subst ej;cases hd:Cg rs j with
   | none=>
    have hw:way rs j= [j]:=by rw [Ey hR,hd];rfl
    show gat rs m (j + 1) (λi=>A i + ind t [j] i)=_;rw [ZCs hR m (j + 1) A (by lia),hw]
    rfl
   | some d=>
    have hlt:=Ik hR hd;have hw:way rs j=j::way rs d:=by rw [Ey hR,hd];rfl
    have e:gstep (λi=>A i + ind t [j] i) j (some d)=λi=>(gstep A j (some d) i + ind t [d] i) + ind t [j] i:=by
     funext i;simp only [gstep,fset,ind,qB];have h3:d≠j:=by lia
     by_cases hi:i=d
     ·subst hi;simp [h3];lia
     ·simp [hi]
    rw [e,ZCs hR m (j + 1) _ (by lia),Yk hR m (j + 1) d _ (by lia) (by lia) hlt.2];funext i;have hnj:j ∉ way rs d:=λhm=>by have:=Mt hR hlt.2 hm;lia
    simp only [ind,hw,zK,qB];by_cases hi:i=j
    ·subst hi;simp [hnj]
    ·simp [hi]
theorem ZNr (hR:Reach rs) {W:Nat->Int} (hk:k < rs.length) (h0:T k=0):gath rs (λi=>W i - fset T k t i)=Hl (gath rs λi=>W i - T i) (way rs k) t:=by
 have e:(λi=>W i - fset T k t i)=λi=>(W i - T i) + ind (-t) [k] i:=by
  funext i;simp only [fset,ind,qB];by_cases hi:i=k
  ·subst hi;simp [h0];lia
  ·simp [hi]
 rw [e];show gat rs rs.length 0 _=_;rw [Yk hR rs.length 0 k _ (by lia) (by lia) hk];funext i;simp only [ind,Hl,gath]
 split <;> lia
theorem ZI0:∀(m k:Nat) (F:Nat->Int),(∀i,0<=F i)->∀i,0<=gat rs m k F i
 | 0,k,F,h,i=>h i
 | m + 1,k,F,h,i=>by
  refine ZI0 m (k + 1) _ (λj=> ?_) i;cases Cg rs k with
  | none=>exact h j
  | some d=>
   simp only [gstep,fset];have:=h d;have:=h k;have:=h j
   split <;> lia
structure SI (rs:List Row) (P T:Nat->Int):Prop where
 pg:P=gath rs λi=>col Row.water rs i - T i
 t0:∀i,0<=T i
 tn:∀i,T i<=col Row.need rs i
 p0:∀i,i < rs.length->0<=P i
theorem ZMq (h:∀b∈ws,0<=P b):0<=wmin P ws:=by
 cases ws with
 | nil=>exact qJ _
 | cons k r=>
  obtain ⟨b,hb,e⟩:=ZE3 (P:=P) (ws:=k::r) (by simp);rw [e];exact h b hb
theorem SI.take (hR:Reach rs) (s:SI rs P T) (hk:k < rs.length):0<=take1 rs P k/\take1 rs P k<=col Row.need rs k/\∀b∈way rs k,take1 rs P k<=P b:=by
 have h1:0<=wmin P (way rs k):=ZMq λb hb=>s.p0 b (Mt hR hk hb).2
 have h2:=hR.need k;unfold take1;refine ⟨by lia,by lia,λb hb=> ?_⟩;have:=ZLM (P:=P) hb;lia
theorem SI.step (hR:Reach rs) (s:SI rs P T) (hk:k < rs.length) (h0:T k=0):SI rs (Hl P (way rs k) (take1 rs P k)) (fset T k (take1 rs P k)):=by
 obtain ⟨a,b,c⟩:=s.take hR hk;refine ⟨?_,λi=> ?_,λi=> ?_,λi hi=> ?_⟩
 ·rw [ZNr hR hk h0,<-s.pg]
 ·simp only [fset];split
  ·exact a
  ·exact s.t0 i
 ·simp only [fset];split
  ·rename_i e;rw [e];exact b
  ·exact s.tn i
 ·simp only [Hl];split
  ·rename_i hm;have:=c i hm;lia
  ·exact s.p0 i hi
theorem SI.run (hR:Reach rs):∀(ks:List Nat) (P T:Nat->Int),SI rs P T->ks.Nodup->(∀k∈ks,k < rs.length/\T k=0)->SI rs (srv rs ks P T).1 (srv rs ks P T).2
 | [],P,T,s,_,_=>s
 | k::ks,P,T,s,nd,h=>by
  obtain ⟨n1,n2⟩:=qK.mp nd;obtain ⟨hk,h0⟩:=h k zX;refine SI.run hR ks _ _ (s.step hR hk h0) n2 λj hj=> ?_
  obtain ⟨hj1,hj2⟩:=h j (zZ _ hj);have:j≠k:=λe=>n1 (e ▸ hj)
  exact ⟨hj1,by simp [fset,this,hj2]⟩
theorem ZBN (rs:List Row):(ord rs).Nodup:=(Ow rs).nodup_iff.mpr List.nodup_range
theorem SI.first (hR:Reach rs):SI rs (gath rs (col Row.water rs)) λ_=>0:=
 ⟨by simp,λ_=>qJ _,hR.need,λi _=>ZI0 _ _ _ hR.water i⟩
theorem Kw (hR:Reach rs):SI rs (srv rs (ord rs) (gath rs (col Row.water rs)) λ_=>0).1 (shr rs):=
 SI.run hR (ord rs) _ _ (SI.first hR) (ZBN rs) λk hk=>⟨Rz hk,rfl⟩
theorem Vv:∀(a b:List Nat) (P T:Nat->Int),srv rs (a++b) P T=srv rs b (srv rs a P T).1 (srv rs a P T).2
 | [],b,P,T=>rfl
 | k::a,b,P,T=>Vv a b _ _
theorem Nz:∀(ks:List Nat) (P T:Nat->Int),j ∉ ks->(srv rs ks P T).2 j=T j
 | [],P,T,h=>rfl
 | k::ks,P,T,h=>by simp only [zK,not_or] at h;show (srv rs ks _ _).2 j=_;rw [Nz ks _ _ h.2];simp [fset,h.1]
theorem ZCL:ltK rs i i=false:=(O8 rs).refl i
theorem ZJZ (hR:Reach rs) (hk:k < rs.length):∃(pre post:List Nat) (P T:Nat->Int),ord rs=pre++k::post/\(P,T)=srv rs pre (gath rs (col Row.water rs)) (λ_=>0)/\SI rs P T/\(T=λj=>if ltK rs j k then shr rs j else 0)/\shr rs k=take1 rs P k/\(∀j,j∈pre↔(j < rs.length/\ltK rs j k=true))/\(∀j∈post,ltK rs k j=true):=by
 have hm:k∈ord rs:=(Ow rs).mem_iff.mpr (zS.mpr hk);obtain ⟨pre,post,e⟩:=List.append_of_mem hm;have nd:=ZBN rs;have so:=ZQS rs;rw [e] at nd so;obtain ⟨so1,so2,so3⟩:=List.pairwise_append.mp so;obtain ⟨nd1,nd2,nd3⟩:=List.nodup_append.mp nd;obtain ⟨nd4,nd5⟩:=qK.mp nd2;have hpl:∀j∈pre,j < rs.length:=λj hj=>Rz (by rw [e];exact j8 _ hj)
 have hpk:∀j∈post,ltK rs k j=true:=λj hj=>(List.pairwise_cons.mp so2).1 j hj
 have hpre:∀j,j∈pre↔(j < rs.length/\ltK rs j k=true):=λj=>by
  constructor
  ·exact λhj=>⟨hpl j hj,so3 j hj k zX⟩
  ·rintro ⟨h1,h2⟩;have hj:j∈ord rs:=(Ow rs).mem_iff.mpr (zS.mpr h1);rw [e] at hj;rcases qG.mp hj with hj | hj
   ·exact hj
   ·rcases zK.mp hj with rfl | hj
    ·rw [ZCL] at h2;cases h2
    ·have:=(O8 rs).asy _ _ (hpk j hj);rw [h2] at this;cases this
 refine ⟨pre,post,(srv rs pre (gath rs (col Row.water rs)) λ_=>0).1,(srv rs pre (gath rs (col Row.water rs)) λ_=>0).2,e,rfl,?_,?_,?_,hpre,hpk⟩
 ·exact SI.run hR pre _ _ (SI.first hR) nd1 λj hj=>⟨hpl j hj,rfl⟩
 ·funext j;by_cases hj:j∈pre
  ·have h2:j ∉ k::post:=λhm=>nd3 j hj j hm rfl
   rw [if_pos ((hpre j).mp hj).2];unfold shr;rw [e,Vv,Nz (k::post) _ _ h2]
  ·rw [Nz pre _ _ hj];by_cases hlt:ltK rs j k=true
   ·rw [if_pos hlt];have hjn:¬j < rs.length:=λh=>hj ((hpre j).mpr ⟨h,hlt⟩)
    unfold shr;rw [Nz (ord rs) _ _ (λhm=>hjn (Rz hm))]
   ·rw [if_neg hlt]
 ·unfold shr;rw [e,Vv];show (srv rs post _ _).2 k=_;rw [Nz post _ _ nd4];simp [fset]
theorem ZIN (hR:Reach rs):∀(m j:Nat) {c b:Nat},rs.length<=m + j->c∈way rs j->b∈way rs c->b∈way rs j
 | 0,j,c,b,h,hc,hb=>by
  rw [Ey hR,Zh (by lia)] at hc;have e:c=j:=by simpa [J6] using hc
  rw [<-e];exact hb
 | m + 1,j,c,b,h,hc,hb=>by
  rw [Ey hR] at hc;rcases zK.mp hc with rfl | hc
  ·exact hb
  ·cases hd:Cg rs j with
   | none=>rw [hd] at hc;cases hc
   | some d=>
    rw [hd] at hc;have:=Ik hR hd;rw [Ey hR,hd];exact zZ _ (ZIN hR m d (by lia) hc hb)
theorem ZIa (hR:Reach rs) {p:Nat->Bool}:∀(m k:Nat) {c b:Nat},rs.length<=m + k->(way rs k).find? p=some c->b∈way rs k->p b=true->b∈way rs c
 | 0,k,c,b,h,hf,hb,hp=>by
  rw [Ey hR,Zh (by lia)] at hf hb;have e:b=k:=by simpa [J6] using hb
  subst e;simp [J6,hp] at hf;rw [<-hf];exact ZGa hR _
 | m + 1,k,c,b,h,hf,hb,hp=>by
  cases hk:p k with
  | true=>
   rw [Ey hR,List.find?_cons_of_pos hk] at hf;cases hf;exact hb
  | false=>
   rw [Ey hR,List.find?_cons_of_neg (by simp [hk])] at hf;rw [Ey hR] at hb;rcases zK.mp hb with rfl | hb
   ·rw [hk] at hp;cases hp
   ·cases hd:Cg rs k with
    | none=>rw [hd] at hb;cases hb
    | some d=>
     rw [hd] at hf hb;have:=Ik hR hd;exact ZIa hR m d (by lia) hf hb hp
theorem ZHF (hR:Reach rs) {c:Nat}:∀(m k:Nat) (F:Nat->Int),k + m=rs.length->(∀j,j < rs.length->c∈way rs j->(k<=j∨j=c)->F j=0)->c < rs.length->gat rs m k F c=0
 | 0,k,F,h,hz,hc=>hz c hc (ZGa hR c) (.inr rfl)
 | m + 1,k,F,h,hz,hc=>by
  refine ZHF hR m (k + 1) _ (by lia) (λj hj hcj hkj=> ?_) hc;have hj0:F j=0:=hz j hj hcj (by lia);cases hd:Cg rs k with
  | none=>exact hj0
  | some d=>
   simp only [gstep,fset];split
   ·rename_i e;subst e;have h1:c∈way rs k:=by rw [Ey hR,hd];exact zZ _ hcj
    rw [hz k (by lia) h1 (.inl (zW _)),hj0]
    rfl
   ·exact hj0
theorem ZFz (hR:Reach rs) (hb:b < rs.length):∀(ks:List Nat) (P T:Nat->Int),SI rs P T->ks.Nodup->(∀k∈ks,k < rs.length/\T k=0)->P b=0->(srv rs ks P T).1 b=0/\∀j∈ks,b∈way rs j->(srv rs ks P T).2 j=0
 | [],P,T,s,nd,h,h0=>⟨h0,λj hj=>nomatch hj⟩
 | k::ks,P,T,s,nd,h,h0=>by
  obtain ⟨n1,n2⟩:=qK.mp nd;obtain ⟨hk,hk0⟩:=h k zX;obtain ⟨t0,_,t2⟩:=s.take hR hk;have e0:b∈way rs k->take1 rs P k=0:=λhm=>by have:=t2 b hm;lia
  have h0':Hl P (way rs k) (take1 rs P k) b=0:=by
   simp only [Hl];split
   ·rename_i hm;rw [e0 hm,h0];rfl
   ·exact h0
  obtain ⟨a1,a2⟩:=ZFz hR hb ks _ _ (s.step hR hk hk0) n2 (λj hj=>by
   obtain ⟨hj1,hj2⟩:=h j (zZ _ hj);have:j≠k:=λe=>n1 (e ▸ hj)
   exact ⟨hj1,by simp [fset,this,hj2]⟩) h0'
  refine ⟨a1,λj hj hm=> ?_⟩;rcases zK.mp hj with rfl | hj
  ·show (srv rs ks _ _).2 j=0;rw [Nz ks _ _ n1];simp [fset,e0 hm]
  ·exact a2 j hj hm
def pasf (rs:List Row):Nat->Int:=gath rs λi=>col Row.water rs i - shr rs i
def bhd (rs:List Row) (k:Nat):Nat->Int:=λj=>if ltK rs k j then shr rs j else 0
theorem ZF5 (hR:Reach rs) (hk:k < rs.length) (hlt:shr rs k < col Row.need rs k):∃c,(way rs k).find? (λb=>decide (pasf rs b=0))=some c/\c < rs.length/\gath rs (bhd rs k) c=0:=by
 obtain ⟨pre,post,P,T,e,ePT,s,hT,hs,hpre,hpost⟩:=ZJZ hR hk;have hTk:T k=0:=by rw [hT];simp [ZCL]
 have nd:=ZBN rs;rw [e] at nd;obtain ⟨nd1,nd2,nd3⟩:=List.nodup_append.mp nd;obtain ⟨nd4,nd5⟩:=qK.mp nd2;obtain ⟨b,hb,eb⟩:=ZE3 (P:=P) (ws:=way rs k) (by rw [Ey hR];simp);have hbn:=(Mt hR hk hb).2;have ht:take1 rs P k=P b:=by rw [hs] at hlt;unfold take1 at hlt ⊢;lia
 have hfin:srv rs (ord rs) (gath rs (col Row.water rs)) (λ_=>0)=srv rs post (Hl P (way rs k) (take1 rs P k)) (fset T k (take1 rs P k)):=by
  rw [e,Vv,<-ePT]
  rfl
 have hpl:∀j∈post,j < rs.length:=λj hj=>Rz (by rw [e];exact zR _ (zZ _ hj))
 obtain ⟨d1,d2⟩:=ZFz hR hbn post _ _ (s.step hR hk hTk) nd5 (λj hj=>by
  refine ⟨hpl j hj,?_⟩;have h1:j≠k:=λz=>nd4 (z ▸ hj)
  have h2:ltK rs j k=false:=(O8 rs).asy _ _ (hpost j hj);simp [fset,h1,hT,h2]) (by
  simp only [Hl,hb,if_true,ht];lia)
 have sf:=Kw hR;have hpb:pasf rs b=0:=by have:pasf rs=(srv rs (ord rs) (gath rs (col Row.water rs)) λ_=>0).1:=sf.pg.symm;rw [this,hfin];exact d1
 have hsh:∀j∈post,b∈way rs j->shr rs j=0:=λj hj hm=>by have:=d2 j hj hm;unfold shr;rw [hfin];exact this
 have hex:((way rs k).find? λb=>decide (pasf rs b=0)).isSome=true:=by rw [List.find?_isSome];exact ⟨b,hb,by simp [hpb]⟩
 obtain ⟨c,hc⟩:=qO.mp hex;have hcw:=jq hc;have hcn:=(Mt hR hk hcw).2;refine ⟨c,hc,hcn,?_⟩;have hbc:b∈way rs c:=ZIa hR rs.length k (by lia) hc hb (by simp [hpb]);refine ZHF hR rs.length 0 _ (by lia) (λj hj hcj _=> ?_) hcn;unfold bhd;split
 ·rename_i hl;have hjp:j∈post:=by
   have hm:j∈ord rs:=(Ow rs).mem_iff.mpr (zS.mpr hj);rw [e] at hm;rcases qG.mp hm with hm | hm
   ·have:=((hpre j).mp hm).2;rw [(O8 rs).asy _ _ hl] at this;cases this
   ·rcases zK.mp hm with rfl | hm
    ·rw [ZCL] at hl;cases hl
    ·exact hm
  exact hsh j hjp (ZIN hR rs.length j (by lia) hcj hbc)
 ·rfl
noncomputable def Hx (rs:List Row) (k:Nat):Option Nat:=if shr rs k=col Row.need rs k then none else (way rs k).find? λb=>decide (pasf rs b=0)
def Ar (n:Nat) (f:Nat->Option Nat):List D:=(zj n).map λk=>dnD (f k)
@[simp] theorem ZSr {n:Nat} {f:Nat->Option Nat}:(Ar n f).length=n:=by simp [Ar]
@[simp] theorem Rc {n:Nat} {f:Nat->Option Nat}:bels m (Ar n f)=true:=Gi λ_ _=>ZNX
theorem ZPM {n:Nat} {f:Nat->Option Nat} (h:i < n):atI (Ar n f) (i:Int)=some (dnD (f i)):=Eo rfl (by unfold Ar;rw [zw,zO h];rfl)
theorem ZM0:okD (m + 1) (dnD o)=true:=by cases o <;> rfl
theorem ZKf {n:Nat} {f:Nat->Option Nat}:okD 30 (.fl (Ar n f))=true:=ZKz (n:=29) λd hd=>by obtain ⟨i,_,rfl⟩:=zG.mp hd;exact ZM0 (m:=28)
theorem ZRR (hR:Reach rs) (hl:rs.length<=40) (hk:k < rs.length) (G:DH):Wi [.fl (rs.map Row.enc),.int k,.fl (tab rs.length (shr rs)),.fl (tab rs.length (pasf rs))] G=.ok (dnD (Hx rs k)) G:=by
 unfold Wi ZJY;rw [Bk];by_cases he:shr rs k=col Row.need rs k
 ·have e:Hx rs k=none:=if_pos he;simp [Gf hk,U4 hk,he,e,Bh,ZM9]
 ·have hlt:shr rs k < col Row.need rs k:=by have:=(Kw hR).tn k;lia
  obtain ⟨c,hc,hcn,_⟩:=ZF5 hR hk hlt;have e:Hx rs k=some c:=by unfold Hx;rw [if_neg he];exact hc
  have hwl:∀b∈way rs k,b < rs.length:=λb hb=>(Mt hR hk hb).2
  have hcomp:Dy (gV 0) Xw ZAl (Bl 1 [3] [some (.fl (rs.map Row.enc)),some (.int k),some (.fl (tab rs.length (shr rs))),some (.fl (tab rs.length (pasf rs)))]) (Ao (way rs k)) G=.ok (Ao ((way rs k).filter λb=>decide (pasf rs b=0))) G:=by
   rw [Qy (F:=λd=>match d with | .int i=>if pasf rs i.toNat=0 then some (.int i) else none | _=>none) (λq hq=> ?_)]
   ·congr 1
    unfold Ao;rw [qQ,<-List.filterMap_eq_filter,List.map_filterMap]
    congr 1
    funext i;simp only [Function.comp,jG,Option.guard]
    by_cases h:pasf rs i=0 <;> simp [h]
   ·obtain ⟨i,hi,rfl⟩:=zG.mp hq;refine ⟨[some (.int i),some (.fl (tab rs.length (pasf rs)))],by simp [Bl],?_⟩;by_cases h:pasf rs i=0
    ·refine .inr ⟨by unfold Xw;simp [Gf (hwl i hi),h],.int i,by unfold ZAl;simp,by simp [h]⟩
    ·exact .inl ⟨by unfold Xw;simp [Gf (hwl i hi),h],by simp [h]⟩
  have hfl:∃tl,(way rs k).filter (λb=>decide (pasf rs b=0))=c::tl:=by
   have h1:((way rs k).filter λb=>decide (pasf rs b=0)).head?=some c:=by rw [List.head?_filter];exact hc
   cases hf:(way rs k).filter λb=>decide (pasf rs b=0) with
   | nil=>rw [hf] at h1;cases h1
   | cons a tl=>rw [hf] at h1;cases h1;exact ⟨tl,rfl⟩
  obtain ⟨tl,hfl⟩:=hfl;rw [hfl] at hcomp;have hlen:(Ao (c::tl)).length<=1000000:=by
   have h1:=ZC6 hR rs.length k (by lia);have h2:(c::tl).length<=(way rs k).length:=by rw [<-hfl];exact List.length_filter_le _ _
   rw [ZEs];lia
  have ha0:atI (Ao (c::tl)) 0=some (.int c):=Eo (k:=0) rfl rfl;have hlen2:tl.length<=999999:=by rw [ZEs,qV] at hlen;lia
  simp [Gf hk,U4 hk,he,ZEx hR hl hk,Fj,hcomp,hlen2,ha0,e,Bh]
theorem ZKc (hR:Reach rs) (hl:rs.length<=40) (G:DH):Ue [.fl (rs.map Row.enc)] G=.ok (.ref G.length) (G++ [.lst (Ar rs.length (Hx rs))]):=by
 have hp:∀G,N7 [.fl (rs.map Row.enc),.fl (tab rs.length (shr rs))] G=.ok (.ref G.length) (G++ [.lst (tab rs.length (pasf rs))]):=λG=>ZAY hR hl (T:=shr rs) ZC4
 have hcomp:Dy (gV 0) Ck ZD7 (Bl 1 [0,1,2] [some (.fl (rs.map Row.enc)),some (.fl (tab rs.length (shr rs))),some (.fl (tab rs.length (pasf rs)))]) (Cm 0 rs.length) G=.ok (Ar rs.length (Hx rs)) G:=by
  rw [Qy (F:=λd=>match d with | .int i=>some (dnD (Hx rs i.toNat)) | _=>none) (λq hq=> ?_)]
  ·congr 1
   unfold Cm;rw [qQ];show (zj rs.length).filterMap (λ(i:Nat)=>some (dnD (Hx rs ((0 + (i:Int)).toNat))))=_;rw [qj];simp [Ar]
  ·obtain ⟨i,hi,rfl⟩:=zG.mp hq;have hin:i < rs.length:=zS.mp hi;refine ⟨[some (.int i),some (.fl (rs.map Row.enc)),some (.fl (tab rs.length (shr rs))),some (.fl (tab rs.length (pasf rs)))],by simp [Bl],.inr ⟨rfl,dnD (Hx rs i),?_,by simp⟩⟩;unfold ZD7;simp [ZRR hR hl hin,Mr]
 have hr:inR (rs.length:Int):=Gg (by lia) (by lia);have hl3:rs.length<=1000000:=by lia
 unfold Ue ZEn;rw [Bk];simp [ZG6 hR hl,Fj,hp,hr,hcomp,hl3,Fb]
theorem ZHL (hj:¬j < rs.length):shr rs j=0:=by unfold shr;rw [Nz (ord rs) _ _ λhm=>hj (Rz hm)]
theorem rp:¬(("pump":Str)="river"):=by decide
theorem pr:¬(("river":Str)="pump"):=by decide
structure Stp where
 h:Int
 m:Int
 r:Bool
variable {st:List Stp}
def wy (r:Bool):Str:=if r then "river" else "pump"
def Stp.enc (s:Stp):D:=.tup [.int s.h,.int s.m,.str (wy s.r)]
@[simp] theorem ZSS {n:Nat} :bels n (st.map Stp.enc)=true:=Gi λs _=>by simp [Stp.enc]
@[simp] theorem ZSi {r:Bool}:(wy r="river")=(r=true):=by
 cases r
 ·exact propext ⟨λh=>absurd h rp,λh=>by cases h⟩
 ·exact propext ⟨λh=>rfl,λ_=>rfl⟩
@[simp] theorem ZSH {r:Bool}:(wy r="pump")=(r=false):=by
 cases r
 ·exact propext ⟨λh=>rfl,λ_=>rfl⟩
 ·exact propext ⟨λh=>absurd h pr,λh=>by cases h⟩
abbrev Ssn:=Int×List Stp
def Dk (s:Ssn):D:=.tup [.int s.1,.tup (s.2.map Stp.enc)]
@[simp] theorem ZSP {n:Nat} {ss:List Ssn}:bels n (ss.map Dk)=true:=Gi λs _=>by simp [Dk]
noncomputable def held (t:Int):List Ssn->List Stp->List Stp
 | [],h=>h
 | s::r,h=>held t r (if s.1<=t then s.2 else h)
theorem ZH4 {c:D} {t:Int} {G:DH}:∀{ss:List Ssn} {h:List Stp} {a b:Option D},∃a' b',Bp (Bx 2 (Aq (gV 3) (Aq (gV 4) Ce))) X4 (ss.map Dk) [some c,some (.int t),some (.tup (h.map Stp.enc)),a,b] G=
  .nx [some c,some (.int t),some (.tup ((held t ss h).map Stp.enc)),a',b'] G
 | [],h,a,b=>⟨a,b,by rw [j7,Ea];rfl⟩
 | s::r,h,a,b=>by
  obtain ⟨a',b',ih⟩:=ZH4 (c:=c) (t:=t) (G:=G) (ss:=r) (h:=if s.1<=t then s.2 else h) (a:=some (.int s.1)) (b:=some (.tup (s.2.map Stp.enc)));refine ⟨a',b',?_⟩;have hb:X4 [some c,some (.int t),some (.tup (h.map Stp.enc)),some (.int s.1),some (.tup (s.2.map Stp.enc))] G=.nx [some c,some (.int t),some (.tup ((if s.1<=t then s.2 else h).map Stp.enc)),some (.int s.1),some (.tup (s.2.map Stp.enc))] G:=by
   unfold X4
   by_cases h1:s.1<=t <;> simp [h1]
  rw [zA,Dp];simp only [Dk,Ys,Xk,Yx,Du,R.Mi,R.Dl,qY,hb,Dr,qV,jE,Nat.reduceAdd,if_true];exact ih
theorem c_at {ss:List Ssn} :Wc [.tup (ss.map Dk),.int t] G=.ok (.tup ((held t ss []).map Stp.enc)) G:=by obtain ⟨a,b,h⟩:=ZH4 (c:=.tup (ss.map Dk)) (t:=t) (G:=G) (ss:=ss) (h:= []) (a:=none) (b:=none);unfold Wc ZGD;rw [Bk];simp at h;simp [h,Bh]
def cub (w:Int) (s:Stp):Int:=max 0 (min s.m (w - s.h))
noncomputable def rv (w:Int):List Stp->Int
 | []=>0
 | s::r=>(if s.r then cub w s else 0) + rv w r
noncomputable def pm (w:Int):List Stp->Int
 | []=>0
 | s::r=>(if s.r then 0 else cub w s) + pm w r
theorem ZEh {c:D} {w:Int} {G:DH}:∀{st:List Stp} {a b:Int} {e f g h:Option D},∃e' f' g' h',Bp (Bx 3 (Aq (gV 4) (Aq (gV 5) (Aq (gV 6) Ce)))) Xi (st.map Stp.enc) [some c,some (.int w),some (.int a),some (.int b),e,f,g,h] G=
  .nx [some c,some (.int w),some (.int (a + rv w st)),some (.int (b + pm w st)),e',f',g',h'] G
 | [],a,b,e,f,g,h=>⟨e,f,g,h,by simp [Ea,rv,pm]⟩
 | s::r,a,b,e,f,g,h=>by
  obtain ⟨e',f',g',h',ih⟩:=ZEh (c:=c) (w:=w) (G:=G) (st:=r) (a:=a + (if s.r then cub w s else 0)) (b:=b + (if s.r then 0 else cub w s)) (e:=some (.int s.h)) (f:=some (.int s.m)) (g:=some (.str (wy s.r))) (h:=some (.int (cub w s)));refine ⟨e',f',g',h',?_⟩;have hb:Xi [some c,some (.int w),some (.int a),some (.int b),some (.int s.h),some (.int s.m),some (.str (wy s.r)),h] G=.nx [some c,some (.int w),some (.int (a + (if s.r then cub w s else 0))),some (.int (b + (if s.r then 0 else cub w s))),some (.int s.h),some (.int s.m),some (.str (wy s.r)),some (.int (cub w s))] G:=by
   unfold Xi cub
   cases s.r <;> simp
  rw [zA,Dp];simp [Stp.enc,hb];rw [ih];simp [rv,pm,Int.add_assoc]
theorem ZIq {w:Int} :Wv [.tup (st.map Stp.enc),.int w] G=.ok (.tup [.int (rv w st),.int (pm w st),.int (w - rv w st - pm w st)]) G:=by obtain ⟨e,f,g,h,hl⟩:=ZEh (c:=.tup (st.map Stp.enc)) (w:=w) (G:=G) (st:=st) (a:=0) (b:=0) (e:=none) (f:=none) (g:=none) (h:=none);unfold Wv ZFF;rw [Bk];simp at hl;simp [hl,Bh]
inductive Kd where
 | basin (brim:Int) (rule:List Ssn) (pump:Option (Nat×Nat×Int))
 | town (need rank:Int)
 | mill (most:Int)
structure Pl where
 nm:Str
 dn:Option Nat
 dl:Nat
 kd:Kd
def ZCu:Pl:=⟨"",none,0,.mill 0⟩
structure Hs where
 yr:Int
 ps:List Pl
variable {h:Hs}
noncomputable def Kd.txt:Kd->Str
 | .basin ..=>"basin"
 | .town ..=>"town"
 | .mill ..=>"mill"
def Kd.isB:Kd->Bool
 | .basin ..=>true
 | _=>false
def Kd.isT:Kd->Bool
 | .town ..=>true
 | _=>false
def Hs.pl (h:Hs) (k:Nat):Pl:=h.ps.getD k ZCu
def Hs.n (h:Hs):Nat:=h.ps.length
def Hs.dnT (h:Hs):Option Nat->Str
 | none=>"sea"
 | some d=>(h.pl d).nm
noncomputable def Hs.O9 (h:Hs):Option (Nat×Nat×Int)->D
 | none=>.non
 | some (to,dl,m)=>.tup [.str (h.pl to).nm,.int dl,.int m]
noncomputable def Hs.encP (h:Hs) (p:Pl):D:=match p.kd with
 | .basin b r q=>.tup [.str "basin",.str p.nm,.str (h.dnT p.dn),.int p.dl,.int b,.tup (r.map Dk),h.O9 q]
 | .town a b=>.tup [.str "town",.str p.nm,.str (h.dnT p.dn),.int p.dl,.int a,.int b]
 | .mill a=>.tup [.str "mill",.str p.nm,.str (h.dnT p.dn),.int p.dl,.int a]
def Hs.Cw (h:Hs):List D:=h.ps.map h.encP
def Hs.enc (h:Hs):D:=.tup [.int h.yr,.tup h.Cw]
noncomputable def Good:Int->List Stp->Prop
 | _,[]=>True
 | t,s::r=>t<=s.h/\1<=s.m/\Good (s.h + s.m) r
structure GoodH (h:Hs):Prop where
 yr:0 < h.yr
 len:h.n<=12
 inj:∀i j,i < h.n->j < h.n->(h.pl i).nm=(h.pl j).nm->i=j
 sea:∀i,i < h.n->(h.pl i).nm≠"sea"
 dn:∀k d,k < h.n->(h.pl k).dn=some d->k < d/\d < h.n
 dl:∀k,k < h.n->(h.pl k).dl<=5
 pump:∀k b r to dl m,k < h.n->(h.pl k).kd=.basin b r (some (to,dl,m))->to < h.n/\1<=dl/\dl<=5
 brim:∀k b r q,k < h.n->(h.pl k).kd=.basin b r q->0<=b/\∀s∈r,Good 0 s.2
 town:∀k a b,k < h.n->(h.pl k).kd=.town a b->0<=a/\0<=b
theorem Hs.Lr:h.Cw.length=h.n:=by simp [Hs.Cw,Hs.n]
theorem Hs.ZE0 (hk:k < h.n):h.Cw[k]? =some (h.encP (h.pl k)):=by unfold Hs.Cw Hs.pl;rw [zw,zQ hk];simp [zy,zQ hk]
theorem Hs.Dv (hk:k < h.n):atI h.Cw (k:Int)=some (h.encP (h.pl k)):=Eo rfl (Hs.ZE0 hk)
theorem Hs.ZKu {n:Nat} :bel n (h.O9 q)=true:=by
 cases q with
 | none=>rfl
 | some x=>obtain ⟨a,b,c⟩:=x;simp [Hs.O9]
@[simp] theorem Hs.ZRI {n:Nat} {p:Pl}:bel n (h.encP p)=true:=by
 unfold Hs.encP
 cases p.kd <;> simp [Hs.ZKu]
@[simp] theorem Hs.ZSI {n:Nat}:bels n h.Cw=true:=Gi λ_ _=>Hs.ZRI
section
variable {h:Hs} {p:Pl} {G:DH}
@[simp] theorem encP0:Aj (h.encP p) (.int 0) G=.ok (.str p.kd.txt) G:=by
 unfold Hs.encP
 cases p.kd <;> simp [Kd.txt]
@[simp] theorem encP1:Aj (h.encP p) (.int 1) G=.ok (.str p.nm) G:=by
 unfold Hs.encP
 cases p.kd <;> simp
@[simp] theorem encP2:Aj (h.encP p) (.int 2) G=.ok (.str (h.dnT p.dn)) G:=by
 unfold Hs.encP
 cases p.kd <;> simp
@[simp] theorem encP3:Aj (h.encP p) (.int 3) G=.ok (.int p.dl) G:=by
 unfold Hs.encP
 cases p.kd <;> simp
theorem Cv:Aj h.enc (.int 1) G=.ok (.tup h.Cw) G:=by unfold Hs.enc;simp
theorem ZM1:Aj h.enc (.int 0) G=.ok (.int h.yr) G:=by unfold Hs.enc;simp
theorem Hy {k:Kd}:(k.txt="basin")=(k.isB=true):=by cases k <;> simp [Kd.txt,Kd.isB] <;> decide
theorem Jd {k:Kd}:(k.txt="town")=(k.isT=true):=by cases k <;> simp [Kd.txt,Kd.isT] <;> decide
end
theorem ZGd (g:GoodH h) (hd:d < h.n) :∀(m k:Nat) (a b:Option D),k + m=d->
  Bp (Bx 2 (Aq (gV 2) (Aq (gV 3) Ce))) Qi ((Eg h.Cw).drop k) [some h.enc,some (.str (h.pl d).nm),a,b] G=.rt (.int d) G
 | m,k,a,b,e=>by
  have hk:k < h.n:=by lia
  have e0:(Eg h.Cw).drop k=.tup [.int k,h.encP (h.pl k)]::(Eg h.Cw).drop (k + 1):=by rw [zL (by rw [Ly,Hs.Lr];exact hk)];have:=Hs.ZE0 hk;rw [zQ (by rw [Hs.Lr];exact hk)] at this;have e2:=Option.some.inj this;simp [Eg,e2]
  rw [e0,Dp];cases m with
  | zero=>
   have e1:k=d:=by lia
   subst e1;have hb:Qi [some h.enc,some (.str (h.pl k).nm),some (.int k),some (h.encP (h.pl k))] G=.rt (.int k) G:=by unfold Qi;simp
   simp [hb]
  | succ m=>
   have hne:(h.pl k).nm≠(h.pl d).nm:=λz=>by have:=g.inj k d hk hd z;lia
   have hb:Qi [some h.enc,some (.str (h.pl d).nm),some (.int k),some (h.encP (h.pl k))] G=.nx [some h.enc,some (.str (h.pl d).nm),some (.int k),some (h.encP (h.pl k))] G:=by unfold Qi;simp [hne]
   simp [hb];exact ZGd g hd m (k + 1) _ _ (by lia)
theorem ZEB (g:GoodH h) (hd:d < h.n) (G:DH):T8 [h.enc,.str (h.pl d).nm] G=.ok (.int d) G:=by have hL:=ZGd g hd (G:=G) d 0 none none (by lia);rw [qN] at hL;unfold T8 ZH6;rw [Bk];simp [Cv,Jf,Km,lenOf,hL,Bh]
def Hs.dn (h:Hs) (k:Nat):Option Nat:=(h.pl k).dn
theorem O7 (g:GoodH h) (hk:k < h.n) (G:DH):V9 [h.enc,.int k] G=.ok (dnD (h.dn k)) G:=by
 unfold V9 ZFg;rw [Bk];cases hd:h.dn k with
 | none=>
  have e:(h.pl k).dn=none:=hd;simp [Cv,Hs.Dv hk,e,Hs.dnT,dnD,Bh]
 | some d=>
  have e:(h.pl k).dn=some d:=hd;have hl:=g.dn k d hk e;simp [Cv,Hs.Dv hk,e,Hs.dnT,g.sea d hl.2,ZEB g hl.2,dnD,Bh]
noncomputable def Hs.dir (h:Hs) (k:Nat):Option Nat:=match h.dn k with
 | none=>none
 | some d=>if 0 < (h.pl k).dl∨(h.pl k).kd.isB=true∨(h.pl d).kd.isB=true then none else some d
theorem Rb (g:GoodH h) (hk:k < h.n) (G:DH):Uv [h.enc,.int k] G=.ok (dnD (h.dir k)) G:=by
 unfold Uv ZFh;rw [Bk];cases hd:h.dn k with
 | none=>simp [Cv,O7 g hk,hd,Hs.dir,dnD,Bh]
 | some d=>
  have hl:=g.dn k d hk hd;by_cases h1:0 < (h.pl k).dl
  ·simp [Cv,O7 g hk,hd,Hs.dir,dnD,Bh,Hs.Dv hk,h1]
  ·by_cases h2:(h.pl k).kd.isB=true
   ·simp [Cv,O7 g hk,hd,Hs.dir,dnD,Bh,Hs.Dv hk,h1,Hy,h2]
   ·by_cases h3:(h.pl d).kd.isB=true
    ·simp [Cv,O7 g hk,hd,Hs.dir,dnD,Bh,Hs.Dv hk,Hs.Dv hl.2,h1,Hy,h2,h3]
    ·simp [Cv,O7 g hk,hd,Hs.dir,dnD,Bh,Hs.Dv hk,Hs.Dv hl.2,h1,Hy,h2,h3]
theorem ZKl (g:GoodH h) (hk:k < h.n) (e:h.dir k=some d):k < d/\d < h.n:=by
 unfold Hs.dir at e;cases hd:h.dn k with
 | none=>rw [hd] at e;cases e
 | some d'=>
  rw [hd] at e;simp only at e;split at e
  ·cases e
  ·cases e;exact g.dn k d hk hd
theorem ZQ4 (hk:¬k < h.n):h.pl k=ZCu:=by
 unfold Hs.pl;rw [zy,z5 (by unfold Hs.n at hk;lia)]
 rfl
theorem Pn (hk:¬k < h.n):h.dir k=none:=by
 have e:h.dn k=none:=by unfold Hs.dn;rw [ZQ4 hk];rfl
 unfold Hs.dir;rw [e]
theorem Hj (g:GoodH h) (e:h.dir k=some d):k < d/\d < h.n/\k < h.n:=by
 by_cases hk:k < h.n
 ·have:=ZKl g hk e;lia
 ·rw [Pn hk] at e;cases e
noncomputable def Hs.Jz (h:Hs):Nat->Nat->Nat
 | 0,k=>k
 | m + 1,k=>match h.dir k with
  | none=>k
  | some d=>h.Jz m d
def Hs.last (h:Hs) (k:Nat):Nat:=h.Jz h.n k
theorem ZCt (g:GoodH h):∀(m m' k:Nat),h.n<=m + k->h.n<=m' + k->h.Jz m k=h.Jz m' k
 | 0,m',k,e,e'=>by
  have hn:h.dir k=none:=Pn (by lia);cases m' with
  | zero=>rfl
  | succ m'=>simp [Hs.Jz,hn]
 | m + 1,0,k,e,e'=>by have hn:h.dir k=none:=Pn (by lia);simp [Hs.Jz,hn]
 | m + 1,m' + 1,k,e,e'=>by
  cases hd:h.dir k with
  | none=>simp [Hs.Jz,hd]
  | some d=>
   have:=Hj g hd;simp [Hs.Jz,hd,ZCt g m m' d (by lia) (by lia)]
theorem Ib (g:GoodH h) (e:h.dir k=none):h.last k=k:=by unfold Hs.last;rw [ZCt g h.n (h.n + 1) k (by lia) (by lia)];simp [Hs.Jz,e]
theorem Li (g:GoodH h) (e:h.dir k=some d):h.last k=h.last d:=by unfold Hs.last;rw [ZCt g h.n (h.n + 1) k (by lia) (by lia)];simp [Hs.Jz,e]
theorem ZFm (g:GoodH h):∀(m k:Nat),h.n<=m + k->k<=h.last k/\(k < h.n->h.last k < h.n)
 | 0,k,e=>by rw [Ib g (Pn (by lia))];lia
 | m + 1,k,e=>by
  cases hd:h.dir k with
  | none=>rw [Ib g hd];lia
  | some d=>
   have:=Hj g hd;rw [Li g hd];have:=ZFm g m d (by lia);lia
theorem Gw (g:GoodH h) (k:Nat):k<=h.last k/\(k < h.n->h.last k < h.n):=ZFm g h.n k (by lia)
def Hs.Hk (h:Hs) (j:Nat):Nat->Int:=λi=>if j<=i then h.last i else i
theorem ZJN (g:GoodH h) {G:DH}:∀(j:Nat) (x y:Option D),j<=h.n->∃x' y',
  Bp (gV 2) Z1 (Jx ((j:Int) - 1) j) [some h.enc,some (.ref G.length),x,y] (G++ [.lst (tab h.n (h.Hk j))])=.nx [some h.enc,some (.ref G.length),x',y'] (G++ [.lst (tab h.n (h.Hk 0))])
 | 0,x,y,e=>⟨x,y,by rw [ZFL,Ea]⟩
 | j + 1,x,y,e=>by
  have hj:j < h.n:=by lia
  obtain ⟨x',y',ih⟩:=ZJN g (G:=G) j (some (.int j)) (some (dnD (h.dir j))) (by lia);refine ⟨x',y',?_⟩;have e1:(((j + 1:Nat):Int) - 1)=j:=by lia
  have hb:Z1 [some h.enc,some (.ref G.length),some (.int j),y] (G++ [.lst (tab h.n (h.Hk (j + 1)))])=.nx [some h.enc,some (.ref G.length),some (.int j),some (dnD (h.dir j))] (G++ [.lst (tab h.n (h.Hk j))]):=by
   unfold Z1;cases hd:h.dir j with
   | none=>
    have et:tab h.n (h.Hk (j + 1))=tab h.n (h.Hk j):=ZGL λi hi=>by
     unfold Hs.Hk;by_cases e2:i=j
     ·subst e2;rw [Ib g hd];simp
     ·by_cases e3:j<=i
      ·rw [if_pos e3,if_pos (by lia)]
      ·rw [if_neg e3,if_neg (by lia)]
    simp [Rb g hj,hd,dnD,et]
   | some d=>
    have hl:=Hj g hd;have et:tab h.n (fset (h.Hk (j + 1)) j (h.Hk (j + 1) d))=tab h.n (h.Hk j):=ZGL λi hi=>by
     unfold Hs.Hk fset;by_cases e2:i=j
     ·subst e2;rw [if_pos rfl,if_pos (by lia),if_pos (by lia),Li g hd]
     ·rw [if_neg e2];dsimp only;by_cases e3:j<=i
      ·rw [if_pos e3,if_pos (by lia)]
      ·rw [if_neg e3,if_neg (by lia)]
    simp [Rb g hj,hd,dnD,Dj,Gf hl.2.1,Ep,Jv,hj,Sv,et]
  rw [e1,ZGY,Dp];simp only [Du,R.Dl,qY,hb,Dr];exact ih
theorem ZRM (g:GoodH h) (G:DH):Y6 [h.enc] G=.ok (.ref G.length) (G++ [.lst (tab h.n λi=>(h.last i:Int))]):=by
 obtain ⟨x',y',hL⟩:=ZJN g (G:=G) h.n none none (zW _);have e0:tab h.n (h.Hk h.n)=Cm 0 h.n:=by
  unfold tab Cm;refine zT λi hi=> ?_
  have:=zS.mp hi;unfold Hs.Hk;rw [if_neg (by lia)];simp
 have e1:h.Hk 0=λi=>(h.last i:Int):=by funext i;unfold Hs.Hk;simp
 rw [e0,e1] at hL;have hn:=g.len;have r1:inR (h.n:Int):=Gg (by lia) (by lia);have r2:inR ((h.n:Int) - 1):=Gg (by lia) (by lia);have r3:inR (-1):=Gg (by lia) (by lia);have e2:((h.n:Int) - 1 - -1).toNat=h.n:=by lia
 have h6:(h.n:Int)<=1000000:=by lia
 have ebr:bels G.length (Cm 0 h.n)=true:=Gi λ_ _=>rfl
 unfold Y6 ZFD;rw [Bk];simp [Cv,Hs.Lr,r1,h6,Fb ebr,r2,r3,ZJo,e2,hL,Fb]
noncomputable def Hs.mem (h:Hs) (m:Nat):List Nat:=(zj h.n).filter λk=>decide (h.last k=m)
theorem mem_iff:k∈h.mem m↔k < h.n/\h.last k=m:=by unfold Hs.mem;rw [j0,zS];simp
theorem N8:(h.mem m).Pairwise (· < ·):=List.Pairwise.filter _ List.pairwise_lt_range
theorem ZAm:(h.mem m).length<=h.n:=by have:=List.length_filter_le (λk=>decide (h.last k=m)) (zj h.n);simpa [Hs.mem] using this
theorem ZJO (hs:ms.Pairwise (· < ·)) (hi:i < ms.length) (hj:j < ms.length) (h:ms[i] < ms[j]):i < j:=by
 rcases Nat.lt_trichotomy i j with z | z | z
 ·exact z
 ·subst z;lia
 ·have:=qy.mp hs j i hj hi z;lia
theorem ZEU (g:GoodH h) (hm:m < h.n) (e:h.last m=m):(h.mem m).getLast?=some m:=by
 have hmem:m∈h.mem m:=mem_iff.mpr ⟨hm,e⟩;have hne:h.mem m≠ []:=λz=>by rw [z] at hmem;cases hmem
 rw [List.getLast?_eq_some_getLast hne]
 congr 1
 have h1:=mem_iff.mp (List.getLast_mem hne);have h2:=(Gw g ((h.mem m).getLast hne)).1;obtain ⟨i,hi,ei⟩:=qD hmem;have h3:m<=(h.mem m).getLast hne:=by
  rw [List.getLast_eq_getElem];by_cases e4:i=(h.mem m).length - 1
  ·subst e4;lia
  ·have:=qy.mp (N8 (h:=h) (m:=m)) i ((h.mem m).length - 1) hi (by lia) (by lia);lia
 lia
def Hs.need (h:Hs) (k:Nat):Int:=match (h.pl k).kd with
 | .town a _=>a
 | _=>0
def Hs.rank (h:Hs) (k:Nat):Int:=match (h.pl k).kd with
 | .town _ b=>b
 | _=>0
noncomputable def Hs.row (h:Hs) (ms:List Nat) (ca:Nat->Int) (k:Nat):Row:=⟨(h.dir k).map λd=>ms.idxOf d,ca k,h.need k,h.rank k⟩
def Hs.rows (h:Hs) (ms:List Nat) (ca:Nat->Int):List Row:=ms.map (h.row ms ca)
theorem idx_map (d:Nat):∀ms:List Nat,(ms.map λ(i:Nat)=>(i:Int)).idxOf (d:Int)=ms.idxOf d
 | []=>rfl
 | m::ms=>by
  rw [zA,List.idxOf_cons,List.idxOf_cons,idx_map d ms];by_cases e:m=d
  ·subst e;simp
  ·have e2:¬((m:Int)=d):=by lia
   have b1:((m:Int) == (d:Int))=false:=by simp [e2]
   have b2:(m == d)=false:=by simp [e]
   rw [b1,b2]
theorem ZFr (g:GoodH h) (hm:∀k∈ms,k < h.n/\∀d,h.dir k=some d->d∈ms) (hl:ms.length<=40) (hp:G[p]? =some (.lst (tab h.n ca))):∀(ks:List Nat) (acc:List Row) (x1 x2 x3 x4:Option D),(∀k∈ks,k∈ms)->acc.length + ks.length<=40->∃y1 y2 y3 y4,
  Bp (gV 4) U0 (Ao ks) [some h.enc,some (.fl (Ao ms)),some (.ref p),some (.ref G.length),x1,x2,x3,x4] (G++ [.lst (acc.map Row.enc)])=
   .nx [some h.enc,some (.fl (Ao ms)),some (.ref p),some (.ref G.length),y1,y2,y3,y4] (G++ [.lst ((acc++ks.map (h.row ms ca)).map Row.enc)])
 | [],acc,x1,x2,x3,x4,_,_=>⟨x1,x2,x3,x4,by simp [Ao,Ea]⟩
 | k::ks,acc,x1,x2,x3,x4,hk,ha=>by
  obtain ⟨hkn,hkd⟩:=hm k (hk k zX);obtain ⟨y1,y2,y3,y4,ih⟩:=ZFr g hm hl hp ks (acc++ [h.row ms ca k]) (some (.int k)) (some (h.encP (h.pl k))) (some (dnD (h.dir k))) (some (dnD ((h.dir k).map λd=>ms.idxOf d))) (λj hj=>hk j (zZ _ hj)) (by simp at ha ⊢;lia);refine ⟨y1,y2,y3,y4,?_⟩;have hpl:p < G.length:=(zF.mp hp).1;have hgp:∀L:DH,(G++L)[p]? =some (.lst (tab h.n ca)):=λL=>by rw [zI hpl];exact hp
  have ha2:acc.length < 1000000:=by simp at ha;lia
  have ht:h.row ms ca k=⟨(h.dir k).map λd=>ms.idxOf d,ca k,h.need k,h.rank k⟩:=rfl;have hb:U0 [some h.enc,some (.fl (Ao ms)),some (.ref p),some (.ref G.length),some (.int k),x2,x3,x4] (G++ [.lst (acc.map Row.enc)])=
    .nx [some h.enc,some (.fl (Ao ms)),some (.ref p),some (.ref G.length),some (.int k),some (h.encP (h.pl k)),some (dnD (h.dir k)),some (dnD ((h.dir k).map λd=>ms.idxOf d))] (G++ [.lst ((acc++ [h.row ms ca k]).map Row.enc)]):=by
   have hix:∀d,h.dir k=some d->∀G',Rj (.fl (Ao ms)) [.int (d:Int)] G'=.ok (.int (ms.idxOf d:Nat)) G':=λd hd G'=>by
    have e:Ao ms=(ms.map λ(i:Nat)=>(i:Int)).map D.int:=by simp [Ao]
    rw [e,ZKP (ns:=ms.map λ(i:Nat)=>(i:Int)) (by simp [J7]) (zG.mpr ⟨d,hkd d hd,rfl⟩) (by simp;lia),idx_map]
   unfold U0;by_cases hT:(h.pl k).kd.isT=true
   ·obtain ⟨a,b,ek⟩:∃a b,(h.pl k).kd=.town a b:=by
     cases e:(h.pl k).kd with
     | town a b=>exact ⟨a,b,rfl⟩
     | basin _ _ _=>rw [e] at hT;cases hT
     | mill _=>rw [e] at hT;cases hT
    have e4:∀G',Aj (h.encP (h.pl k)) (.int 4) G'=.ok (.int a) G':=λG'=>by unfold Hs.encP;rw [ek];simp
    have e5:∀G',Aj (h.encP (h.pl k)) (.int 5) G'=.ok (.int b) G':=λG'=>by unfold Hs.encP;rw [ek];simp
    have en:h.need k=a:=by unfold Hs.need;rw [ek]
    have er:h.rank k=b:=by unfold Hs.rank;rw [ek]
    cases hd:h.dir k with
    | none=>simp [Cv,Hs.Dv hkn,Rb g hkn,hd,dnD,Jd,hT,hgp,Gf hkn,e4,e5,Bw,Dj,Ep,ha2,ht,Row.enc,en,er]
    | some d=>simp [Cv,Hs.Dv hkn,Rb g hkn,hd,dnD,hix d hd,Jd,hT,hgp,Gf hkn,e4,e5,Bw,Dj,Ep,ha2,ht,Row.enc,en,er]
   ·have en:h.need k=0:=by
     unfold Hs.need;cases e:(h.pl k).kd with
     | town a b=>rw [e] at hT;exact absurd rfl hT
     | basin _ _ _=>rfl
     | mill _=>rfl
    have er:h.rank k=0:=by
     unfold Hs.rank;cases e:(h.pl k).kd with
     | town a b=>rw [e] at hT;exact absurd rfl hT
     | basin _ _ _=>rfl
     | mill _=>rfl
    cases hd:h.dir k with
    | none=>simp [Cv,Hs.Dv hkn,Rb g hkn,hd,dnD,Jd,hT,hgp,Gf hkn,Bw,Dj,Ep,ha2,ht,Row.enc,en,er]
    | some d=>simp [Cv,Hs.Dv hkn,Rb g hkn,hd,dnD,hix d hd,Jd,hT,hgp,Gf hkn,Bw,Dj,Ep,ha2,ht,Row.enc,en,er]
  show Bp _ _ (.int k::Ao ks) _ _=_;rw [Dp];simp only [Du,R.Dl,qY,hb,Dr];rw [ih];simp
theorem ZMn (g:GoodH h) (hm:∀k∈ms,k < h.n/\∀d,h.dir k=some d->d∈ms) (hl:ms.length<=40) (hp:G[p]? =some (.lst (tab h.n ca))):
  W8 [h.enc,.fl (Ao ms),.ref p] G=.ok (.ref G.length) (G++ [.lst ((h.rows ms ca).map Row.enc)]):=by
 obtain ⟨y1,y2,y3,y4,hL⟩:=ZFr g hm hl hp ms [] none none none none (λk hk=>hk) (by simpa using hl);have hL':Bp (gV 4) U0 (Ao ms) [some h.enc,some (.fl (Ao ms)),some (.ref p),some (.ref G.length),none,none,none,none] (G++ [.lst []])=.nx [some h.enc,some (.fl (Ao ms)),some (.ref p),some (.ref G.length),y1,y2,y3,y4] (G++ [.lst ((h.rows ms ca).map Row.enc)]):=hL;unfold W8 ZJH;rw [Bk];simp [Av,Fb,hL']
theorem K9 (g:GoodH h) (hc:∀k,k < h.n->0<=ca k):Reach (h.rows (h.mem m) ca):=λi r hr=>by
 have hil:i < (h.mem m).length:=by have:=(zF.mp hr).1;simpa [Hs.rows] using this
 have e:r=h.row (h.mem m) ca (h.mem m)[i]:=by unfold Hs.rows at hr;rw [zw,zQ hil] at hr;simpa using hr.symm
 obtain ⟨hk,hlast⟩:=mem_iff.mp (qz hil);subst e;refine ⟨λd hd=> ?_,hc _ hk,?_,?_⟩
 ·have hd':(h.dir (h.mem m)[i]).map (λd=>(h.mem m).idxOf d)=some d:=hd;cases e:h.dir (h.mem m)[i] with
  | none=>rw [e] at hd';cases hd'
  | some d0=>
   rw [e] at hd';have ed:(h.mem m).idxOf d0=d:=by simpa using hd'
   have hl:=Hj g e;have hmem:d0∈h.mem m:=mem_iff.mpr ⟨hl.2.1,by rw [<-Li g e];exact hlast⟩;have hlt:=zH hmem;have hg:(h.mem m)[(h.mem m).idxOf d0]=d0:=qx hlt;subst ed;refine ⟨ZJO N8 hil hlt (by rw [hg];exact hl.1),by simpa [Hs.rows] using hlt⟩
 ·show 0<=h.need _;unfold Hs.need;cases e:(h.pl (h.mem m)[i]).kd with
  | town a b=>exact (g.town _ a b hk e).1
  | basin _ _ _=>exact qJ _
  | mill _=>exact qJ _
 ·show 0<=h.rank _;unfold Hs.rank;cases e:(h.pl (h.mem m)[i]).kd with
  | town a b=>exact (g.town _ a b hk e).2
  | basin _ _ _=>exact qJ _
  | mill _=>exact qJ _
structure Cs where
 came:Nat->Int
 coming:Nat->Nat->Int
 page:Nat->List Int
 rea:List D
variable {s:Cs}
def Js (l:List Int):D:=match l with
 | []=>.non
 | _=>.tup (l.map D.int)
@[simp] theorem ZRV {n:Nat} {l:List Int}:bel n (Js l)=true:=by
 cases l with
 | nil=>rfl
 | cons a l=>simp only [Js,DL.bel];exact ZG7
noncomputable def cfl (ds:List D):List (Str×D):=(["house","levels","year_turn","came","coming","page","reaches"]:List Str).zip ds
noncomputable def cflds (i n:Nat) (H LV:D) (yt:Int):List (Str×D):=cfl [H,LV,.int yt,.ref (i + 1),.ref (i + (2 + n)),.ref (i + (3 + n)),.ref (i + (4 + n))]
def Df (n:Nat) (pg:Nat->List Int):List D:=(zj n).map λk=>Js (pg k)
def Eb (i n:Nat):List D:=(zj n).map λk=>D.ref (i + (2 + k))
noncomputable def csT (i n:Nat) (H LV:D) (yt:Int) (s:Cs):DH:=.ins "Course" (cflds i n H LV yt):: .lst (tab n s.came)::((zj n).map (λk=>DO.lst (tab 5 (s.coming k)))++ [.lst (Eb i n),.lst (Df n s.page),.lst s.rea])
noncomputable def csH (G:DH) (n:Nat) (H LV:D) (yt:Int) (s:Cs):DH:=G++csT G.length n H LV yt s
theorem ZPP {n:Nat} {yt:Int} :(csT i n H LV yt s).length=n + 5:=by simp [csT]
theorem ZDx {n:Nat} {yt:Int} :(csH G n H LV yt s).length=G.length + (n + 5):=by unfold csH;rw [zU,ZPP]
section
variable {G:DH} {n:Nat} {H LV:D} {yt:Int} {s:Cs}
theorem Rp (j:Nat):(csH G n H LV yt s)[G.length + j]? =(csT G.length n H LV yt s)[j]? :=Zx _ j
theorem K3:(csH G n H LV yt s)[G.length]? =some (.ins "Course" (cflds G.length n H LV yt)):=Rp 0
theorem Te:(csH G n H LV yt s)[G.length + 1]? =some (.lst (tab n s.came)):=Rp 1
theorem X8:(csT i n H LV yt s)[2 + j]? =((zj n).map (λk=>DO.lst (tab 5 (s.coming k)))++ [.lst (Eb i n),.lst (Df n s.page),.lst s.rea])[j]? :=by
 have e:2 + j=j + 1 + 1:=by lia
 rw [e]
 rfl
theorem ZBl (hk:k < n):(csH G n H LV yt s)[G.length + (2 + k)]? =some (.lst (tab 5 (s.coming k))):=by
 rw [Rp,X8,zI (by simpa using hk),zw,zO hk]
 rfl
theorem Yr:(csH G n H LV yt s)[G.length + (2 + n)]? =some (.lst (Eb G.length n)):=by rw [Rp,X8,zM (by simp)];simp
theorem Ma:(csH G n H LV yt s)[G.length + (3 + n)]? =some (.lst (Df n s.page)):=by
 have e:3 + n=2 + (n + 1):=by lia
 rw [e,Rp,X8,zM (by simp)];simp
theorem csHe:(csH G n H LV yt s)[G.length + (4 + n)]? =some (.lst s.rea):=by
 have e:4 + n=2 + (n + 2):=by lia
 rw [e,Rp,X8,zM (by simp)];simp
theorem Z5 (j:Nat) (o:DO):(csH G n H LV yt s).set (G.length + j) o=G++(csT G.length n H LV yt s).set j o:=ZC1 _ j o
theorem csS1:(csH G n H LV yt s).set (G.length + 1) (.lst (tab n ca))=csH G n H LV yt {s with came:=ca}:=Z5 1 _
noncomputable def upd2 (co:Nat->Nat->Int) (k:Nat) (r:Nat->Int):Nat->Nat->Int:=λi=>if i=k then r else co i
theorem ZDI {o:DO}:(csT i n H LV yt s).set (2 + j) o=.ins "Course" (cflds i n H LV yt):: .lst (tab n s.came)::((zj n).map (λk=>DO.lst (tab 5 (s.coming k)))++ [DO.lst (Eb i n),DO.lst (Df n s.page),DO.lst s.rea]).set j o:=by
 have e:2 + j=j + 1 + 1:=by lia
 rw [e]
 rfl
theorem csSr (hk:k < n) {r:Nat->Int}:(csH G n H LV yt s).set (G.length + (2 + k)) (.lst (tab 5 r))=csH G n H LV yt {s with coming:=upd2 s.coming k r}:=by
 rw [Z5,ZDI,List.set_append_left _ _ (by simpa using hk)];unfold csH csT
 congr 3
 congr 1
 refine j5 λi=> ?_
 by_cases hi:i < n
 ·by_cases e:k=i
  ·subst e;rw [jQ (by simpa using hi),zw,zO hi];simp [upd2]
  ·rw [qP e,zw,zO hi,zw,zO hi];have:i≠k:=λz=>e z.symm
   simp [upd2,this]
 ·rw [z5 (by simp;lia),z5 (by simp;lia)]
theorem Vt:(csH G n H LV yt s).set (G.length + (3 + n)) (.lst (Df n pg))=csH G n H LV yt {s with page:=pg}:=by
 have e:3 + n=2 + (n + 1):=by lia
 rw [e,Z5,ZDI,jO _ _ (by simp)];unfold csH csT;simp
theorem csSe {re:List D}:(csH G n H LV yt s).set (G.length + (4 + n)) (.lst re)=csH G n H LV yt {s with rea:=re}:=by
 have e:4 + n=2 + (n + 2):=by lia
 rw [e,Z5,ZDI,jO _ _ (by simp)];unfold csH csT;simp
theorem Ln:Jl "Course" "house" (.ref G.length) (csH G n H LV yt s)=.ok H (csH G n H LV yt s):=N6 K3 rfl
theorem ZFC:Jl "Course" "levels" (.ref G.length) (csH G n H LV yt s)=.ok LV (csH G n H LV yt s):=N6 K3 rfl
theorem ZFp:Jl "Course" "year_turn" (.ref G.length) (csH G n H LV yt s)=.ok (.int yt) (csH G n H LV yt s):=N6 K3 rfl
theorem Zg:Jl "Course" "came" (.ref G.length) (csH G n H LV yt s)=.ok (.ref (G.length + 1)) (csH G n H LV yt s):=N6 K3 rfl
theorem ZFn:Jl "Course" "coming" (.ref G.length) (csH G n H LV yt s)=.ok (.ref (G.length + (2 + n))) (csH G n H LV yt s):=N6 K3 rfl
theorem Q9:Jl "Course" "page" (.ref G.length) (csH G n H LV yt s)=.ok (.ref (G.length + (3 + n))) (csH G n H LV yt s):=N6 K3 rfl
theorem ZQw:Jl "Course" "reaches" (.ref G.length) (csH G n H LV yt s)=.ok (.ref (G.length + (4 + n))) (csH G n H LV yt s):=N6 K3 rfl
theorem K1 {m:Str} {F:List D->DH->R D} {t:DA} (hm:∀i,(cflds i n H LV yt).lookup m=none):Us "Course" m F t S (.ref G.length) (csH G n H LV yt s)=(t S (csH G n H LV yt s)).bind λds G2=>F (.ref G.length::ds) G2:=ZKS K3 (hm _)
theorem ZJm:∀i,(cflds i n H LV yt).lookup ("send":Str)=none:=λ_=>rfl
theorem ZA8:∀i,(cflds i n H LV yt).lookup ("send_down":Str)=none:=λ_=>rfl
theorem ZQG:∀i,(cflds i n H LV yt).lookup ("go_basin":Str)=none:=λ_=>rfl
theorem ZJ5:∀i,(cflds i n H LV yt).lookup ("go_reach":Str)=none:=λ_=>rfl
theorem ZGH:∀i,(cflds i n H LV yt).lookup ("go":Str)=none:=λ_=>rfl
theorem ZQc:∀i,(cflds i n H LV yt).lookup ("state_behind":Str)=none:=λ_=>rfl
theorem Mx {s':Cs} {d:D} (hb:∀m,bel m d=true):tidy (csH G n H LV yt s) (.ok d (csH G n H LV yt s'))=.ok d (csH G n H LV yt s'):=ZKj (by rw [ZDx,ZDx]) (hb _)
theorem ZPa (hk:k < n):atI (Eb i n) (k:Int)=some (.ref (i + (2 + k))):=Eo rfl (by unfold Eb;rw [zw,zO hk];rfl)
theorem ZKw {l:List Int}:(Df n pg).set k (Js l)=Df n λi=>if i=k then l else pg i:=by
 unfold Df;refine j5 λi=> ?_
 by_cases hi:i < n
 ·by_cases e:k=i
  ·subst e;rw [jQ (by simpa using hi),zw,zO hi];simp
  ·rw [qP e,zw,zO hi,zw,zO hi];have:i≠k:=λz=>e z.symm
   simp [this]
 ·rw [z5 (by simp;lia),z5 (by simp;lia)]
@[simp] theorem ZAZ:(Df n pg).length=n:=by simp [Df]
noncomputable def Cs.send (s:Cs) (to dl:Nat) (c:Int):Cs:=if dl=0 then {s with came:=fset s.came to (s.came to + c)} else {s with coming:=upd2 s.coming to (fset (s.coming to) (dl - 1) (s.coming to (dl - 1) + c))}
theorem ZFB (ht:to < n) (hd:dl<=5):Vi [.ref G.length,.int to,.int dl,.int c] (csH G n H LV yt s)=.ok .non (csH G n H LV yt (s.send to dl c)):=by
 unfold Vi ZJJ;rw [Bk];by_cases h0:dl=0
 ·subst h0;simp [Zg,Vy Te (Gf ht),Te,Jv,ht,Sv,csS1,Cs.send,Mx]
 ·have e:((dl:Int) - 1)=((dl - 1:Nat):Int):=by lia
  have h1:dl - 1 < 5:=by lia
  simp [h0,ZFn,Yr,ZPa ht,e,Vy (ZBl ht) (Gf h1),ZBl ht,Jv,h1,Sv,csSr ht,Cs.send,Mx]
end
noncomputable def Hs.Ff (h:Hs) (s:Cs) (k:Nat) (c:Int):Cs:=match h.dn k with
 | none=>s
 | some d=>s.send d (h.pl k).dl c
section
variable {G:DH} {h:Hs} {lv:Nat->Int} {yt:Int} {s:Cs}
theorem ZBz (g:GoodH h) (hk:k < h.n) :Ua [.ref G.length,.int k,.int c] (csH G h.n h.enc LV yt s)=.ok .non (csH G h.n h.enc LV yt (h.Ff s k c)):=by
 unfold Ua ZJl;rw [Bk];cases hd:h.dn k with
 | none=>simp [Ln,O7 g hk,hd,dnD,Hs.Ff,Mx]
 | some d=>
  have hl:=g.dn k d hk hd;simp [Ln,O7 g hk,hd,dnD,K1 ZJm,Cv,Hs.Dv hk,ZFB hl.2 (g.dl k hk),Hs.Ff,Mx]
theorem Wl {n:Nat} {a b d e f:Int}:(Df n pg).set k (.tup [.int a,.int b,.int c,.int d,.int e,.int f])=Df n λi=>if i=k then [a,b,c,d,e,f] else pg i:=ZKw (l:= [a,b,c,d,e,f])
noncomputable def Hs.basin (h:Hs) (yt:Int) (lv:Nat->Int) (s:Cs) (k:Nat):Cs:=match (h.pl k).kd with
 | .basin brim rule pump=>
  let w:=lv k + s.came k;let st:=held yt rule [];let stays:=w - rv w st - pm w st;let lies:=min stays brim;let s1:Cs:={s with page:=λi=>if i=k then [s.came k,0,stays - lies,rv w st,pm w st,lies] else s.page i};let s2:=h.Ff s1 k (rv w st + (stays - lies))
  match pump with
  | none=>s2
  | some (to,dl,_)=>s2.send to dl (pm w st)
 | _=>s
theorem ZMU (g:GoodH h) (hk:k < h.n) (hB:(h.pl k).kd.isB=true):We [.ref G.length,.int k] (csH G h.n h.enc (.tup (tab h.n lv)) yt s)=.ok .non (csH G h.n h.enc (.tup (tab h.n lv)) yt (h.basin yt lv s k)):=by
 obtain ⟨brim,rule,pump,ek⟩:∃a b c,(h.pl k).kd=.basin a b c:=by
  cases e:(h.pl k).kd with
  | basin a b c=>exact ⟨a,b,c,rfl⟩
  | town _ _=>rw [e] at hB;cases hB
  | mill _=>rw [e] at hB;cases hB
 have e4:∀G',Aj (h.encP (h.pl k)) (.int 4) G'=.ok (.int brim) G':=λG'=>by unfold Hs.encP;rw [ek];simp
 have e5:∀G',Aj (h.encP (h.pl k)) (.int 5) G'=.ok (.tup (rule.map Dk)) G':=λG'=>by unfold Hs.encP;rw [ek];simp
 have e6:∀G',Aj (h.encP (h.pl k)) (.int 6) G'=.ok (h.O9 pump) G':=λG'=>by unfold Hs.encP;rw [ek];simp
 simp only [Hs.basin,ek];unfold We ZEW;rw [Bk];cases hp:pump with
 | none=>simp [Ln,Cv,Hs.Dv hk,Zg,Te,Gf hk,e5,ZFp,c_at,ZFC,ZIq,e4,Bw,Q9,Ma,Jv,hk,Wl,Vt,K1 ZA8,ZBz g hk,e6,hp,Hs.O9,Mx]
 | some q=>
  obtain ⟨to,dl,mo⟩:=q;have hl:=g.pump k brim rule to dl mo hk (by rw [ek,hp]);simp [Ln,Cv,Hs.Dv hk,Zg,Te,Gf hk,e5,ZFp,c_at,ZFC,ZIq,e4,Bw,Q9,Ma,Jv,hk,Wl,Vt,K1 ZA8,ZBz g hk,e6,hp,Hs.O9,K1 ZJm,ZEB g hl.1,ZFB hl.1 hl.2.2,Mx]
end
noncomputable def z3 (ms:List Nat) (T L:Nat->Int):List D:=(zj ms.length).map λi=>D.tup [.int (ms.getD i 0:Nat),.int (T i),.int (L i)]
theorem ZKE {L:Nat->Int} (j:Nat) (G:DH):Gz [.fl (Ao ms),.fl (tab ms.length T),.fl (tab ms.length L)] j G=some (z3 ms T L)[j]? :=by
 unfold Gz z3;by_cases hj:j < ms.length
 ·have e1:(Ao ms)[j]? =some (.int (ms.getD j 0:Nat)):=by unfold Ao;rw [zw,zQ hj];simp [zy,zQ hj]
  simp [Ie,e1,Oi hj,zO hj]
 ·have e1:(Ao ms)[j]? =none:=z5 (by simp;lia);have e2:(zj ms.length)[j]? =none:=z5 (by simp;lia);simp [Ie,e1,e2]
def rrow (T L:Nat->Int) (i:Nat):List Int:= [T i + L i,T i,0,L i,0,0]
noncomputable def pgM (ms:List Nat) (T L:Nat->Int) (pg:Nat->List Int) (i:Nat):Nat->List Int:=λk=>if k∈ms.take i then rrow T L (ms.idxOf k) else pg k
theorem ZKi {L:Nat->Int} :pgM ms T L pg 0=pg:=by funext k;simp [pgM]
theorem ZFw (nd:ms.Nodup) (hi:i < ms.length) (hj:j < ms.length) (e:ms[i]=ms[j]):i=j:=by
 rcases Nat.lt_trichotomy i j with z | z | z
 ·exact absurd e (qy.mp nd i j hi hj z)
 ·exact z
 ·exact absurd e.symm (qy.mp nd j i hj hi z)
theorem Q3 (nd:ms.Nodup) (hi:i < ms.length):ms.idxOf ms[i]=i:=by have hl:=zH (qz hi);exact ZFw nd hl hi (qx hl)
theorem ZMM (nd:ms.Nodup) {L:Nat->Int} (hi:i < ms.length):pgM ms T L pg (i + 1)=λk=>if k=ms.getD i 0 then rrow T L i else pgM ms T L pg i k:=by
 have eg:ms.getD i 0=ms[i]:=by simp [zy,zQ hi]
 funext k;rw [eg];unfold pgM;rw [List.take_succ_eq_append_getElem hi];by_cases e:k=ms[i]
 ·subst e;rw [if_pos rfl,if_pos (qG.mpr (.inr (qB.mpr rfl))),Q3 nd hi]
 ·rw [if_neg e];have:(k∈ms.take i++ [ms[i]])↔k∈ms.take i:=by rw [qG,qB];exact ⟨λh=>h.elim id λz=>absurd z e,.inl⟩
  simp only [this]
section
variable {G:DH} {h:Hs} {LV:D} {yt:Int}
theorem ZF2 (g:GoodH h) (hms:∀k∈ms,k < h.n) (nd:ms.Nodup) (hlast:ms.getLast?=some m) {T L:Nat->Int} {s:Cs} {r t:D}:∀(q i:Nat) (x y z:Option D),i + q=ms.length->0 < q->∃x' y' z',
  Bp (Bx 3 (Aq (gV 4) (Aq (gV 5) (Aq (gV 6) Ce)))) Mp ((z3 ms T L).drop i) [some (.ref G.length),some (.fl (Ao ms)),some r,some t,x,y,z] (csH G h.n h.enc LV yt {s with page:=pgM ms T L s.page i})=
   .nx [some (.ref G.length),some (.fl (Ao ms)),some r,some t,x',y',z'] (csH G h.n h.enc LV yt (h.Ff {s with page:=pgM ms T L s.page ms.length} m (L (ms.length - 1))))
 | 0,i,x,y,z,e,h0=>by lia
 | q + 1,i,x,y,z,e,h0=>by
  have hi:i < ms.length:=by lia
  have eg:ms.getD i 0=ms[i]:=by simp [zy,zQ hi]
  have hk:ms.getD i 0 < h.n:=by rw [eg];exact hms _ (qz hi)
  have hmn:m < h.n:=hms m (List.mem_of_getLast? hlast);have e0:(z3 ms T L).drop i=.tup [.int (ms.getD i 0:Nat),.int (T i),.int (L i)]::(z3 ms T L).drop (i + 1):=by rw [zL (by simp [z3];exact hi)];simp [z3]
  have hneg:atI (Ao ms) (-1)=some (.int (m:Nat)):=by
   have hl:0 < ms.length:=by lia
   rw [ZLU (by decide) (by simp;lia)]
   congr 1
   have e3:((-1:Int) + ((Ao ms).length:Int)).toNat=ms.length - 1:=by simp;lia
   simp only [e3];unfold Ao;rw [List.getElem_map];have e4:ms[ms.length - 1]'(by lia)=m:=by have:=jz (l:=ms);rw [hlast,zQ (by lia)] at this;exact (Option.some.inj this).symm
   rw [e4]
  have hpg:(λk=>if k=ms.getD i 0 then [T i + L i,T i,0,L i,0,0] else pgM ms T L s.page i k)=pgM ms T L s.page (i + 1):=(ZMM nd hi).symm;rw [e0,Dp];cases q with
  | zero=>
   have ei:i=ms.length - 1:=by lia
   have em:ms.getD i 0=m:=by have:=jz (l:=ms);rw [hlast,zQ (by lia)] at this;rw [eg];subst ei;exact (Option.some.inj this).symm
   have hb:Mp [some (.ref G.length),some (.fl (Ao ms)),some r,some t,some (.int (ms.getD i 0:Nat)),some (.int (T i)),some (.int (L i))] (csH G h.n h.enc LV yt {s with page:=pgM ms T L s.page i})=
     .nx [some (.ref G.length),some (.fl (Ao ms)),some r,some t,some (.int (ms.getD i 0:Nat)),some (.int (T i)),some (.int (L i))] (csH G h.n h.enc LV yt (h.Ff {s with page:=pgM ms T L s.page ms.length} m (L (ms.length - 1)))):=by
    have e5:i + 1=ms.length:=by lia
    rw [e5] at hpg;unfold Mp;simp only [em] at hk hpg ⊢;simp [Bw,Q9,Ma,Jv,hk,Wl,hpg,Vt,hneg,K1 ZA8,ZBz g hmn,<-ei]
   refine ⟨some (.int (ms.getD i 0:Nat)),some (.int (T i)),some (.int (L i)),?_⟩;rw [zN (by simp [z3];lia)];simp only [Ys,Xk,Yx,Du,R.Mi,R.Dl,qY,hb,Dr,qV,jE,Nat.reduceAdd,if_true,Ea]
  | succ q=>
   have hne:ms.getD i 0≠m:=λz=>by have h1:=jz (l:=ms);rw [hlast,zQ (by lia)] at h1;have h2:=Option.some.inj h1;rw [eg,h2] at z;have:=ZFw nd hi (by lia) z;lia
   have hne':¬((ms.getD i 0:Nat):Int)=(m:Int):=by lia
   have hb:Mp [some (.ref G.length),some (.fl (Ao ms)),some r,some t,some (.int (ms.getD i 0:Nat)),some (.int (T i)),some (.int (L i))] (csH G h.n h.enc LV yt {s with page:=pgM ms T L s.page i})=
     .nx [some (.ref G.length),some (.fl (Ao ms)),some r,some t,some (.int (ms.getD i 0:Nat)),some (.int (T i)),some (.int (L i))] (csH G h.n h.enc LV yt {s with page:=pgM ms T L s.page (i + 1)}):=by
    unfold Mp;generalize ms.getD i 0=a at hk hpg hne';simp [Bw,Q9,Ma,Jv,hk,Wl,hpg,Vt,hneg,hne']
   obtain ⟨x',y',z',ih⟩:=ZF2 g hms nd hlast (T:=T) (L:=L) (s:=s) (r:=r) (t:=t) (q + 1) (i + 1) (some (.int (ms.getD i 0:Nat))) (some (.int (T i))) (some (.int (L i))) (by lia) (by lia);refine ⟨x',y',z',?_⟩;simp only [Ys,Xk,Yx,Du,R.Mi,R.Dl,qY,hb,Dr,qV,jE,Nat.reduceAdd,if_true];exact ih
def Hs.J1 (h:Hs) (s:Cs) (m:Nat):Nat->Int:=shr (h.rows (h.mem m) s.came)
noncomputable def Hs.Ht (h:Hs) (s:Cs) (m:Nat):Nat->Int:=gath (h.rows (h.mem m) s.came) λi=>col Row.water (h.rows (h.mem m) s.came) i - h.J1 s m i
noncomputable def Hs.reach (h:Hs) (s:Cs) (m:Nat):Cs:=
 let s1:=h.Ff {s with page:=pgM (h.mem m) (h.J1 s m) (h.Ht s m) s.page (h.mem m).length} m (h.Ht s m ((h.mem m).length - 1))
 {s1 with rea:=s1.rea++ [.tup [.fl (Ao (h.mem m)),.fl ((h.rows (h.mem m) s.came).map Row.enc)]]}
theorem X3 {n:Nat} (hb:∀m,bels m ds=true):freeze (csH G n H LV yt s) (.ok (.ref (csH G n H LV yt s).length) (csH G n H LV yt s++ [.lst ds]))=.ok (.fl ds) (csH G n H LV yt s):=Fj (hb _)
theorem Gq:(h.rows ms ca).length=ms.length:=by simp [Hs.rows]
theorem ZNd (g:GoodH h) (hm:m < h.n) (hl:h.last m=m) (hc:∀k,k < h.n->0<=s.came k) (hre:s.rea.length<=100):Wu [.ref G.length,.fl (Ao (h.mem m))] (csH G h.n h.enc LV yt s)=.ok .non (csH G h.n h.enc LV yt (h.reach s m)):=by
 have hR:=K9 g (m:=m) hc;have hlen:(h.rows (h.mem m) s.came).length<=40:=by have:=ZAm (h:=h) (m:=m);have:=g.len;rw [Gq];lia
 have hmem:m∈h.mem m:=mem_iff.mpr ⟨hm,hl⟩;have hpos:0 < (h.mem m).length:=jH hmem;have nd:(h.mem m).Nodup:=(N8 (h:=h) (m:=m)).imp λhab=>zE hab
 have cr:=ZMn g (ms:=h.mem m) (λk hk=>⟨(mem_iff.mp hk).1,λd hd=>by have h1:=mem_iff.mp hk;have h2:=Hj g hd;exact mem_iff.mpr ⟨h2.2.1,by rw [<-Li g hd];exact h1.2⟩⟩) (by rw [<-Gq (h:=h) (ca:=s.came)];exact hlen) (p:=G.length + 1) (ca:=s.came) (G:=csH G h.n h.enc LV yt s) Te
 have cs:=ZG6 hR hlen (csH G h.n h.enc LV yt s);have cp:=ZAY hR hlen (t:=.fl (tab (h.rows (h.mem m) s.came).length (shr (h.rows (h.mem m) s.came)))) (T:=shr (h.rows (h.mem m) s.came)) (G:=csH G h.n h.enc LV yt s) rfl;rw [Gq] at cs cp;obtain ⟨x',y',z',hL⟩:=ZF2 (G:=G) (LV:=LV) (yt:=yt) g (ms:=h.mem m) (λk hk=>(mem_iff.mp hk).1) nd (ZEU g hm hl) (T:=h.J1 s m) (L:=h.Ht s m) (s:=s) (r:=.fl ((h.rows (h.mem m) s.came).map Row.enc)) (t:=.fl (tab (h.mem m).length (h.J1 s m))) (h.mem m).length 0 none none none (by lia) hpos
 rw [ZKi,qN] at hL;have hz:∀S G',Em (Gz [.fl (Ao (h.mem m)),.fl (tab (h.mem m).length (h.J1 s m)),.fl (tab (h.mem m).length (h.Ht s m))]) (Bx 3 (Aq (gV 4) (Aq (gV 5) (Aq (gV 6) Ce)))) Mp (h.mem m).length 0 S G'=Bp (Bx 3 (Aq (gV 4) (Aq (gV 5) (Aq (gV 6) Ce)))) Mp (z3 (h.mem m) (h.J1 s m) (h.Ht s m)) S G':=λS G'=>V4 ZKE (by simp [z3])
 have eT:shr (h.rows (h.mem m) s.came)=h.J1 s m:=rfl;have eL:gath (h.rows (h.mem m) s.came) (λi=>col Row.water (h.rows (h.mem m) s.came) i - h.J1 s m i)=h.Ht s m:=rfl;rw [eT] at cs cp;rw [eL] at cp;have hre2:∀s':Cs,s'.rea=s.rea->s'.rea.length < 1000000:=λs' e=>by rw [e];lia
 have ers:∀s':Cs,∀k c,(h.Ff s' k c).rea=s'.rea:=λs' k c=>by
  unfold Hs.Ff;cases h.dn k with
  | none=>rfl
  | some d=>simp only [Cs.send];split <;> rfl
 have el1:=hre2 _ (ers {s with page:=pgM (h.mem m) (h.J1 s m) (h.Ht s m) s.page (h.mem m).length} m (h.Ht s m ((h.mem m).length - 1)));simp only [Hs.reach];generalize h.Ff {s with page:=pgM (h.mem m) (h.J1 s m) (h.Ht s m) s.page (h.mem m).length} m (h.Ht s m ((h.mem m).length - 1))=s1 at hL el1;have hS:{s with page:=s.page}=s:=rfl;have ht:∀G',tidy G' (.ok (.tup [.fl (Ao (h.mem m)),.fl ((h.rows (h.mem m) s.came).map Row.enc)]) G')=.ok (.tup [.fl (Ao (h.mem m)),.fl ((h.rows (h.mem m) s.came).map Row.enc)]) G':=λG'=>Bh (by simp)
 unfold Wu ZGW;rw [Bk];simp [Ln,Zg,cr,X3,cs,cp,I9,Km,lenOf,hz,hL,Bw,ht,ZQw,csHe,el1,csSe,Mx]
end
noncomputable def Cs.NN (n:Nat) (s:Cs):Prop:=(∀k,k < n->0<=s.came k)/\∀k j,k < n->j < 5->0<=s.coming k j
theorem Cs.NN.send {n:Nat} (h:s.NN n) (hc:0<=c):(s.send to dl c).NN n:=by
 unfold Cs.send;split
 ·refine ⟨λk hk=> ?_,h.2⟩;simp only [fset];split
  ·rename_i e;subst e;have:=h.1 k hk;lia
  ·exact h.1 k hk
 ·refine ⟨h.1,λk j hk hj=> ?_⟩;simp only [upd2];split
  ·rename_i e;subst e;simp only [fset];split
   ·rename_i e2;subst e2;have:=h.2 k _ hk hj;lia
   ·exact h.2 k j hk hj
  ·exact h.2 k j hk hj
theorem Cs.NN.down {n:Nat} (h:s.NN n) {hs:Hs} (hc:0<=c):(hs.Ff s k c).NN n:=by
 unfold Hs.Ff;cases hs.dn k with
 | none=>exact h
 | some d=>exact h.send hc
theorem ZEg {w:Int} {s:Stp}:0<=cub w s:=by unfold cub;lia
theorem ZCJ {w:Int}:∀{st:List Stp},0<=rv w st
 | []=>qJ _
 | s::r=>by
  have h1:=ZCJ (w:=w) (st:=r);have h2:=ZEg (w:=w) (s:=s);unfold rv
  split <;> lia
theorem ZAO {w:Int}:∀{st:List Stp},0<=pm w st
 | []=>qJ _
 | s::r=>by
  have h1:=ZAO (w:=w) (st:=r);have h2:=ZEg (w:=w) (s:=s);unfold pm
  split <;> lia
theorem Cs.NN.page {n:Nat} (h:s.NN n) :({s with page:=pg}:Cs).NN n:=h
theorem W6:(s.send to dl c).rea=s.rea/\(s.send to dl c).page=s.page:=by
 unfold Cs.send
 split <;> exact ⟨rfl,rfl⟩
theorem Ls:(h.Ff s k c).rea=s.rea/\(h.Ff s k c).page=s.page:=by
 unfold Hs.Ff;cases h.dn k with
 | none=>exact ⟨rfl,rfl⟩
 | some d=>exact W6
section
variable {h:Hs} {yt:Int} {lv:Nat->Int} {s:Cs}
theorem ZRn (hs:s.NN h.n):(h.basin yt lv s k).NN h.n:=by
 unfold Hs.basin;cases (h.pl k).kd with
 | basin brim rule pump=>
  simp only;have a1:=ZCJ (w:=lv k + s.came k) (st:=held yt rule []);have a2:=ZAO (w:=lv k + s.came k) (st:=held yt rule []);cases pump with
  | none=>exact hs.page.down (by lia)
  | some q=>
   obtain ⟨to,dl,mo⟩:=q;exact Cs.NN.send (hs.page.down (by lia)) a2
 | town _ _=>exact hs
 | mill _=>exact hs
theorem ZGw:(h.basin yt lv s k).rea=s.rea:=by
 unfold Hs.basin;cases (h.pl k).kd with
 | basin brim rule pump=>
  simp only;cases pump with
  | none=>rw [Ls.1]
  | some q=>obtain ⟨to,dl,mo⟩:=q;simp only;rw [W6.1,Ls.1]
 | town _ _=>rfl
 | mill _=>rfl
theorem ZD3 (hB:(h.pl k).kd.isB=true):((h.basin yt lv s k).page k).length=6/\∀i,i≠k->(h.basin yt lv s k).page i=s.page i:=by
 unfold Hs.basin;cases e:(h.pl k).kd with
 | basin brim rule pump=>
  simp only;cases pump with
  | none=>
   simp only;rw [Ls.2];exact ⟨by simp,λi hi=>by simp [hi]⟩
  | some q=>
   obtain ⟨to,dl,mo⟩:=q;simp only;rw [W6.2,Ls.2];exact ⟨by simp,λi hi=>by simp [hi]⟩
 | town _ _=>rw [e] at hB;cases hB
 | mill _=>rw [e] at hB;cases hB
theorem ZQI (g:GoodH h) (hs:s.NN h.n) (hi:i < (h.mem m).length):0<=h.Ht s m i:=by have hR:=K9 g (m:=m) hs.1;have hsi:=Kw hR;have:=hsi.p0 i (by rw [Gq];exact hi);rw [hsi.pg] at this;exact this
theorem ZLp (g:GoodH h) (hm:m < h.n) (hl:h.last m=m) (hs:s.NN h.n):(h.reach s m).NN h.n:=by have hpos:0 < (h.mem m).length:=jH (mem_iff.mpr ⟨hm,hl⟩);unfold Hs.reach;exact Cs.NN.down (s:={s with page:=pgM (h.mem m) (h.J1 s m) (h.Ht s m) s.page (h.mem m).length}) hs.page (ZQI g hs (by lia))
theorem ZNM:(h.reach s m).rea.length=s.rea.length + 1:=by unfold Hs.reach;simp only [zU,j4];rw [Ls.1]
theorem ZDg:(h.reach s m).page k=if k∈h.mem m then rrow (h.J1 s m) (h.Ht s m) ((h.mem m).idxOf k) else s.page k:=by unfold Hs.reach;simp only;rw [Ls.2];unfold pgM;rw [List.take_of_length_le (zW _)]
noncomputable def Hs.step (h:Hs) (yt:Int) (lv:Nat->Int) (s:Cs) (k:Nat):Cs:=if (h.pl k).kd.isB=true then h.basin yt lv s k else if h.last k=k then h.reach s k else s
noncomputable def Hs.goF (h:Hs) (yt:Int) (lv:Nat->Int):Nat->Nat->Cs->Cs
 | 0,_,s=>s
 | m + 1,k,s=>h.goF yt lv m (k + 1) (h.step yt lv s k)
theorem ZFA (g:GoodH h) (hk:k < h.n) (hs:s.NN h.n):(h.step yt lv s k).NN h.n:=by
 unfold Hs.step;split
 ·exact ZRn hs
 ·split
  ·rename_i e;exact ZLp g hk e hs
  ·exact hs
theorem ZOG:(h.step yt lv s k).rea.length<=s.rea.length + 1:=by
 unfold Hs.step;split
 ·rw [ZGw];lia
 ·split
  ·rw [ZNM];lia
  ·lia
end
section
variable {G:DH} {h:Hs} {yt:Int} {lv:Nat->Int}
theorem Zb {β:Type} {f f':α->Option β}:∀{l:List α},(∀x∈l,f x=f' x)->l.filterMap f=l.filterMap f'
 | [],_=>rfl
 | x::l,hl=>by rw [qw,qw,hl x zX,Zb λy hy=>hl y (zZ _ hy)]
theorem ZN7 (hS:Bl 2 [2] S= [none,none,some (.int k)]) (G:DH):Ed (Gb 0 (.fl (tab h.n λi=>(h.last i:Int)))) (Bx 2 (Aq (gV 0) (Aq (gV 1) Ce))) Td Ye (Bl 2 [2] S) h.n 0 G=.ok (Ao (h.mem k)) G:=by
 have he:Eg (tab h.n λi=>(h.last i:Int))=(zj h.n).map λ(i:Nat)=>D.tup [.int (i:Int),.int (h.last i:Int)]:=by refine q8 (by simp [Eg]) λi h1 h2=>by simp [Eg,tab]
 rw [Zu (F:=λd=>match d with | .tup [.int i,.int e]=>if e=(k:Int) then some (.int i) else none | _=>none) (λj=>Yd j G) (λx hx=> ?_) (by rw [Ly];simp)]
 ·congr 1
  rw [he,qQ];unfold Hs.mem Ao;rw [<-List.filterMap_eq_filter,List.map_filterMap];refine Zb λi _=> ?_
  by_cases e:h.last i=k
  ·subst e;simp [Option.guard]
  ·have e2:¬((h.last i:Int)=(k:Int)):=by lia
   simp [Option.guard,e,e2]
 ·rw [he] at hx;obtain ⟨i,_,rfl⟩:=zG.mp hx;refine ⟨[some (.int i),some (.int (h.last i:Int)),some (.int k)],by rw [hS];simp,?_⟩;by_cases e:h.last i=k
  ·refine .inr ⟨by unfold Td;simp [e],.int i,by unfold Ye;simp,by simp [e]⟩
  ·have e2:¬((h.last i:Int)=(k:Int)):=by lia
   exact .inl ⟨by unfold Td;simp [e2],by simp [e2]⟩
theorem ZIK (g:GoodH h):∀(m k:Nat) (s:Cs) (x y:Option D),k + m=h.n->s.NN h.n->s.rea.length<=k->∃x' y',
  Bp (Bx 2 (Aq (gV 2) (Aq (gV 3) Ce))) Qf ((Eg (tab h.n λi=>(h.last i:Int))).drop k) [some (.ref G.length),some (.fl (tab h.n λi=>(h.last i:Int))),x,y] (csH G h.n h.enc (.tup (tab h.n lv)) yt s)=
   .nx [some (.ref G.length),some (.fl (tab h.n λi=>(h.last i:Int))),x',y'] (csH G h.n h.enc (.tup (tab h.n lv)) yt (h.goF yt lv m k s))
 | 0,k,s,x,y,e,_,_=>⟨x,y,by rw [zN (by rw [Ly];simp;lia),Ea];rfl⟩
 | m + 1,k,s,x,y,e,hs,hre=>by
  have hk:k < h.n:=by lia
  have hn:=g.len;have hre2:=ZOG (h:=h) (yt:=yt) (lv:=lv) (s:=s) (k:=k);obtain ⟨x',y',ih⟩:=ZIK g m (k + 1) (h.step yt lv s k) (some (.int k)) (some (.int (h.last k:Int))) (by lia) (ZFA g hk hs) (by lia);refine ⟨x',y',?_⟩;have e0:(Eg (tab h.n λi=>(h.last i:Int))).drop k=.tup [.int k,.int (h.last k:Int)]::(Eg (tab h.n λi=>(h.last i:Int))).drop (k + 1):=by rw [zL (by rw [Ly];simpa using hk)];simp [Eg,tab]
  have hml:(h.mem k).length<=1000000:=by have:=ZAm (h:=h) (m:=k);lia
  have hb:Qf [some (.ref G.length),some (.fl (tab h.n λi=>(h.last i:Int))),some (.int k),some (.int (h.last k:Int))] (csH G h.n h.enc (.tup (tab h.n lv)) yt s)=
    .nx [some (.ref G.length),some (.fl (tab h.n λi=>(h.last i:Int))),some (.int k),some (.int (h.last k:Int))] (csH G h.n h.enc (.tup (tab h.n lv)) yt (h.step yt lv s k)):=by
   unfold Qf Hs.step;by_cases hB:(h.pl k).kd.isB=true
   ·simp [Ln,Cv,Hs.Dv hk,Hy,hB,K1 ZQG,ZMU g hk hB]
   ·by_cases hl:h.last k=k
    ·have hc:Ed (Gb 0 (.fl (tab h.n λi=>(h.last i:Int)))) (Bx 2 (Aq (gV 0) (Aq (gV 1) Ce))) Td Ye (Bl 2 [2] [some (.ref G.length),some (.fl (tab h.n λi=>(h.last i:Int))),some (.int k),some (.int (k:Int))]) h.n 0 (csH G h.n h.enc (.tup (tab h.n lv)) yt s)=.ok (Ao (h.mem k)) (csH G h.n h.enc (.tup (tab h.n lv)) yt s):=ZN7 rfl _;simp [Ln,Cv,Hs.Dv hk,Hy,hB,hl,K1 ZJ5,Jf,Km,lenOf,hc,Av,hml,X3,ZNd g hk hl hs.1 (by lia)]
    ·have hl':¬((h.last k:Int)=(k:Int)):=by lia
     simp [Ln,Cv,Hs.Dv hk,Hy,hB,hl,hl']
  rw [e0,Dp];simp only [Ys,Xk,Yx,Du,R.Mi,R.Dl,qY,hb,Dr,qV,jE,Nat.reduceAdd,if_true];exact ih
theorem ZFP (g:GoodH h) (hs:s.NN h.n) (hre:s.rea= []):Ug [.ref G.length] (csH G h.n h.enc (.tup (tab h.n lv)) yt s)=.ok .non (csH G h.n h.enc (.tup (tab h.n lv)) yt (h.goF yt lv h.n 0 s)):=by
 obtain ⟨x',y',hL⟩:=ZIK (G:=G) (yt:=yt) (lv:=lv) g h.n 0 s none none (by lia) hs (by rw [hre];simp);rw [qN] at hL;unfold Ug ZH0;rw [Bk];have hz:∀S G',Em (Gb 0 (.fl (tab h.n λi=>(h.last i:Int)))) (Bx 2 (Aq (gV 2) (Aq (gV 3) Ce))) Qf h.n 0 S G'=Bp (Bx 2 (Aq (gV 2) (Aq (gV 3) Ce))) Qf (Eg (tab h.n λi=>(h.last i:Int))) S G':=λS G'=>V4 Yd (by rw [Ly];simp)
 simp [Ln,ZRM g,X3,Jf,Km,lenOf,hz,hL,Mx]
end
noncomputable def Dc (n:Nat) (co:Nat->Nat->Int):List D:=(zj n).map λk=>D.tup (tab 5 (co k))
noncomputable def stD (n:Nat) (lv:Nat->Int) (co:Nat->Nat->Int):D:=.tup [.tup (tab n lv),.tup (Dc n co)]
@[simp] theorem ZSU {n:Nat} :bels m (Dc n co)=true:=Gi λk _=>by simp [S7]
@[simp] theorem ZMJ {n:Nat} :bels m (Df n pg)=true:=Gi λk _=>ZRV
@[simp] theorem ZR8 {n:Nat} :(Dc n co).length=n:=by simp [Dc]
noncomputable def Kl (co:Nat->Nat->Int):Nat->Nat->Int:=λk j=>if j < 4 then co k (j + 1) else 0
noncomputable def cs0 (co:Nat->Nat->Int) (fl:Nat->Int):Cs:=⟨λk=>fl k + co k 0,Kl co,λ_=> [],[]⟩
theorem tab5:tab 5 F= [.int (F 0),.int (F 1),.int (F 2),.int (F 3),.int (F 4)]:=rfl
theorem Nr {c f:Str} {fs:List (Str×D)} {d:D} (hl:fs.length < 1000):Qg c f (.ref G.length) d S (G++ .ins c fs::L)=.nx S (G++ .ins c (Hr f d fs)::L):=by
 rw [ZK7 (fs:=fs) (by rw [Dj];rfl) hl,Ep]
 rfl
theorem ZLh {n:Nat} (G:DH):Ed (Gz [.tup (tab n fl),.tup (Dc n co)]) (Bx 2 (Aq (gV 0) (Aq (gV 1) Ce))) Ck Wt (Bl 2 [] S) n 0 G=.ok (tab n λk=>fl k + co k 0) G:=by
 have he:Mu (tab n fl) (Dc n co)=(zj n).map λ(i:Nat)=>D.tup [.int (fl i),.tup (tab 5 (co i))]:=by refine q8 (by simp [Mu]) λi h1 h2=>by simp [Mu,tab,Dc]
 rw [Zu (F:=λd=>match d with | .tup [.int c,.tup (.int a::_)]=>some (.int (c + a)) | _=>none) (λj=>ZAS (Wf (xs:=tab n fl)) (Wf (xs:=Dc n co)) j) (λx hx=> ?_) (by rw [he];simp)]
 ·congr 1
  rw [he,qQ];show (zj n).filterMap (λi=>some (D.int (fl i + co i 0)))=_;rw [qj]
  rfl
 ·rw [he] at hx;obtain ⟨i,_,rfl⟩:=zG.mp hx;refine ⟨[some (.int (fl i)),some (.tup (tab 5 (co i)))],by simp [Bl],.inr ⟨rfl,.int (fl i + co i 0),?_,by simp [tab5]⟩⟩;unfold Wt;simp [tab5]
theorem ZOU (G:DH):T3 [some (.tup (tab 5 (co k)))] G=.ok (.ref G.length) (G++ [.lst (tab 5 (Kl co k))]):=by
 have hcut:cutD (tab 5 (co k)) (some 1) none= [.int (co k 1),.int (co k 2),.int (co k 3),.int (co k 4)]:=rfl;have h1:Ob [.tup [.int (co k 1),.int (co k 2),.int (co k 3),.int (co k 4)]] G=.ok (.ref G.length) (G++ [.lst [.int (co k 1),.int (co k 2),.int (co k 3),.int (co k 4)]]):=rfl;have h2:Ba (.fl [.int (co k 1),.int (co k 2),.int (co k 3),.int (co k 4)]) (.fl [.int 0]) G=.ok (.ref G.length) (G++ [.lst (tab 5 (Kl co k))]):=rfl
 have hf:∀ds:List D,bels G.length ds=true->freeze G (.ok (.ref G.length) (G++ [.lst ds]))=.ok (.fl ds) G:=λds hb=>Fj hb
 unfold T3;simp [Qx,ZC7,hcut,Mr,h1,hf,Av,h2,Fb]
theorem ZHn {n:Nat} {co:Nat->Nat->Int}:∀(m k:Nat) (G:DH),k + m=n->Dy (gV 0) Ck T3 [none] ((Dc n co).drop k) G=.ok ((zj m).map λj=>D.ref (G.length + j)) (G++(zj m).map λj=>DO.lst (tab 5 (Kl co (k + j))))
 | 0,k,G,e=>by rw [zN (by simp;lia)];simp [Dy]
 | m + 1,k,G,e=>by
  have e0:(Dc n co).drop k=.tup (tab 5 (co k))::(Dc n co).drop (k + 1):=by rw [zL (by simp;lia)];simp [Dc]
  have ih:=ZHn (n:=n) (co:=co) m (k + 1) (G++ [.lst (tab 5 (Kl co k))]) (by lia);rw [e0,ZA1];simp only [Du,R.Mi,qY,ZQx,if_true,ZOU,ih]
  congr 1
  ·rw [qH,zA,qU]
   congr 1
   refine zT λj _=> ?_
   simp only [Function.comp,zU,j4]
   congr 1
   lia
  ·rw [qH,zA,qU,qR]
   congr 1
   show _::_=_::_
   congr 1
   refine zT λj _=> ?_
   simp only [Function.comp]
   congr 3
   lia
theorem ZHl (g:GoodH h) :
  Nm [.ref G.length,h.enc,stD h.n lv co,.int at_,.tup (tab h.n fl)] (G++ [.ins "Course" []])=.ok .non (csH G h.n h.enc (.tup (tab h.n lv)) (at_ % h.yr) (cs0 co fl)):=by
 have hn:=g.len;have hyr:=g.yr;have hnl:h.n<=1000000:=by lia
 have p1:∀a:D,Hr "house" a (cfl [])=cfl [a]:=λ_=>rfl
 have p2:∀a b:D,Hr "levels" b (cfl [a])=cfl [a,b]:=λ_ _=>rfl
 have p3:∀a b c:D,Hr "year_turn" c (cfl [a,b])=cfl [a,b,c]:=λ_ _ _=>rfl
 have p4:∀a b c d:D,Hr "came" d (cfl [a,b,c])=cfl [a,b,c,d]:=λ_ _ _ _=>rfl
 have p5:∀a b c d e:D,Hr "coming" e (cfl [a,b,c,d])=cfl [a,b,c,d,e]:=λ_ _ _ _ _=>rfl
 have p6:∀a b c d e f:D,Hr "page" f (cfl [a,b,c,d,e])=cfl [a,b,c,d,e,f]:=λ_ _ _ _ _ _=>rfl
 have p7:∀a b c d e f q:D,Hr "reaches" q (cfl [a,b,c,d,e,f])=cfl [a,b,c,d,e,f,q]:=λ_ _ _ _ _ _ _=>rfl
 have hl:∀ds,(cfl ds).length < 1000:=λds=>by unfold cfl;rw [List.length_zip];have:(["house","levels","year_turn","came","coming","page","reaches"]:List Str).length=7:=rfl;lia
 have hz:∀G',I9 2 [.tup (tab h.n fl),.tup (Dc h.n co)] G'=.ok (.fn h.n (Gz [.tup (tab h.n fl),.tup (Dc h.n co)])) G':=λG'=>by rw [ZEV Wf Wf];simp
 have hcc:=λG'=>ZHn (n:=h.n) (co:=co) h.n 0 G' (by lia)
 simp only [qN,Nat.zero_add] at hcc;have hcs:∀S:DSt,Bl 1 [] S= [none]:=λ_=>rfl
 have epg:zV h.n D.non=Df h.n λ_=> []:=by unfold Df;refine q8 (by simp) λi h1 h2=>by simp [Js]
 let S:DSt:= [some (.ref G.length),some h.enc,some (stD h.n lv co),some (.int at_),some (.tup (tab h.n fl)),some (.tup (tab h.n lv)),some (.tup (Dc h.n co))];have hS:S= [some (.ref G.length),some h.enc,some (stD h.n lv co),some (.int at_),some (.tup (tab h.n fl)),some (.tup (tab h.n lv)),some (.tup (Dc h.n co))]:=rfl;let R5:DH:=(zj h.n).map λk=>DO.lst (tab 5 (Kl co k))
 have hR5:R5.length=h.n:=by simp [R5]
 have q1:Gy "Course" (dV 0) (dV 1) "house" S (G++ .ins "Course" (cfl []):: [])=.nx S (G++ .ins "Course" (cfl [h.enc]):: []):=by rw [Px,hS];simp only [ZAh,jF,jk,R.Dl,Nr (hl _),p1]
 have q2:Gy "Course" (dV 0) (dV 5) "levels" S (G++ .ins "Course" (cfl [h.enc]):: [])=.nx S (G++ .ins "Course" (cfl [h.enc,.tup (tab h.n lv)]):: []):=by rw [Px,hS];simp only [ZAh,jF,jk,R.Dl,Nr (hl _),p2]
 have q3:Gy "Course" (dV 0) (dOp Be (dV 3) (dOp Aj (dV 1) (dC (.int 0)))) "year_turn" S (G++ .ins "Course" (cfl [h.enc,.tup (tab h.n lv)]):: [])=.nx S (G++ .ins "Course" (cfl [h.enc,.tup (tab h.n lv),.int (at_ % h.yr)]):: []):=by rw [Px,hS];simp [ZM1,hyr,Nr (hl _),p3]
 have q4:Gy "Course" (dV 0) (Ej (Dg (I9 2) (Ab (dV 4) (Ab (dV 6) Ad))) 2 [] (Bx 2 (Aq (gV 0) (Aq (gV 1) Ce))) Ck Wt) "came" S (G++ .ins "Course" (cfl [h.enc,.tup (tab h.n lv),.int (at_ % h.yr)]):: [])=
   .nx S (G++ .ins "Course" (cfl [h.enc,.tup (tab h.n lv),.int (at_ % h.yr),.ref (G.length + 1)]):: .lst (tab h.n λk=>fl k + co k 0):: []):=by
  rw [Px,hS];simp [hz,ZLh,Av,hnl,Nr (hl _),p4]
 have q5:Gy "Course" (dV 0) (Ej (Ew (dV 6)) 1 [] (gV 0) Ck T3) "coming" S (G++ .ins "Course" (cfl [h.enc,.tup (tab h.n lv),.int (at_ % h.yr),.ref (G.length + 1)]):: .lst (tab h.n λk=>fl k + co k 0):: [])=
   .nx S (G++ .ins "Course" (cfl [h.enc,.tup (tab h.n lv),.int (at_ % h.yr),.ref (G.length + 1),.ref (G.length + (2 + h.n))]):: .lst (tab h.n λk=>fl k + co k 0)::(R5++ [.lst (Eb G.length h.n)])):=by
  have hi:H8 (.tup (Dc h.n co)) (G++ .ins "Course" (cfl [h.enc,.tup (tab h.n lv),.int (at_ % h.yr),.ref (G.length + 1)]):: .lst (tab h.n λk=>fl k + co k 0):: [])=.ok (.pure (Dc h.n co)) (G++ .ins "Course" (cfl [h.enc,.tup (tab h.n lv),.int (at_ % h.yr),.ref (G.length + 1)]):: .lst (tab h.n λk=>fl k + co k 0):: []):=rfl;have er:∀L:DH,L.length=2->(zj h.n).map (λj=>D.ref ((G++L).length + j))=Eb G.length h.n:=λL e=>by
   unfold Eb;refine zT λj _=> ?_
   rw [zU,e,Nat.add_assoc]
  have hc2:=hcc (G++ .ins "Course" (cfl [h.enc,.tup (tab h.n lv),.int (at_ % h.yr),.ref (G.length + 1)]):: .lst (tab h.n λk=>fl k + co k 0):: []);rw [er _ rfl] at hc2;have hml:∀G',Av (Eb G.length h.n) G'=.ok (.ref G'.length) (G'++ [.lst (Eb G.length h.n)]):=λG'=>by simp [Av,Eb,hnl]
  rw [Px,hS];simp only [ZK0,ZLV,ZAh,jF,jk,R.Mi,hi,hcs,hc2,hml,R.Dl];have e2:(G++DO.ins "Course" (cfl [h.enc,.tup (tab h.n lv),.int (at_ % h.yr),.ref (G.length + 1)]):: .lst (tab h.n λk=>fl k + co k 0):: []++(zj h.n).map λj=>DO.lst (tab 5 (Kl co j))).length=G.length + (2 + h.n):=by simp;lia
  rw [e2];simp only [qR,jA,j1];rw [Nr (hl _),p5]
 have q6:Gy "Course" (dV 0) (Eh (dOp Jt (dFn Av (Ab (dC .non) Ad)) (dFn Do (Ab (dV 5) Ad)))) "page" S (G++ .ins "Course" (cfl [h.enc,.tup (tab h.n lv),.int (at_ % h.yr),.ref (G.length + 1),.ref (G.length + (2 + h.n))]):: .lst (tab h.n λk=>fl k + co k 0)::(R5++ [.lst (Eb G.length h.n)]))=
   .nx S (G++ .ins "Course" (cfl [h.enc,.tup (tab h.n lv),.int (at_ % h.yr),.ref (G.length + 1),.ref (G.length + (2 + h.n)),.ref (G.length + (3 + h.n))]):: .lst (tab h.n λk=>fl k + co k 0)::(R5++ [.lst (Eb G.length h.n),.lst (Df h.n λ_=> [])])):=by
  rw [Px,hS];generalize hQ:G++DO.ins "Course" (cfl [h.enc,.tup (tab h.n lv),.int (at_ % h.yr),.ref (G.length + 1),.ref (G.length + (2 + h.n))]):: .lst (tab h.n λk=>fl k + co k 0)::(R5++ [.lst (Eb G.length h.n)])=Q;have eQ:Q.length=G.length + (3 + h.n):=by rw [<-hQ];simp [hR5];lia
  have hrep:Jt (.ref Q.length) (.int (h.n:Int)) (Q++ [.lst [.non]])=.ok (.ref (Q.length + 1)) (Q++ [.lst [.non],.lst (Df h.n λ_=> [])]):=by rw [ZAV (d:=.non) (by rw [Dj];rfl) (by lia),epg];simp
  have ht:tidy Q (.ok (.ref (Q.length + 1)) (Q++ [.lst [.non],.lst (Df h.n λ_=> [])]))=.ok (.ref Q.length) (Q++ [.lst (Df h.n λ_=> [])]):=T9 _ (k:=1) rfl ZMJ;have hst:Qg "Course" "page" (.ref G.length) (.ref Q.length) S (Q++ [.lst (Df h.n λ_=> [])])=.nx S (G++ .ins "Course" (cfl [h.enc,.tup (tab h.n lv),.int (at_ % h.yr),.ref (G.length + 1),.ref (G.length + (2 + h.n)),.ref (G.length + (3 + h.n))]):: .lst (tab h.n λk=>fl k + co k 0)::(R5++ [.lst (Eb G.length h.n),.lst (Df h.n λ_=> [])])):=by rw [eQ,<-hQ];simp only [qR,jA,j1];rw [Nr (hl _),p6]
  rw [hS] at hst;simp [Av,hrep,ht,hst]
 have q7:Gy "Course" (dV 0) (Eh (dFn Av Ad)) "reaches" S (G++ .ins "Course" (cfl [h.enc,.tup (tab h.n lv),.int (at_ % h.yr),.ref (G.length + 1),.ref (G.length + (2 + h.n)),.ref (G.length + (3 + h.n))]):: .lst (tab h.n λk=>fl k + co k 0)::(R5++ [.lst (Eb G.length h.n),.lst (Df h.n λ_=> [])]))=
   .nx S (G++ .ins "Course" (cfl [h.enc,.tup (tab h.n lv),.int (at_ % h.yr),.ref (G.length + 1),.ref (G.length + (2 + h.n)),.ref (G.length + (3 + h.n)),.ref (G.length + (4 + h.n))]):: .lst (tab h.n λk=>fl k + co k 0)::(R5++ [.lst (Eb G.length h.n),.lst (Df h.n λ_=> []),.lst []])):=by
  rw [Px,hS];generalize hQ:G++DO.ins "Course" (cfl [h.enc,.tup (tab h.n lv),.int (at_ % h.yr),.ref (G.length + 1),.ref (G.length + (2 + h.n)),.ref (G.length + (3 + h.n))]):: .lst (tab h.n λk=>fl k + co k 0)::(R5++ [.lst (Eb G.length h.n),.lst (Df h.n λ_=> [])])=Q;have eQ:Q.length=G.length + (4 + h.n):=by rw [<-hQ];simp [hR5];lia
  have ht:tidy Q (.ok (.ref Q.length) (Q++ [.lst []]))=.ok (.ref Q.length) (Q++ [.lst []]):=Fb rfl;have hst:Qg "Course" "reaches" (.ref G.length) (.ref Q.length) S (Q++ [.lst []])=.nx S (G++ .ins "Course" (cfl [h.enc,.tup (tab h.n lv),.int (at_ % h.yr),.ref (G.length + 1),.ref (G.length + (2 + h.n)),.ref (G.length + (3 + h.n)),.ref (G.length + (4 + h.n))]):: .lst (tab h.n λk=>fl k + co k 0)::(R5++ [.lst (Eb G.length h.n),.lst (Df h.n λ_=> []),.lst []])):=by rw [eQ,<-hQ];simp only [qR,jA,j1];rw [Nr (hl _),p7]
  rw [hS] at hst;simp [Av,ht,hst]
 have htd:tidy (G++ [.ins "Course" []]) (.ok .non (csH G h.n h.enc (.tup (tab h.n lv)) (at_ % h.yr) (cs0 co fl)))=.ok .non (csH G h.n h.enc (.tup (tab h.n lv)) (at_ % h.yr) (cs0 co fl)):=ZRe λz=>by
  have h1:=congrArg (λl:DH=>l[G.length]?) z;simp only [zU,j4] at h1;rw [jv (by lia),K3] at h1;have h2:(G++ [DO.ins "Course" []])[G.length]? =some (.ins "Course" []):=by rw [Dj];rfl
  rw [h2] at h1;simp [cflds,cfl] at h1
 have hfin:G++DO.ins "Course" (cfl [h.enc,.tup (tab h.n lv),.int (at_ % h.yr),.ref (G.length + 1),.ref (G.length + (2 + h.n)),.ref (G.length + (3 + h.n)),.ref (G.length + (4 + h.n))]):: .lst (tab h.n λk=>fl k + co k 0)::(R5++ [.lst (Eb G.length h.n),.lst (Df h.n λ_=> []),.lst []])=csH G h.n h.enc (.tup (tab h.n lv)) (at_ % h.yr) (cs0 co fl):=rfl;have q0:sAs (dV 2) (Bx 2 (Aq (gV 5) (Aq (gV 6) Ce))) [some (.ref G.length),some h.enc,some (stD h.n lv co),some (.int at_),some (.tup (tab h.n fl)),none,none] (G++ [.ins "Course" []])=.nx S (G++ .ins "Course" (cfl []):: []):=by
  simp [stD,hS]
  rfl
 unfold Nm ZEm;rw [Bk];have h5: [D.ref G.length,h.enc,stD h.n lv co,.int at_,.tup (tab h.n fl)].length=5:=rfl;rw [if_pos h5];have hd:([D.ref G.length,h.enc,stD h.n lv co,.int at_,.tup (tab h.n fl)].map some++zV 2 none)= [some (.ref G.length),some h.enc,some (stD h.n lv co),some (.int at_),some (.tup (tab h.n fl)),none,none]:=rfl;rw [hd];simp only [Ws,q0,W9,q1,q2,q3,q4,q5,q6,q7,hfin,ZO2]
 exact htd
section
variable {h:Hs} {yt:Int} {lv:Nat->Int}
theorem Qj (g:GoodH h):∀(m k:Nat),h.n<=m + k->h.last k=k∨(h.pl (h.last k)).kd.isB=false
 | 0,k,e=>.inl (Ib g (Pn (by lia)))
 | m + 1,k,e=>by
  cases hd:h.dir k with
  | none=>exact .inl (Ib g hd)
  | some d=>
   have hl:=Hj g hd;rw [Li g hd];rcases Qj g m d (by lia) with z | z
   ·refine .inr ?_;rw [z];unfold Hs.dir at hd;cases h1:h.dn k with
    | none=>rw [h1] at hd;cases hd
    | some d'=>
     rw [h1] at hd;simp only at hd;split at hd
     ·cases hd
     ·rename_i hn;cases hd;cases e2:(h.pl d).kd.isB with
      | false=>rfl
      | true=>exact absurd (.inr (.inr e2)) hn
   ·exact .inr z
theorem Xc (g:GoodH h):∀(m k:Nat),h.n<=m + k->h.last (h.last k)=h.last k
 | 0,k,e=>by have h1:=Ib g (h:=h) (k:=k) (Pn (by lia));rw [h1,h1]
 | m + 1,k,e=>by
  cases hd:h.dir k with
  | none=>rw [Ib g hd,Ib g hd]
  | some d=>
   have hl:=Hj g hd;rw [Li g hd];exact Xc g m d (by lia)
noncomputable def Hs.done (h:Hs) (j k:Nat):Prop:=if (h.pl k).kd.isB=true then k < j else h.last k < j
theorem ZPr (g:GoodH h) (hk:k < h.n) (hf:∀i,i < h.n->h.done k i->(s.page i).length=6):∀i,i < h.n->h.done (k + 1) i->((h.step yt lv s k).page i).length=6:=λi hi hd=>by
 unfold Hs.step;split
 ·rename_i hB;by_cases e:i=k
  ·subst e;exact (ZD3 hB).1
  ·rw [(ZD3 hB).2 i e];refine hf i hi ?_;unfold Hs.done at hd ⊢;by_cases hiB:(h.pl i).kd.isB=true
   ·rw [if_pos hiB] at hd ⊢;lia
   ·rw [if_neg hiB] at hd ⊢;rcases qI (h.last i) k with z | z
    ·exact z
    ·have e2:h.last i=k:=by lia
     rcases Qj g h.n i (by lia) with z2 | z2
     ·rw [z2] at e2;exact absurd e2 e
     ·rw [e2,hB] at z2;cases z2
 ·rename_i hB;split
  ·rename_i hl;rw [ZDg];split
   ·rfl
   ·rename_i hm;refine hf i hi ?_;unfold Hs.done at hd ⊢;by_cases hiB:(h.pl i).kd.isB=true
    ·rw [if_pos hiB] at hd ⊢;rcases qI i k with z | z
     ·exact z
     ·have e2:i=k:=by lia
      rw [e2] at hiB;exact absurd hiB hB
    ·rw [if_neg hiB] at hd ⊢;rcases qI (h.last i) k with z | z
     ·exact z
     ·exact absurd (mem_iff.mpr ⟨hi,by lia⟩) hm
  ·rename_i hl;refine hf i hi ?_;unfold Hs.done at hd ⊢;by_cases hiB:(h.pl i).kd.isB=true
   ·rw [if_pos hiB] at hd ⊢;rcases qI i k with z | z
    ·exact z
    ·have e2:i=k:=by lia
     rw [e2] at hiB;exact absurd hiB hB
   ·rw [if_neg hiB] at hd ⊢;rcases qI (h.last i) k with z | z
    ·exact z
    ·have e2:h.last i=k:=by lia
     have:=Xc g h.n i (by lia);rw [e2] at this;exact absurd this hl
theorem ZEf (g:GoodH h):∀(m k:Nat) (s:Cs),k + m=h.n->(∀i,i < h.n->h.done k i->(s.page i).length=6)->∀i,i < h.n->((h.goF yt lv m k s).page i).length=6
 | 0,k,s,e,hf,i,hi=>hf i hi (by
   unfold Hs.done;split
   ·lia
   ·have:=(Gw g i).2 hi;lia)
 | m + 1,k,s,e,hf,i,hi=>ZEf g m (k + 1) _ (by lia) (ZPr g (by lia) hf) i hi
theorem ZAo (g:GoodH h):∀(m k:Nat) (s:Cs),k + m=h.n->s.NN h.n->(h.goF yt lv m k s).NN h.n
 | 0,k,s,e,hs=>hs
 | m + 1,k,s,e,hs=>ZAo g m (k + 1) _ (by lia) (ZFA g (by lia) hs)
end
def lies (pg:Nat->List Int):Nat->Int:=λk=>(pg k).getD 5 0
theorem row6 {l:List Int} (h:l.length=6):∃a b c d e f,l= [a,b,c,d,e,f]:=by
 match l,h with
 | [a,b,c,d,e,f],_=>exact ⟨a,b,c,d,e,f,rfl⟩
section
variable {G:DH} {h:Hs} {LV:D} {yt:Int} {s:Cs}
theorem ZMa (hf:∀k,k < h.n->(s.page k).length=6):Hn (G.length + (3 + h.n)) (gV 0) Ck Yg (Bl 1 [] S) h.n 0 (csH G h.n h.enc LV yt s)=.ok (tab h.n (lies s.page)) (csH G h.n h.enc LV yt s):=by
 have hx:=ZJ2 (i:=G.length + (3 + h.n)) (g:=gV 0) (c:=Ck) (te:=Yg) (S:=Bl 1 [] S) (G:=csH G h.n h.enc LV yt s) (F:=λd=>match d with | .tup [_,_,_,_,_,x]=>some x | _=>none) Ma (λx hx=>by obtain ⟨k,hk,rfl⟩:=zG.mp hx;obtain ⟨a,b,c,d,e,f,el⟩:=row6 (hf k (zS.mp hk));rw [el];refine ⟨[some (Js [a,b,c,d,e,f])],by simp [Bl],.inr ⟨rfl,.int f,?_,rfl⟩⟩;unfold Yg;simp [Js])
 rw [ZAZ] at hx;rw [hx]
 congr 1
 unfold Df;rw [qQ];unfold tab;rw [<-qj];refine Zb λk hk=> ?_
 obtain ⟨a,b,c,d,e,f,el⟩:=row6 (hf k (zS.mp hk));simp [Function.comp,el,Js,lies]
theorem ZQl:Hn (G.length + (2 + h.n)) (gV 0) Ck Zf (Bl 1 [] S) h.n 0 (csH G h.n h.enc LV yt s)=.ok (Dc h.n s.coming) (csH G h.n h.enc LV yt s):=by
 have hlen:(Eb G.length h.n).length=h.n:=by simp [Eb]
 have hx:=ZJ2 (i:=G.length + (2 + h.n)) (g:=gV 0) (c:=Ck) (te:=Zf) (S:=Bl 1 [] S) (G:=csH G h.n h.enc LV yt s) (F:=λd=>match d with | .ref j=>some (.tup (tab 5 (s.coming (j - (G.length + 2))))) | _=>none) Yr (λx hx=>by
  obtain ⟨k,hk,rfl⟩:=zG.mp hx;refine ⟨[some (.ref (G.length + (2 + k)))],by simp [Bl],.inr ⟨rfl,.tup (tab 5 (s.coming k)),?_,?_⟩⟩
  ·unfold Zf;simp [ZBl (zS.mp hk)]
  ·have e:G.length + (2 + k) - (G.length + 2)=k:=by lia
   simp only [e])
 rw [hlen] at hx;rw [hx]
 congr 1
 unfold Eb;rw [qQ];unfold Dc;rw [<-qj];refine Zb λk hk=> ?_
 have e:G.length + (2 + k) - (G.length + 2)=k:=by lia
 simp only [Function.comp,e]
theorem ZRX (g:GoodH h) (hf:∀k,k < h.n->(s.page k).length=6):Yb [.ref G.length] (csH G h.n h.enc LV yt s)=.ok (stD h.n (lies s.page) s.coming) (csH G h.n h.enc LV yt s):=by
 have hn:=g.len;have hnl:h.n<=1000000:=by lia
 have hl2:(Eb G.length h.n).length=h.n:=by simp [Eb]
 have hb:bel (csH G h.n h.enc LV yt s).length (stD h.n (lies s.page) s.coming)=true:=by simp [stD]
 unfold Yb ZFq;rw [Bk];unfold stD at hb ⊢;have i1:H8 (.ref (G.length + (3 + h.n))) (csH G h.n h.enc LV yt s)=.ok (.mt (G.length + (3 + h.n))) (csH G h.n h.enc LV yt s):=by simp [H8,Ma]
 have i2:H8 (.ref (G.length + (2 + h.n))) (csH G h.n h.enc LV yt s)=.ok (.mt (G.length + (2 + h.n))) (csH G h.n h.enc LV yt s):=by simp [H8,Yr]
 simp [i1,i2,Q9,Ma,ZMa hf,Av,hnl,X3,Bw,ZFn,Yr,hl2,ZQl,Bh]
noncomputable def Hs.cs (h:Hs) (lv:Nat->Int) (co:Nat->Nat->Int) (at_:Int) (fl:Nat->Int):Cs:=h.goF (at_ % h.yr) lv h.n 0 (cs0 co fl)
theorem Xg {n:Nat} (hc:∀k j,k < n->j < 5->0<=co k j) (hf:∀k,k < n->0<=fl k):(cs0 co fl).NN n:=by
 refine ⟨λk hk=> ?_,λk j hk hj=> ?_⟩
 ·have:=hc k 0 hk (by lia);have:=hf k hk;show 0<=fl k + co k 0;lia
 ·show 0<=if j < 4 then co k (j + 1) else 0
  split
  ·exact hc k (j + 1) hk (by lia)
  ·exact qJ _
theorem ZMz (g:GoodH h) :∀k,k < h.n->((h.cs lv co at_ fl).page k).length=6:=ZEf g h.n 0 _ (by lia) λi hi hd=>by
 unfold Hs.done at hd
 split at hd <;> lia
theorem ZQT (g:GoodH h) (hc:∀k j,k < h.n->j < 5->0<=co k j) (hf:∀k,k < h.n->0<=fl k) (G:DH):
  Xj [h.enc,stD h.n lv co,.int at_,.tup (tab h.n fl)] G=.ok (.tup [.tup (Df h.n (h.cs lv co at_ fl).page),stD h.n (lies (h.cs lv co at_ fl).page) (h.cs lv co at_ fl).coming]) G:=by
 have hgo:=ZFP (G:=G) (lv:=lv) (yt:=at_ % h.yr) g (Xg (fl:=fl) hc hf) rfl;have hst:=ZRX (G:=G) (LV:=.tup (tab h.n lv)) (yt:=at_ % h.yr) g (ZMz g (lv:=lv) (fl:=fl) (co:=co) (at_:=at_));have hmk:V3 Nm "Course" [h.enc,stD h.n lv co,.int at_,.tup (tab h.n fl)] G=.ok (.ref G.length) (csH G h.n h.enc (.tup (tab h.n lv)) (at_ % h.yr) (cs0 co fl)):=by
  unfold V3;rw [ZHl g]
  rfl
 have egs:h.goF (at_ % h.yr) lv h.n 0 (cs0 co fl)=h.cs lv co at_ fl:=rfl;rw [egs] at hgo;have hcH:∀s,csH G h.n h.enc (.tup (tab h.n lv)) (at_ % h.yr) s=G++csT G.length h.n h.enc (.tup (tab h.n lv)) (at_ % h.yr) s:=λ_=>rfl
 have hbl:bel G.length (.tup [.tup (Df h.n (h.cs lv co at_ fl).page),stD h.n (lies (h.cs lv co at_ fl).page) (h.cs lv co at_ fl).coming])=true:=by simp [stD]
 unfold Xj ZGp;rw [Bk];simp [hmk,K1 ZGH,hgo,Q9,Ma,K1 ZQc,hst,Bw];rw [hcH];exact Uq hbl
end
theorem ZOR (hf:∀k:Nat,k<=1000->∀G,Bf [.fl (ns.map D.int),.int k] G=.ok (.int (f k)) G):∃u:Int,(u=1∨u=1000000000000000000000000000000)/\∀G,Gs [.fl (ns.map D.int)] G=.ok (.int u) G:=by
 have h0:∀G,Bf [.fl (ns.map D.int),.int 0] G=.ok (.int (f 0)) G:=hf 0 (by lia);have fz:∀G:DH,freeze G (.ok (.ref G.length) (G++ [.lst [.int 1,.int 1,.int 1000000000000000000000000000000]]))=.ok (.fl [.int 1,.int 1,.int 1000000000000000000000000000000]) G:=λG=>Fj rfl
 rcases (by lia:f 0 / 840 % 3=0∨f 0 / 840 % 3=1∨f 0 / 840 % 3=2) with h | h | h
 ·refine ⟨1,.inl rfl,λG=> ?_⟩;unfold Gs Vm;rw [Bk];simp [h0,h,Av,fz,Bh]
 ·refine ⟨1,.inl rfl,λG=> ?_⟩;unfold Gs Vm;rw [Bk];simp [h0,h,Av,fz,Bh]
 ·refine ⟨1000000000000000000000000000000,.inr rfl,λG=> ?_⟩;unfold Gs Vm;rw [Bk];simp [h0,h,Av,fz,Bh]
def amt (c u:Int):Int:=u * (c % 7) + c / 7 % u
theorem Yz (hu:0 < u):0<=amt c u:=by unfold amt;have h1:0<=u * (c % 7):=j6 (by lia) (by lia);have h2:0<=c / 7 % u:=jW _ (by lia);lia
theorem Qk (hu:0 < u) (G:DH):O3 [.int c,.int u] G=.ok (.int (amt c u)) G:=by
 have m1:∀G,Bo (.int u) (.int (c % 7)) G=.ok (.int (u * (c % 7))) G:=λG=>Ku (by lia) (by lia)
 unfold O3 ZEy;rw [Bk];simp [m1,hu,Bh,amt]
theorem ZPy (hf:∀k:Nat,k<=1000->∀G,Bf [.fl (ns.map D.int),.int k] G=.ok (.int (f k)) G):∃y:Int,(1<=y/\y<=24)/\∀G,Jw [.fl (ns.map D.int)] G=.ok (.int y) G:=by
 have h1:∀G,Bf [.fl (ns.map D.int),.int 1] G=.ok (.int (f 1)) G:=hf 1 (by lia);by_cases h:f 1 / 4 % 4=1
 ·refine ⟨1 + f 1 / 16 % 24,by lia,λG=> ?_⟩;unfold Jw ZCX;rw [Bk];simp [h1,h,Bh]
 ·refine ⟨1 + f 1 % 4,by lia,λG=> ?_⟩;unfold Jw ZCX;rw [Bk];simp [h1,h,Bh]
noncomputable def Oa (xs:Nat->Int) (u:Int) (p:Bool):Nat->Nat->Int->List Stp
 | 0,_,_=> []
 | n + 1,j,low=>⟨low + u * (xs (1 + j) % 4),1 + u * (xs (1 + j) / 4 % 4), !(p && decide (xs (1 + j) / 16 % 2=1))⟩::Oa xs u p n (j + 1) (low + u * (xs (1 + j) % 4) + (1 + u * (xs (1 + j) / 4 % 4)))
theorem ZEt {xs:Nat->Int} (hu:0 < u) {p:Bool}:∀(n j:Nat) (low:Int),Good low (Oa xs u p n j low)
 | 0,_,_=>trivial
 | n + 1,j,low=>by have h1:0<=u * (xs (1 + j) % 4):=j6 (by lia) (by lia);have h2:0<=u * (xs (1 + j) / 4 % 4):=j6 (by lia) (by lia);exact ⟨by show low<=low + _;lia,by show 1<=1 + _;lia,ZEt hu n (j + 1) _⟩
theorem ZHa {xs:Nat->Int} :∀(n j:Nat) (low:Int),∀s∈Oa xs u false n j low,s.r=true
 | 0,_,_,s,h=>by cases h
 | n + 1,j,low,s,h=>by
  rcases zK.mp h with rfl | h
  ·simp
  ·exact ZHa n (j + 1) _ s h
theorem ZFt {xs:Nat->Int} {u:Int} {p:Bool} {G:DH}:∀(n j:Nat) (low:Int) (acc:List Stp) (x y z:Option D),j + n<=3->acc.length + n<=10->∃x' y' z' l',
  Bp (gV 5) V1 (Cm j n) [some (.fl (tab 4 xs)),some (.int u),some (.bl p),some (.ref G.length),some (.int low),x,y,z] (G++ [.lst (acc.map Stp.enc)])=
   .nx [some (.fl (tab 4 xs)),some (.int u),some (.bl p),some (.ref G.length),l',x',y',z'] (G++ [.lst ((acc++Oa xs u p n j low).map Stp.enc)])
 | 0,j,low,acc,x,y,z,h,ha=>⟨x,y,z,some (.int low),by rw [Pj,Ea];simp [Oa]⟩
 | n + 1,j,low,acc,x,y,z,h,ha=>by
  have hj:1 + j < 4:=by lia
  have a1:atI (tab 4 xs) (1 + (j:Int))=some (.int (xs (1 + j))):=Eo (k:=1 + j) (by lia) (Oi hj);let s:Stp:=⟨low + u * (xs (1 + j) % 4),1 + u * (xs (1 + j) / 4 % 4), !(p && decide (xs (1 + j) / 16 % 2=1))⟩;obtain ⟨x',y',z',l',ih⟩:=ZFt (xs:=xs) (u:=u) (p:=p) (G:=G) n (j + 1) (s.h + s.m) (acc++ [s]) (some (.int j)) (some (.int s.m)) (some (.str (wy s.r))) (by lia) (by simp;lia);refine ⟨x',y',z',l',?_⟩
  have m1:∀G,Bo (.int u) (.int (xs (1 + j) % 4)) G=.ok (.int (u * (xs (1 + j) % 4))) G:=λG=>Ku (by lia) (by lia)
  have m2:∀G,Bo (.int u) (.int (xs (1 + j) / 4 % 4)) G=.ok (.int (u * (xs (1 + j) / 4 % 4))) G:=λG=>Ku (by lia) (by lia)
  have hal:acc.length < 1000000:=by lia
  have hb:V1 [some (.fl (tab 4 xs)),some (.int u),some (.bl p),some (.ref G.length),some (.int low),some (.int j),y,z] (G++ [.lst (acc.map Stp.enc)])=
    .nx [some (.fl (tab 4 xs)),some (.int u),some (.bl p),some (.ref G.length),some (.int (s.h + s.m)),some (.int j),some (.int s.m),some (.str (wy s.r))] (G++ [.lst ((acc++ [s]).map Stp.enc)]):=by
   unfold V1;cases p with
   | false=>simp [a1,m1,m2,Dj,Ep,hal,Bw,s,Stp.enc,wy]
   | true=>
    by_cases h16:xs (1 + j) / 16 % 2=1
    ·simp [a1,m1,m2,h16,Dj,Ep,hal,Bw,s,Stp.enc,wy]
    ·simp [a1,m1,m2,h16,Dj,Ep,hal,Bw,s,Stp.enc,wy]
  rw [Lk,Dp];simp only [Du,R.Dl,qY,hb,Dr];have e1:((j:Int) + 1)=((j + 1:Nat):Int):=by lia
  rw [e1,ih];simp [Oa,s]
noncomputable def stps (xs:Nat->Int) (u:Int) (p:Bool):List Stp:=Oa xs u p (xs 0 % 4).toNat 0 0
theorem ZIx {xs:Nat->Int} {p:Bool} (G:DH):Yi [.fl (tab 4 xs),.int u,.bl p] G=.ok (.tup ((stps xs u p).map Stp.enc)) G:=by
 have hn:(xs 0 % 4).toNat<=3:=by lia
 obtain ⟨x',y',z',l',hL⟩:=ZFt (xs:=xs) (u:=u) (p:=p) (G:=G) (xs 0 % 4).toNat 0 0 [] none none none (by lia) (by simp;lia);have hL':Bp (gV 5) V1 (Cm 0 (xs 0 % 4).toNat) [some (.fl (tab 4 xs)),some (.int u),some (.bl p),some (.ref G.length),some (.int 0),none,none,none] (G++ [.lst []])=.nx [some (.fl (tab 4 xs)),some (.int u),some (.bl p),some (.ref G.length),l',x',y',z'] (G++ [.lst ((stps xs u p).map Stp.enc)]):=hL
 have a0:atI (tab 4 xs) 0=some (.int (xs 0)):=Eo (k:=0) rfl (Oi (by lia));have hr:inR (xs 0 % 4):=Gg (by lia) (by lia);unfold Yi ZIg;rw [Bk];simp [Av,Fb,a0,hr,hL',Dj,Uq]
noncomputable def Ij (st:List Stp):Int:=match st with
 | []=>0
 | s::r=>(if s.r then 0 else s.m) + Ij r
theorem ZJ3 {c:D} {G:DH}:∀(st:List Stp) (v:Int) (x y z:Option D),∃x' y' z',Bp (Bx 3 (Aq (gV 2) (Aq (gV 3) (Aq (gV 4) Ce)))) X7 (st.map Stp.enc) [some c,some (.int v),x,y,z] G=.nx [some c,some (.int (v + Ij st)),x',y',z'] G
 | [],v,x,y,z=>⟨x,y,z,by simp [Ij,Ea]⟩
 | s::st,v,x,y,z=>by
  let v1:Int:=v + if s.r then 0 else s.m
  obtain ⟨x',y',z',ih⟩:=ZJ3 (c:=c) (G:=G) st v1 (some (.int s.h)) (some (.int s.m)) (some (.str (wy s.r)));refine ⟨x',y',z',?_⟩;have hb:X7 [some c,some (.int v),some (.int s.h),some (.int s.m),some (.str (wy s.r))] G=.nx [some c,some (.int v1),some (.int s.h),some (.int s.m),some (.str (wy s.r))] G:=by
   unfold X7
   cases e:s.r <;> simp [v1,e]
  rw [zA,Dp];simp [Stp.enc,hb];rw [ih];simp [Ij,v1,Int.add_assoc]
theorem ZOW (G:DH):Yl [.tup (st.map Stp.enc)] G=.ok (.int (Ij st)) G:=by obtain ⟨x',y',z',hL⟩:=ZJ3 (c:=.tup (st.map Stp.enc)) (G:=G) st 0 none none none;unfold Yl ZH9;rw [Bk];simp at hL;simp [hL,Bh]
noncomputable def Fo (lat:Nat->Int) (cel:Nat->Nat->Int) (u:Int) (p:Bool) (yr:Int):Nat->Nat->Int->List Ssn
 | 0,_,_=> []
 | m + 1,j,bg=>if j=0∨(lat j % 2=1/\bg + 1 < yr) then (if 0 < j then bg + 1 + lat j / 2 % (yr - bg - 1) else bg,stps (cel j) u p)::Fo lat cel u p yr m (j + 1) (if 0 < j then bg + 1 + lat j / 2 % (yr - bg - 1) else bg)
  else Fo lat cel u p yr m (j + 1) bg
theorem ZD4 {lat:Nat->Int} {cel:Nat->Nat->Int} (hu:0 < u) {p:Bool} :∀(m j:Nat) (bg:Int),∀s∈Fo lat cel u p yr m j bg,Good 0 s.2/\(p=false->∀t∈s.2,t.r=true)
 | 0,_,_,s,h=>by cases h
 | m + 1,j,bg,s,h=>by
  unfold Fo at h;split at h
  ·rcases zK.mp h with rfl | h
   ·refine ⟨ZEt hu _ _ _,λhp=> ?_⟩;subst hp;exact ZHa _ _ _
   ·exact ZD4 hu m (j + 1) _ s h
  ·exact ZD4 hu m (j + 1) _ s h
theorem Xm {lat:Nat->Int} {cel:Nat->Nat->Int} {u:Int} {p:Bool} {yr:Int}:∀(m j:Nat) (bg:Int),0 < j->bg < yr->(∀s∈Fo lat cel u p yr m j bg,bg < s.1/\s.1 < yr)/\(Fo lat cel u p yr m j bg).Pairwise (λa b:Ssn=>a.1 < b.1)
 | 0,_,_,_,_=>⟨λs h=>(nomatch h),List.Pairwise.nil⟩
 | m + 1,j,bg,hj,hb=>by
  unfold Fo;split
  ·rename_i hc;have hc2:bg + 1 < yr:=by
    rcases hc with z | z
    ·lia
    ·exact z.2
   have h1:0<=lat j / 2 % (yr - bg - 1):=jW _ (by lia);have h2:lat j / 2 % (yr - bg - 1) < yr - bg - 1:=jy _ (by lia);obtain ⟨i1,i2⟩:=Xm (lat:=lat) (cel:=cel) (u:=u) (p:=p) (yr:=yr) m (j + 1) (bg + 1 + lat j / 2 % (yr - bg - 1)) (by lia) (by lia);refine ⟨λs hs=> ?_,List.pairwise_cons.mpr ⟨λs hs=>(i1 s hs).1,i2⟩⟩;rcases zK.mp hs with rfl | hs
   ·exact ⟨by show bg < bg + 1 + _;lia,by show bg + 1 + _ < yr;lia⟩
   ·have:=i1 s hs;lia
  ·exact Xm m (j + 1) bg (by lia) hb
theorem Zm {te:DE} {n:Nat} {F:Nat->D} (h:∀k:Nat,k < n->te (S.set 0 (some (.int k))) G=.ok (F k) G):Dy (gV 0) Ck te S (Cm 0 n) G=.ok ((zj n).map F) G:=by
 have e:Cm 0 n=(zj n).map λ(i:Nat)=>D.int (i:Int):=by
  refine j5 λi=> ?_
  simp [Cm]
 rw [Qy (F:=λd=>match d with | .int i=>some (F i.toNat) | _=>none) (λq hq=> ?_)]
 ·congr 1
  rw [e,qQ];show (zj n).filterMap (λ(i:Nat)=>some (F ((i:Int).toNat)))=_;rw [qj];simp
 ·rw [e] at hq;obtain ⟨i,hi,rfl⟩:=zG.mp hq;exact ⟨S.set 0 (some (.int i)),by simp,.inr ⟨rfl,F i,h i (zS.mp hi),by simp⟩⟩
def Qw:Nat->Int
 | 0=>1
 | 1=>48
 | 2=>2304
 | _=>110592
def Uo:Nat->Int
 | 0=>1
 | 1=>64
 | 2=>4096
 | _=>262144
theorem ZHu (hf:∀k:Nat,k<=1000->∀G,Bf [.fl (ns.map D.int),.int k] G=.ok (.int (f k)) G) (hb:b<=900) (hj:j < 4) (G:DH):
  Dy (gV 0) Ck ZCq [none,some (.fl (ns.map D.int)),some (.int b),some (.int j)] (Cm 0 4) G=.ok (tab 4 λk=>f (b + 5 + (3 * j + k) % 6) / (1 + 7 * ((j:Int) / 2))) G:=
 Zm (n:=4) (F:=λk=>.int (f (b + 5 + (3 * j + k) % 6) / (1 + 7 * ((j:Int) / 2)))) λk hk=>by
  have h1:=hf (b + 5 + (3 * j + k) % 6) (by lia) G;have e1:((b + 5 + (3 * j + k) % 6:Nat):Int)=(b:Int) + 5 + (3 * (j:Int) + k) % 6:=by lia
  rw [e1] at h1;unfold ZCq
  rcases (by lia:j=0∨j=1∨j=2∨j=3) with rfl | rfl | rfl | rfl <;> simp at h1 ⊢ <;> simp [h1]
theorem ZO0 (hf:∀k:Nat,k<=1000->∀G,Bf [.fl (ns.map D.int),.int k] G=.ok (.int (f k)) G) (hb:b<=900) (hj:j < 4) (G:DH):
  Dy (gV 0) Ck ZDB [none,some (.fl (ns.map D.int)),some (.int b),some (.int j)] (Cm 0 4) G=.ok (tab 4 λk=>f (b + 5 + k) / Uo j) G:=
 Zm (n:=4) (F:=λk=>.int (f (b + 5 + k) / Uo j)) λk hk=>by
  have h1:=hf (b + 5 + k) (by lia) G;have e1:((b + 5 + k:Nat):Int)=(b:Int) + 5 + k:=by lia
  rw [e1] at h1;have fz:freeze G (.ok (.ref G.length) (G++ [.lst [.int 1,.int 64,.int 4096,.int 262144]]))=.ok (.fl [.int 1,.int 64,.int 4096,.int 262144]) G:=Fj rfl;unfold ZDB
  rcases (by lia:j=0∨j=1∨j=2∨j=3) with rfl | rfl | rfl | rfl <;> simp [h1,Av,fz,Uo]
theorem ZPN (hf:∀k:Nat,k<=1000->∀G,Bf [.fl (ns.map D.int),.int k] G=.ok (.int (f k)) G) (hb:b<=900) {p:Bool} (hj:j < 4):∃(lat:Int) (xs:Nat->Int),∀(G:DH) (bg:Int) (acc:List Ssn) (x y:Option D),acc.length<=10->bg < yr->∃bg' acc',
   Nb [some (.fl (ns.map D.int)),some (.int b),some (.int u),some (.bl p),some (.int yr),some (.ref G.length),some (.int bg),some (.int j),x,y] (G++ [.lst (acc.map Dk)])=
    .nx [some (.fl (ns.map D.int)),some (.int b),some (.int u),some (.bl p),some (.int yr),some (.ref G.length),some (.int bg'),some (.int j),some (.int lat),some (.fl (tab 4 xs))] (G++ [.lst (acc'.map Dk)])/\
   ((j=0∨(lat % 2=1/\bg + 1 < yr))->bg'=(if 0 < j then bg + 1 + lat / 2 % (yr - bg - 1) else bg)/\acc'=acc++ [(bg',stps xs u p)])/\
   (¬(j=0∨(lat % 2=1/\bg + 1 < yr))->bg'=bg/\acc'=acc):=by
 obtain ⟨tp,ht⟩:=ZF6 (ns:=ns);have h4:=hf (b + 4) (by lia);have e4:((b + 4:Nat):Int)=(b:Int) + 4:=by lia
 rw [e4] at h4;let lat:Int:=if tp then f (b + 4) / Qw j else f (b + 4) * 48271 * ((j:Int) * j + 1) % 10007
 let xs:Nat->Int:=if tp then λk=>f (b + 5 + k) / Uo j else λk=>f (b + 5 + (3 * j + k) % 6) / (1 + 7 * ((j:Int) / 2))
 refine ⟨lat,xs,λG bg acc x y ha hbg=> ?_⟩;have hr:inR 4:=Gg (by lia) (by lia);have hal:acc.length < 1000000:=by lia
 have fz:∀ds:List D,(∀m,bels m ds=true)->freeze (G++ [.lst (acc.map Dk)]) (.ok (.ref (G.length + 1)) (G++ [.lst (acc.map Dk),.lst ds]))=.ok (.fl ds) (G++ [.lst (acc.map Dk)]):=λds h=>ZAq (h _)
 have cs1:∀a b c d e f' g h i j':Option D,Bl 1 [0,1,7] [a,b,c,d,e,f',g,h,i,j']= [none,a,b,h]:=λ_ _ _ _ _ _ _ _ _ _=>rfl
 have mj:∀G,Bo (.int (j:Int)) (.int (j:Int)) G=.ok (.int ((j:Int) * j)) G:=λG=>Jy (by lia) (by lia)
 have mj2:∀G,Bo (.int (f (b + 4) * 48271)) (.int ((j:Int) * j + 1)) G=.ok (.int (f (b + 4) * 48271 * ((j:Int) * j + 1))) G:=λG=>Ku (by
   have:=j6 (show (0:Int)<=j by lia) (show (0:Int)<=j by lia);lia) (by
   rcases (by lia:j=0∨j=1∨j=2∨j=3) with rfl | rfl | rfl | rfl <;> decide)
 have head:Nb [some (.fl (ns.map D.int)),some (.int b),some (.int u),some (.bl p),some (.int yr),some (.ref G.length),some (.int bg),some (.int j),x,y] (G++ [.lst (acc.map Dk)])=
   Zd [some (.fl (ns.map D.int)),some (.int b),some (.int u),some (.bl p),some (.int yr),some (.ref G.length),some (.int bg),some (.int j),some (.int lat),some (.fl (tab 4 xs))] (G++ [.lst (acc.map Dk)]):=by
  unfold Nb ZJM ZFi;cases htp:tp with
  | false=>
   have e1:lat=f (b + 4) * 48271 * ((j:Int) * j + 1) % 10007:=by simp [lat,htp]
   have e2:xs=λk=>f (b + 5 + (3 * j + k) % 6) / (1 + 7 * ((j:Int) / 2)):=by simp [xs,htp]
   rw [e1,e2];rw [htp] at ht;simp [h4,mj,mj2,hr,cs1,ZHu hf hb hj,Av,fz,ht]
  | true=>
   have e1:lat=f (b + 4) / Qw j:=by simp [lat,htp]
   have e2:xs=λk=>f (b + 5 + k) / Uo j:=by simp [xs,htp]
   rw [e1,e2];rw [htp] at ht;have dv:atI [D.int 1,D.int 48,D.int 2304,D.int 110592] (j:Int)=some (.int (Qw j)):=by rcases (by lia:j=0∨j=1∨j=2∨j=3) with rfl | rfl | rfl | rfl <;> rfl
   have dd:∀G',Cy (.int (f (b + 4))) (.int (Qw j)) G'=.ok (.int (f (b + 4) / Qw j)) G':=λG'=>by rcases (by lia:j=0∨j=1∨j=2∨j=3) with rfl | rfl | rfl | rfl <;> simp [Qw]
   have fz4:freeze (G++ [.lst (acc.map Dk)]) (.ok (.ref (G.length + 1)) (G++ [.lst (acc.map Dk),.lst [D.int 1,D.int 48,D.int 2304,D.int 110592]]))=.ok (.fl [D.int 1,D.int 48,D.int 2304,D.int 110592]) (G++ [.lst (acc.map Dk)]):=ZAq rfl;simp [h4,mj,mj2,hr,cs1,ZHu hf hb hj,Av,fz,ht,fz4,dv,dd,ZO0 hf hb hj]
 rw [head]
 clear_value lat xs
 by_cases hc:j=0∨(lat % 2=1/\bg + 1 < yr)
 ·refine ⟨_,_,?_,λ_=>⟨rfl,rfl⟩,λz=>absurd hc z⟩;unfold Zd;by_cases h0:j=0
  ·subst h0;simp [ZIx,Bw,Dj,Ep,hal,Dk]
  ·have hc2:lat % 2=1/\bg + 1 < yr:=by
    rcases hc with z | z
    ·exact absurd z h0
    ·exact z
   have hj0:0 < j:=by lia
   have hp:0 < yr - bg - 1:=by lia
   have hp3:1 < yr - bg:=by lia
   simp [h0,hc2.1,hc2.2,hj0,hp3,ZIx,Bw,Dj,Ep,hal,Dk]
 ·refine ⟨bg,acc,?_,λz=>absurd z hc,λ_=>⟨rfl,rfl⟩⟩;have h0:¬j=0:=λz=>hc (.inl z)
  unfold Zd;by_cases h1:lat % 2=1
  ·have h2:¬bg + 1 < yr:=λz=>hc (.inr ⟨h1,z⟩)
   simp [h0,h1,h2]
  ·simp [h0,h1]
theorem ZBI {p:Bool} {lat:Nat->Int} {cel:Nat->Nat->Int}
  (hd:∀j:Nat,j < 4->∀(G:DH) (bg:Int) (acc:List Ssn) (x y:Option D),acc.length<=10->bg < yr->∃bg' acc',
   Nb [some (.fl (ns.map D.int)),some (.int b),some (.int u),some (.bl p),some (.int yr),some (.ref G.length),some (.int bg),some (.int j),x,y] (G++ [.lst (acc.map Dk)])=
    .nx [some (.fl (ns.map D.int)),some (.int b),some (.int u),some (.bl p),some (.int yr),some (.ref G.length),some (.int bg'),some (.int j),some (.int (lat j)),some (.fl (tab 4 (cel j)))] (G++ [.lst (acc'.map Dk)])/\
   ((j=0∨(lat j % 2=1/\bg + 1 < yr))->bg'=(if 0 < j then bg + 1 + lat j / 2 % (yr - bg - 1) else bg)/\acc'=acc++ [(bg',stps (cel j) u p)])/\
   (¬(j=0∨(lat j % 2=1/\bg + 1 < yr))->bg'=bg/\acc'=acc)) {G:DH}:∀(m j:Nat) (bg:Int) (acc:List Ssn) (x y z:Option D),j + m=4->acc.length<=j->bg < yr->∃x' y' z' w',
   Bp (gV 7) Nb (Cm j m) [some (.fl (ns.map D.int)),some (.int b),some (.int u),some (.bl p),some (.int yr),some (.ref G.length),some (.int bg),x,y,z] (G++ [.lst (acc.map Dk)])=
    .nx [some (.fl (ns.map D.int)),some (.int b),some (.int u),some (.bl p),some (.int yr),some (.ref G.length),x',y',z',w'] (G++ [.lst ((acc++Fo lat cel u p yr m j bg).map Dk)])
 | 0,j,bg,acc,x,y,z,e,ha,hb=>⟨some (.int bg),x,y,z,by rw [Pj,Ea];simp [Fo]⟩
 | m + 1,j,bg,acc,x,y,z,e,ha,hb=>by
  obtain ⟨bg',acc',h1,h2,h3⟩:=hd j (by lia) G bg acc y z (by lia) hb;have e1:((j:Int) + 1)=((j + 1:Nat):Int):=by lia
  by_cases hc:j=0∨(lat j % 2=1/\bg + 1 < yr)
  ·obtain ⟨r1,r2⟩:=h2 hc;have hbg:bg' < yr:=by
    rw [r1];split
    ·have h4:bg + 1 < yr:=by
      rcases hc with z | z
      ·lia
      ·exact z.2
     have h5:lat j / 2 % (yr - bg - 1) < yr - bg - 1:=jy _ (by lia);lia
    ·exact hb
   obtain ⟨x',y',z',w',ih⟩:=ZBI hd (G:=G) m (j + 1) bg' acc' (some (.int j)) (some (.int (lat j))) (some (.fl (tab 4 (cel j)))) (by lia) (by rw [r2];simp;lia) hbg;refine ⟨x',y',z',w',?_⟩;rw [Lk,Dp];simp only [Du,R.Dl,qY,h1,Dr];have er:Fo lat cel u p yr (m + 1) j bg=(bg',stps (cel j) u p)::Fo lat cel u p yr m (j + 1) bg':=by rw [r1];exact if_pos hc
   rw [e1,ih,r2,er];simp
  ·obtain ⟨r1,r2⟩:=h3 hc;obtain ⟨x',y',z',w',ih⟩:=ZBI hd (G:=G) m (j + 1) bg' acc' (some (.int j)) (some (.int (lat j))) (some (.fl (tab 4 (cel j)))) (by lia) (by rw [r2];lia) (by rw [r1];exact hb);refine ⟨x',y',z',w',?_⟩;rw [Lk,Dp];simp only [Du,R.Dl,qY,h1,Dr];rw [e1,ih,r2,r1]
   conv=>rhs;unfold Fo
   rw [if_neg hc]
structure RuleOk (yr:Int) (p:Bool) (r:List Ssn):Prop where
 good:∀s∈r,Good 0 s.2/\(p=false->∀t∈s.2,t.r=true)
 cons:∃st rest,r=(0,st)::rest
 asc:r.Pairwise (λa b:Ssn=>a.1 < b.1)
 yr:∀s∈r,0<=s.1/\s.1 < yr
 len:r.length<=4
theorem ZBy {lat:Nat->Int} {cel:Nat->Nat->Int} {u:Int} {p:Bool} {yr:Int}:∀(m j:Nat) (bg:Int),(Fo lat cel u p yr m j bg).length<=m
 | 0,_,_=>zW _
 | m + 1,j,bg=>by
  unfold Fo;split
  ·have:=ZBy (lat:=lat) (cel:=cel) (u:=u) (p:=p) (yr:=yr) m (j + 1) (if 0 < j then bg + 1 + lat j / 2 % (yr - bg - 1) else bg);simp only [qV];lia
  ·have:=ZBy (lat:=lat) (cel:=cel) (u:=u) (p:=p) (yr:=yr) m (j + 1) bg;lia
theorem ZGr (hf:∀k:Nat,k<=1000->∀G,Bf [.fl (ns.map D.int),.int k] G=.ok (.int (f k)) G) (hyr:1<=yr/\yr<=24) (cy:∀G,Jw [.fl (ns.map D.int)] G=.ok (.int yr) G) (hb:b<=900) (hu:0 < u) {p:Bool}:
  ∃r:List Ssn,RuleOk yr p r/\∀G,Y8 [.fl (ns.map D.int),.int b,.int u,.bl p] G=.ok (.tup (r.map Dk)) G:=by
 have ex:∀j:Nat,∃q:Int×(Nat->Int),j < 4->∀(G:DH) (bg:Int) (acc:List Ssn) (x y:Option D),acc.length<=10->bg < yr->∃bg' acc',
   Nb [some (.fl (ns.map D.int)),some (.int b),some (.int u),some (.bl p),some (.int yr),some (.ref G.length),some (.int bg),some (.int j),x,y] (G++ [.lst (acc.map Dk)])=
    .nx [some (.fl (ns.map D.int)),some (.int b),some (.int u),some (.bl p),some (.int yr),some (.ref G.length),some (.int bg'),some (.int j),some (.int q.1),some (.fl (tab 4 q.2))] (G++ [.lst (acc'.map Dk)])/\
   ((j=0∨(q.1 % 2=1/\bg + 1 < yr))->bg'=(if 0 < j then bg + 1 + q.1 / 2 % (yr - bg - 1) else bg)/\acc'=acc++ [(bg',stps q.2 u p)])/\
   (¬(j=0∨(q.1 % 2=1/\bg + 1 < yr))->bg'=bg/\acc'=acc):=λj=>by
  by_cases hj:j < 4
  ·obtain ⟨lat,xs,h⟩:=ZPN (u:=u) (yr:=yr) (p:=p) hf hb hj;exact ⟨(lat,xs),λ_=>h⟩
  ·exact ⟨(0,λ_=>0),λz=>absurd z hj⟩
 let lat:Nat->Int:=λj=>(ex j).choose.1
 let cel:Nat->Nat->Int:=λj=>(ex j).choose.2
 have hd:=λ(j:Nat) (hj:j < 4)=>(ex j).choose_spec hj
 refine ⟨Fo lat cel u p yr 4 0 0,⟨ZD4 hu 4 0 0,?_,?_,?_,ZBy 4 0 0⟩,λG=> ?_⟩
 ·unfold Fo;rw [if_pos (.inl rfl)];exact ⟨_,_,rfl⟩
 ·unfold Fo;rw [if_pos (.inl rfl)];obtain ⟨i1,i2⟩:=Xm (lat:=lat) (cel:=cel) (u:=u) (p:=p) (yr:=yr) 3 1 0 (by lia) (by lia);exact List.pairwise_cons.mpr ⟨λs hs=>(i1 s hs).1,i2⟩
 ·unfold Fo;rw [if_pos (.inl rfl)];obtain ⟨i1,i2⟩:=Xm (lat:=lat) (cel:=cel) (u:=u) (p:=p) (yr:=yr) 3 1 0 (by lia) (by lia);intro s hs;rcases zK.mp hs with rfl | hs
  ·exact ⟨qJ _,by show (0:Int) < yr;lia⟩
  ·have:=i1 s hs;lia
 ·obtain ⟨x',y',z',w',hL⟩:=ZBI (lat:=lat) (cel:=cel) hd (G:=G) 4 0 0 [] none none none (by lia) (by simp) (by lia);have hL':Bp (gV 7) Nb (Cm 0 4) [some (.fl (ns.map D.int)),some (.int b),some (.int u),some (.bl p),some (.int yr),some (.ref G.length),some (.int 0),none,none,none] (G++ [.lst []])=.nx [some (.fl (ns.map D.int)),some (.int b),some (.int u),some (.bl p),some (.int yr),some (.ref G.length),x',y',z',w'] (G++ [.lst ((Fo lat cel u p yr 4 0 0).map Dk)]):=hL
  have hr:inR 4:=Gg (by lia) (by lia);generalize Fo lat cel u p yr 4 0 0=rl at hL';unfold Y8 ZIs;rw [Bk];simp [cy,Av,Fb,hr,hL',Dj,Uq]
def ZAk:List Nat:=("abcdefghijklmnopqrstuvwxyz":Str).cps.toList
def ZC5:List Nat:=("abcdefghijkl":Str).cps.toList
theorem ZRd:∀i,i < 26->ZAk[i]? =some (97 + i):=by decide +kernel
theorem ZMi:∀i,i < 12->ZC5[i]? =some (97 + i):=by decide +kernel
def Ei (l:List Nat):Str:=⟨l.toArray⟩
theorem ZJd {l':List Nat} (h:Ei l=Ei l'):l=l':=by have h1:=congrArg (λs:Str=>s.cps.toList) h;simpa [Ei] using h1
theorem ZKm {l':List Nat}:Ei l++Ei l'=Ei (l++l'):=by show Str.append _ _=_;unfold Str.append Ei;simp
theorem ZJi {s:Str} (h:s.cps.toList=l):s=Ei l:=by obtain ⟨a⟩:=s;unfold Ei;simp only at h;rw [<-h]
theorem ZLi {o:Nat} {n:Int}:Ox ⟨#[o]⟩ n=Ei (zV n.toNat o):=by
 refine ZJi ?_;rw [ZLS];show (zV n.toNat [o]).flatten=_;generalize n.toNat=m
 induction m with
 | zero=>rfl
 | succ m ih=>rw [qZ,qC,ih,qZ];rfl
def ocF (c:Int):Nat:=97 + (c / 21 % 26).toNat
def tcF (c:Int) (k:Nat):Nat:=97 + ((5 * (k:Int) + c / 546) % 12).toNat
noncomputable def Gd (c:Int) (n k:Nat):List Nat:=if c % 3=1/\n < 9 then zV (k + 1) (ocF c) else if c % 3=2 then tcF c k::zV (c / 3 % 7).toNat (ocF c) else zV (c / 3 % 7).toNat (ocF c)++tcF c k::zV (6 - (c / 3 % 7)).toNat (ocF c)
theorem ZJ7 {n:Nat} (hn:n<=12) (hk:k < n) (G:DH):Xp [.int c,.int k,.int n] G=.ok (.str (Ei (Gd c n k))) G:=by
 have a1:atI ZAk (c / 21 % 26)=some (ocF c):=Eo (k:=(c / 21 % 26).toNat) (by lia) (ZRd _ (by lia));have a2:atI ZC5 ((5 * (k:Int) + c / 546) % 12)=some (tcF c k):=Eo (k:=((5 * (k:Int) + c / 546) % 12).toNat) (by lia) (ZMi _ (by lia));have l1:("abcdefghijklmnopqrstuvwxyz":Str).length<=1000000:=by decide +kernel
 have l2:("abcdefghijkl":Str).length<=1000000:=by decide +kernel
 have ho:∀m:Int,-1000<=m->m<=1000->∀G,Bo (.str ⟨#[ocF c]⟩) (.int m) G=.ok (.str (Ei (zV m.toNat (ocF c)))) G:=λm h1 h2 G=>by rw [ZKs ⟨h1,h2,by show (#[ocF c]).size<=1000;simp⟩,ZLi]
 have e1:∀G,Aj (.str ("abcdefghijklmnopqrstuvwxyz":Str)) (.int (c / 21 % 26)) G=R.ok (.str ⟨#[ocF c]⟩) G:=λG=>by
  rw [Q5,if_pos l1]
  show (match atI ZAk (c / 21 % 26) with | some c=>R.ok (sgn c) G | none=>.bad)=_
  rw [a1]
  rfl
 have e2:∀G,Aj (.str ("abcdefghijkl":Str)) (.int ((5 * (k:Int) + c / 546) % 12)) G=R.ok (.str (Ei [tcF c k])) G:=λG=>by
  rw [Q5,if_pos l2]
  show (match atI ZC5 ((5 * (k:Int) + c / 546) % 12) with | some c=>R.ok (sgn c) G | none=>.bad)=_
  rw [a2]
  rfl
 have hadd:∀(l l':List Nat) (G:DH),l.length + l'.length<=1000000->Ba (.str (Ei l)) (.str (Ei l')) G=.ok (.str (Ei (l++l'))) G:=λl l' G h=>by
  have e:Ba (.str (Ei l)) (.str (Ei l')) G=if (Ei l).length + (Ei l').length<=1000000 then .ok (.str (Ei l++Ei l')) G else .bad:=rfl
  rw [e,if_pos (by show l.toArray.size + l'.toArray.size<=1000000;simpa using h),ZKm]
 unfold Xp ZGZ;rw [Bk];by_cases h1:c % 3=1
 ·by_cases h9:n < 9
  ·have en:Gd c n k=zV (k + 1) (ocF c):=if_pos ⟨h1,h9⟩;have hk2:=ho ((k:Int) + 1) (by lia) (by lia);have ek:((k:Int) + 1).toNat=k + 1:=by lia
   rw [ek] at hk2;rw [en];have h9':(n:Int) < 9:=by lia
   simp [-Q5,e1,h1,h9',hk2,Bh]
  ·have en:Gd c n k=zV (c / 3 % 7).toNat (ocF c)++tcF c k::zV (6 - (c / 3 % 7)).toNat (ocF c):=by unfold Gd;rw [if_neg (λz=>h9 z.2),if_neg (by lia)]
   have r1:=ho (c / 3 % 7) (by lia) (by lia);have r2:=ho (6 - (c / 3 % 7)) (by lia) (by lia);have d1:=λG=>hadd (zV (c / 3 % 7).toNat (ocF c)) [tcF c k] G (by simp;lia)
   have d2:=λG=>hadd (zV (c / 3 % 7).toNat (ocF c)++ [tcF c k]) (zV (6 - (c / 3 % 7)).toNat (ocF c)) G (by simp;lia)
   have ea:zV (c / 3 % 7).toNat (ocF c)++ [tcF c k]++zV (6 - (c / 3 % 7)).toNat (ocF c)=Gd c n k:=by rw [en];simp
   rw [ea] at d2;have h9':¬(n:Int) < 9:=by lia
   simp [-Q5,e1,e2,h1,h9',r1,r2,d1,d2,Bh]
 ·by_cases h2:c % 3=2
  ·have en:Gd c n k=tcF c k::zV (c / 3 % 7).toNat (ocF c):=by unfold Gd;rw [if_neg (λz=>h1 z.1),if_pos h2]
   have r1:=ho (c / 3 % 7) (by lia) (by lia);have d1:=λG=>hadd [tcF c k] (zV (c / 3 % 7).toNat (ocF c)) G (by simp;lia)
   have ea: [tcF c k]++zV (c / 3 % 7).toNat (ocF c)=Gd c n k:=by rw [en];rfl
   rw [ea] at d1;simp [-Q5,e1,e2,h2,r1,d1,Bh]
  ·have en:Gd c n k=zV (c / 3 % 7).toNat (ocF c)++tcF c k::zV (6 - (c / 3 % 7)).toNat (ocF c):=by unfold Gd;rw [if_neg (λz=>h1 z.1),if_neg h2]
   have r1:=ho (c / 3 % 7) (by lia) (by lia);have r2:=ho (6 - (c / 3 % 7)) (by lia) (by lia);have d1:=λG=>hadd (zV (c / 3 % 7).toNat (ocF c)) [tcF c k] G (by simp;lia)
   have d2:=λG=>hadd (zV (c / 3 % 7).toNat (ocF c)++ [tcF c k]) (zV (6 - (c / 3 % 7)).toNat (ocF c)) G (by simp;lia)
   have ea:zV (c / 3 % 7).toNat (ocF c)++ [tcF c k]++zV (6 - (c / 3 % 7)).toNat (ocF c)=Gd c n k:=by rw [en];simp
   rw [ea] at d2;simp [-Q5,e1,e2,h1,h2,r1,r2,d1,d2,Bh]
theorem ZFa {k':Nat} (hk:k < 12) (hk':k' < 12) (h:tcF c k=tcF c k'):k=k':=by unfold tcF at h;omega +splitNatSub
theorem ZPG {n k':Nat} (hn:n<=12) (hk:k < n) (hk':k' < n) (h:Gd c n k=Gd c n k'):k=k':=by
 unfold Gd at h;split at h
 ·have:=congrArg jU h;simp at this;exact this
 ·split at h
  ·exact ZFa (by lia) (by lia) (List.cons.inj h).1
  ·have:=List.append_cancel_left h;exact ZFa (by lia) (by lia) (List.cons.inj this).1
theorem ZQV:("sea":Str)=Ei [115,101,97]:=by decide +kernel
theorem ZO8 {n:Nat}:Ei (Gd c n k)≠"sea":=λh=>by
 rw [ZQV] at h;have h:=ZJd h;unfold Gd at h;split at h
 ·have h1:∀x∈ [115,101,97],x=ocF c:=λx hx=>by rw [<-h] at hx;exact List.eq_of_mem_replicate hx
  have a:=h1 115 (by simp);have b:=h1 101 (by simp);lia
 ·split at h
  ·have:=(List.cons.inj h).1;unfold tcF at this;lia
  ·have:=congrArg jU h;simp at this;lia
theorem Tn {te:DE} {S:DSt} {E:α->D} {F:α->D} {G:DH}:∀{l:List α},(∀a∈l,te (S.set 0 (some (E a))) G=.ok (F a) G)->Dy (gV 0) Ck te S (l.map E) G=.ok (l.map F) G
 | [],_=>rfl
 | a::l,h=>by
  have h1:=h a (by simp);have ih:=Tn (te:=te) (S:=S) (E:=E) (F:=F) (G:=G) (l:=l) λb hb=>h b (zZ _ hb)
  rw [zA,ZA1];simp [h1,ih]
def De (nm:Nat->Str) (n:Nat):List D:=(zj n).map λk=>.str (nm k)
theorem Zo {n:Nat} (h:k < n):atI (De nm n) (k:Int)=some (.str (nm k)):=Eo rfl (by simp [De,h])
theorem Wr {n:Nat}:(De nm n).length=n:=by simp [De]
@[simp] theorem ZKn {n:Nat}:bels m (De nm n)=true:=Gi λ_ _=>rfl
noncomputable def Kh (nm:Nat->Str):Option (Nat×Nat×Int)->D
 | none=>.non
 | some (to,dl,m)=>.tup [.str (nm to),.int dl,.int m]
@[simp] theorem ZSZ:bel m (Kh nm q)=true:=by
 cases q with
 | none=>rfl
 | some q=>obtain ⟨a,b,c⟩:=q;simp [Kh]
theorem ZPo (hf:∀k:Nat,k<=1000->∀G,Bf [.fl (ns.map D.int),.int k] G=.ok (.int (f k)) G) (hyr:1<=yr/\yr<=24) (cy:∀G,Jw [.fl (ns.map D.int)] G=.ok (.int yr) G) (hu:0 < u) (cu:∀G,Gs [.fl (ns.map D.int)] G=.ok (.int u) G) {n:Nat} (hb:b<=900) (hk:k < n) (hn:n<=12) {d:Str} {dl:Int}:
  ∃(r:List Ssn) (q:Option (Nat×Nat×Int)),RuleOk yr q.isSome r/\(∀to dl m,q=some (to,dl,m)->to < n/\1<=dl/\dl<=5)/\
   ∀G,Vf [.fl (ns.map D.int),.int b,.int k,.fl (De nm n),.tup [.str d,.int dl]] G=.ok (.tup [.str "basin",.str (nm k),.str d,.int dl,.int (amt (f (b + 3)) u),.tup (r.map Dk),Kh nm q]) G:=by
 have h11:∀G,Bf [.fl (ns.map D.int),.int ((b:Int) + 11)] G=.ok (.int (f (b + 11))) G:=λG=>by have:=hf (b + 11) (by lia) G;rwa [show ((b + 11:Nat):Int)=(b:Int) + 11 by lia] at this
 have h3:∀G,Bf [.fl (ns.map D.int),.int ((b:Int) + 3)] G=.ok (.int (f (b + 3))) G:=λG=>by have:=hf (b + 3) (by lia) G;rwa [show ((b + 3:Nat):Int)=(b:Int) + 3 by lia] at this
 have ak:atI (De nm n) (k:Int)=some (.str (nm k)):=Zo hk;have fu:∀G,freeze G (.ok (.int u) G)=.ok (.int u) G:=λG=>Mr rfl
 generalize f (b + 11)=c at h11;by_cases hp:1 < n/\c % 2=1
 ·obtain ⟨r,hr,cr⟩:=ZGr (ns:=ns) (f:=f) hf hyr cy hb hu (p:=true);obtain ⟨st,rest,er⟩:=hr.cons;have hx0:0<=c / 2 % ((n:Int) - 1):=jW _ (by lia);have ht0:0<=((k:Int) + 1 + c / 2 % ((n:Int) - 1)) % n:=jW _ (by lia);have ht1:((k:Int) + 1 + c / 2 % ((n:Int) - 1)) % n < n:=jy _ (by lia);generalize ht:((k:Int) + 1 + c / 2 % ((n:Int) - 1)) % n=t at ht0 ht1;have at_:atI (De nm n) t=some (.str (nm t.toNat)):=by have:=Zo (nm:=nm) (n:=n) (k:=t.toNat) (by lia);rwa [show ((t.toNat:Nat):Int)=t by lia] at this
  have mx:∀G,Ro [.fl (r.map λs=>.int (Ij s.2))] G=.ok (.int ((rest.map λs=>Ij s.2).foldl max (Ij st))) G:=λG=>ZPj (by rw [er];simp [By])
  have m2:∀G,Bo (.int u) (.int (c / 130 % 2)) G=.ok (.int (u * (c / 130 % 2))) G:=λG=>Ku (by lia) (by lia)
  have cp:∀(G:DH),Dy (gV 0) Ck ZBu [none] (r.map Dk) G=.ok (r.map λs=>.int (Ij s.2)) G:=λG=>Tn λs _=>by unfold ZBu;simp [Dk,ZOW]
  have fz:∀G:DH,freeze G (.ok (.ref G.length) (G++ [.lst (r.map λs=>.int (Ij s.2))]))=.ok (.fl (r.map λs=>.int (Ij s.2))) G:=λG=>Fj (Gi λ_ _=>rfl)
  have hd:((1 + c / 26 % 5).toNat:Int)=1 + c / 26 % 5:=by lia
  refine ⟨r,some (t.toNat,(1 + c / 26 % 5).toNat,(rest.map λs=>Ij s.2).foldl max (Ij st) + u * (c / 130 % 2)),hr,?_,λG=> ?_⟩
  ·intro to dl m e;cases e;lia
  ·have h1:(1:Int) < n:=by lia
   have h1':0 < (n:Int) - 1:=by lia
   have hn0:0 < (n:Int):=by lia
   have hn0':0 < n:=by lia
   have hrl:r.length<=1000000:=by have:=hr.len;lia
   unfold Vf ZAx;rw [Bk];simp [hrl,cu,fu,h11,Wr,hp.1,hp.2,h1,h1',hn0,hn0',cr,cp,Bl,fz,mx,m2,ht,at_,Bw,h3,Qk hu,ak,Bh,Kh,hd]
 ·obtain ⟨r,hr,cr⟩:=ZGr (ns:=ns) (f:=f) hf hyr cy hb hu (p:=false)
  refine ⟨r,none,hr,(λto dl m e=>nomatch e),λG=> ?_⟩
  unfold Vf ZAx;rw [Bk];by_cases h1:1 < n
  ·have h2:¬c % 2=1:=λz=>hp ⟨h1,z⟩
   have h1':(1:Int) < n:=by lia
   simp [cu,fu,h11,Wr,h1,h1',h2,cr,Bw,h3,Qk hu,ak,Bh,Kh]
  ·have h1':¬(1:Int) < n:=by lia
   simp [cu,fu,h11,Wr,h1,h1',cr,Bw,h3,Qk hu,ak,Bh,Kh]
def dnS (nm:Nat->Str):Option Nat->Str
 | none=>"sea"
 | some d=>nm d
noncomputable def Ih (nm:Nat->Str) (p:Pl):D:=match p.kd with
 | .basin b r q=>.tup [.str "basin",.str p.nm,.str (dnS nm p.dn),.int p.dl,.int b,.tup (r.map Dk),Kh nm q]
 | .town a b=>.tup [.str "town",.str p.nm,.str (dnS nm p.dn),.int p.dl,.int a,.int b]
 | .mill a=>.tup [.str "mill",.str p.nm,.str (dnS nm p.dn),.int p.dl,.int a]
structure PlOk (yr:Int) (nm:Nat->Str) (n k:Nat) (p:Pl):Prop where
 nm:p.nm=nm k
 dn:∀d,p.dn=some d->k < d/\d < n
 dl:p.dl<=5
 basin:∀b r q,p.kd=.basin b r q->0<=b/\RuleOk yr q.isSome r/\∀to dl m,q=some (to,dl,m)->to < n/\1<=dl/\dl<=5
 town:∀a b,p.kd=.town a b->0<=a/\0<=b
 mill:∀a,p.kd=.mill a->0<=a
theorem ZNc (hf:∀k:Nat,k<=1000->∀G,Bf [.fl (ns.map D.int),.int k] G=.ok (.int (f k)) G) (hyr:1<=yr/\yr<=24) (cy:∀G,Jw [.fl (ns.map D.int)] G=.ok (.int yr) G) (hu:0 < u) (cu:∀G,Gs [.fl (ns.map D.int)] G=.ok (.int u) G) (cdn:∀G,G8 [.fl (ns.map D.int)] G=.ok (.bl dns) G) {n:Nat} (hk:k < n) (hn:n<=12) :
  ∃p:Pl,PlOk yr nm n k p/\∀(G:DH) (acc:List D) (x6 x7 x8 x9 x10 x11 x12:Option D),acc.length<=20->∃y6 y7 y8 y9 y10 y11 y12,
   Kr [some (.fl (ns.map D.int)),some (.int c),some (.int n),some (.fl (De nm n)),some (.int k),some (.ref G.length),x6,x7,x8,x9,x10,x11,x12] (G++ [.lst acc])=
    .nx [some (.fl (ns.map D.int)),some (.int c),some (.int n),some (.fl (De nm n)),some (.int k),some (.ref G.length),y6,y7,y8,y9,y10,y11,y12] (G++ [.lst (acc++ [Ih nm p])]):=by
 have hc:∀j:Nat,j<=11->∀G,Bf [.fl (ns.map D.int),.int (((6 + 12 * k:Nat):Int) + j)] G=.ok (.int (f (6 + 12 * k + j))) G:=λj hj G=>by have:=hf (6 + 12 * k + j) (by lia) G;rwa [show ((6 + 12 * k + j:Nat):Int)=((6 + 12 * k:Nat):Int) + j by lia] at this
 have hb:6 + 12 * k<=900:=by lia
 have e6:(6 + 12 * (k:Int))=((6 + 12 * k:Nat):Int):=by lia
 have m12:∀G,Bo (.int 12) (.int (k:Int)) G=.ok (.int (12 * (k:Int))) G:=λG=>Jy (by lia) (by lia)
 have h0:∀G,Bf [.fl (ns.map D.int),.int ((6 + 12 * k:Nat):Int)] G=.ok (.int (f (6 + 12 * k))) G:=hf _ (by lia);have h1:∀G,Bf [.fl (ns.map D.int),.int (((6 + 12 * k:Nat):Int) + 1)] G=.ok (.int (f (6 + 12 * k + 1))) G:=hc 1 (by lia);have h2:∀G,Bf [.fl (ns.map D.int),.int (((6 + 12 * k:Nat):Int) + 2)] G=.ok (.int (f (6 + 12 * k + 2))) G:=hc 2 (by lia);have h3:∀G,Bf [.fl (ns.map D.int),.int (((6 + 12 * k:Nat):Int) + 3)] G=.ok (.int (f (6 + 12 * k + 3))) G:=hc 3 (by lia)
 have h4:∀G,Bf [.fl (ns.map D.int),.int (((6 + 12 * k:Nat):Int) + 4)] G=.ok (.int (f (6 + 12 * k + 4))) G:=hc 4 (by lia);have ak:atI (De nm n) (k:Int)=some (.str (nm k)):=Zo hk;have fu:∀G,freeze G (.ok (.int u) G)=.ok (.int u) G:=λG=>Mr rfl
 have cb:=λd dl=>ZPo (nm:=nm) (d:=d) (dl:=dl) hf hyr cy hu cu hb hk hn
 generalize 6 + 12 * k=b at hc hb e6 h0 h1 h2 h3 h4 cb;obtain ⟨s,hs0,hs1,hs⟩:∃s:Int,0<=s/\s < (n:Int) - k/\∀(H:DH) (x5 x7 x8 x9 x10 x11 x12:Option D),Yh [some (.fl (ns.map D.int)),some (.int c),some (.int n),some (.fl (De nm n)),some (.int k),x5,some (.int b),x7,x8,x9,x10,x11,x12] H=
   Tg [some (.fl (ns.map D.int)),some (.int c),some (.int n),some (.fl (De nm n)),some (.int k),x5,some (.int b),some (.int s),x8,x9,x10,x11,x12] H:=by
  have hm:0 < (n:Int) - k:=by lia
  have hm':(k:Int) < n:=by lia
  by_cases hw:c / 280 % 3=1∨dns=true
  ·refine ⟨min 1 ((n:Int) - 1 - k),by lia,by lia,λH x5 x7 x8 x9 x10 x11 x12=> ?_⟩;unfold Yh ZCe;by_cases hw1:c / 280 % 3=1
   ·simp [h1,hm,hm',hk,hw1]
   ·have hw2:dns=true:=by
     rcases hw with z | z
     ·exact absurd z hw1
     ·exact z
    simp [h1,hm,hm',hk,hw1,cdn,hw2]
  ·refine ⟨f (b + 1) % ((n:Int) - k),jW _ (by lia),jy _ hm,λH x5 x7 x8 x9 x10 x11 x12=> ?_⟩;have hw1:¬c / 280 % 3=1:=λz=>hw (.inl z)
   have hw2:dns=false:=by
    cases dns with
    | false=>rfl
    | true=>exact absurd (.inr rfl) hw
   unfold Yh ZCe;simp [h1,hm,hm',hk,hw1,cdn,hw2]
 obtain ⟨dn,dl,hdn,hdl,hr⟩:∃(dn:Option Nat) (dl:Nat),(∀d,dn=some d->k < d/\d < n)/\dl<=5/\∀(H:DH) (x5 x8 x9 x10 x11 x12:Option D),Tg [some (.fl (ns.map D.int)),some (.int c),some (.int n),some (.fl (De nm n)),some (.int k),x5,some (.int b),some (.int s),x8,x9,x10,x11,x12] H=
   Uh [some (.fl (ns.map D.int)),some (.int c),some (.int n),some (.fl (De nm n)),some (.int k),x5,some (.int b),some (.int s),some (.int (f (b + 2))),some (.tup [.str (dnS nm dn),.int dl]),x10,x11,x12] H:=by
  have hd:((f (b + 2) % 2 * (f (b + 2) / 2 % 6)).toNat:Int)=f (b + 2) % 2 * (f (b + 2) / 2 % 6)/\(f (b + 2) % 2 * (f (b + 2) / 2 % 6)).toNat<=5:=by rcases (by lia:f (b + 2) % 2=0∨f (b + 2) % 2=1) with z | z <;> rw [z] <;> lia
  have md:∀G,Bo (.int (f (b + 2) % 2)) (.int (f (b + 2) / 2 % 6)) G=.ok (.int (f (b + 2) % 2 * (f (b + 2) / 2 % 6))) G:=λG=>Ku (by lia) (by lia)
  generalize f (b + 2) % 2 * (f (b + 2) / 2 % 6)=w at hd md;by_cases hp:0 < s
  ·have a2:atI (De nm n) ((k:Int) + s)=some (.str (nm (k + s.toNat))):=by have:=Zo (nm:=nm) (n:=n) (k:=k + s.toNat) (by lia);rwa [show ((k + s.toNat:Nat):Int)=(k:Int) + s by lia] at this
   refine ⟨some (k + s.toNat),w.toNat,λd e=>by cases e;lia,hd.2,λH x5 x8 x9 x10 x11 x12=> ?_⟩;unfold Tg ZCH ZCC;simp [h2,md,hp,a2,Bw,dnS,hd.1]
  ·refine ⟨none,w.toNat,(λd e=>nomatch e),hd.2,λH x5 x8 x9 x10 x11 x12=> ?_⟩
   unfold Tg ZCH ZCC;simp [h2,md,hp,Bw,dnS,hd.1]
 obtain ⟨kn,hkn⟩:∃kn:Int,∀(H:DH) (x5 x7 x8 x9 x10 x11 x12:Option D),Uh [some (.fl (ns.map D.int)),some (.int c),some (.int n),some (.fl (De nm n)),some (.int k),x5,some (.int b),x7,x8,x9,x10,x11,x12] H=
   Yy [some (.fl (ns.map D.int)),some (.int c),some (.int n),some (.fl (De nm n)),some (.int k),x5,some (.int b),x7,x8,x9,some (.int kn),x11,x12] H:=by
  have fz:∀G:DH,freeze G (.ok (.ref G.length) (G++ [.lst [.int 2,.int 3,.int 2,.int 3,.int 4]]))=.ok (.fl [.int 2,.int 3,.int 2,.int 3,.int 4]) G:=λG=>Fj rfl
  cases hdn2:dns with
  | false=>
   refine ⟨f b % 5,λH x5 x7 x8 x9 x10 x11 x12=> ?_⟩;unfold Uh ZCQ;simp [h0,cdn,hdn2]
  | true=>
   obtain ⟨v,hv⟩:∃v:Int,atI [D.int 2,.int 3,.int 2,.int 3,.int 4] (f b % 5)=some (.int v):=by rcases (by lia:f b % 5=0∨f b % 5=1∨f b % 5=2∨f b % 5=3∨f b % 5=4) with z | z | z | z | z <;> rw [z] <;> exact ⟨_,rfl⟩
   refine ⟨v,λH x5 x7 x8 x9 x10 x11 x12=> ?_⟩;unfold Uh ZCQ;simp [h0,cdn,hdn2,Av,fz,hv]
 obtain ⟨rk,hrk,hk2'⟩:∃rk:Int,0<=rk/\∀(H:DH) (x5 x7 x8 x9 x10 x11 x12:Option D),Yy [some (.fl (ns.map D.int)),some (.int c),some (.int n),some (.fl (De nm n)),some (.int k),x5,some (.int b),x7,x8,x9,x10,x11,x12] H=
   Sw [some (.fl (ns.map D.int)),some (.int c),some (.int n),some (.fl (De nm n)),some (.int k),x5,some (.int b),x7,x8,x9,x10,some (.int (amt (f (b + 3)) u)),some (.int rk)] H:=by
  have fz:∀G:DH,freeze G (.ok (.ref G.length) (G++ [.lst [.int 4,.int 10000000000000000000000000000000000000000]]))=.ok (.fl [.int 4,.int 10000000000000000000000000000000000000000]) G:=λG=>Fj rfl
  have m0:∀x:Int,x=0∨x=1->∀y:Int,y=0∨y=1->∀G,Bo (.int x) (.int y) G=.ok (.int (x * y)) G:=λx hx y hy G=>Jy (by lia) (by lia)
  obtain ⟨v,hv0,hv⟩:∃v:Int,0 < v/\∀(S:DSt) (H:DH),S[0]? =some (some (.fl (ns.map D.int)))->S[1]? =some (some (.int c))->dOp Aj (Br (dFn Av (Ab (dC (.int 4)) (Ab (dOp Jg (dC (.int 10)) (dC (.int 40))) Ad)))) (dOp Bo (dOp Be (dOp Cy (dV 1) (dC (.int 840))) (dC (.int 2))) (dFn K5 (Ab (My (dFn G8 (Ab (dV 0) Ad))) Ad))) S H=.ok (.int v) H:=by
   obtain ⟨t,ht⟩:∃t:Int,c / 840 % 2=t:=⟨_,rfl⟩;have ht':t=0∨t=1:=by lia
   have e1:∀(S:DSt) (H:DH),S[0]? =some (some (.fl (ns.map D.int)))->S[1]? =some (some (.int c))->dOp Bo (dOp Be (dOp Cy (dV 1) (dC (.int 840))) (dC (.int 2))) (dFn K5 (Ab (My (dFn G8 (Ab (dV 0) Ad))) Ad)) S H=.ok (.int (t * (if dns=true then 0 else 1))) H:=λS H z0 z1=>by
    cases hdn2:dns with
    | true=>simp [ht,cdn,hdn2,m0 t ht' 0 (.inl rfl),dV,z0,z1]
    | false=>simp [ht,cdn,hdn2,m0 t ht' 1 (.inr rfl),dV,z0,z1]
   obtain ⟨v,hv0,hv⟩:∃v:Int,0 < v/\atI [D.int 4,.int 10000000000000000000000000000000000000000] (t * (if dns=true then 0 else 1))=some (.int v):=by rcases ht' with z | z <;> subst z <;> cases dns <;> exact ⟨_,by decide,rfl⟩
   refine ⟨v,hv0,λS H z0 z1=> ?_⟩;generalize (dOp Bo (dOp Be (dOp Cy (dV 1) (dC (.int 840))) (dC (.int 2))) (dFn K5 (Ab (My (dFn G8 (Ab (dV 0) Ad))) Ad)))=te at e1;simp [Av,fz,hv,e1 S _ z0 z1]
  refine ⟨f (b + 4) % v,jW _ (by lia),λH x5 x7 x8 x9 x10 x11 x12=> ?_⟩;unfold Yy ZJp;generalize dOp Aj (Br (dFn Av (Ab (dC (.int 4)) (Ab (dOp Jg (dC (.int 10)) (dC (.int 40))) Ad)))) (dOp Bo (dOp Be (dOp Cy (dV 1) (dC (.int 840))) (dC (.int 2))) (dFn K5 (Ab (My (dFn G8 (Ab (dV 0) Ad))) Ad)))=te at hv;simp [h3,h4,cu,fu,Qk hu,hv,hv0]
 have hal:∀acc:List D,acc.length<=20->acc.length < 1000000:=λacc h=>by lia
 have go:∀p:Pl,(∀(G:DH) (acc:List D),acc.length<=20->
   Sw [some (.fl (ns.map D.int)),some (.int c),some (.int n),some (.fl (De nm n)),some (.int k),some (.ref G.length),some (.int b),some (.int s),some (.int (f (b + 2))),some (.tup [.str (dnS nm dn),.int dl]),some (.int kn),some (.int (amt (f (b + 3)) u)),some (.int rk)] (G++ [.lst acc])=
    .nx [some (.fl (ns.map D.int)),some (.int c),some (.int n),some (.fl (De nm n)),some (.int k),some (.ref G.length),some (.int b),some (.int s),some (.int (f (b + 2))),some (.tup [.str (dnS nm dn),.int dl]),some (.int kn),some (.int (amt (f (b + 3)) u)),some (.int rk)] (G++ [.lst (acc++ [Ih nm p])]))->
   ∀(G:DH) (acc:List D) (x6 x7 x8 x9 x10 x11 x12:Option D),acc.length<=20->∃y6 y7 y8 y9 y10 y11 y12,
   Kr [some (.fl (ns.map D.int)),some (.int c),some (.int n),some (.fl (De nm n)),some (.int k),some (.ref G.length),x6,x7,x8,x9,x10,x11,x12] (G++ [.lst acc])=
    .nx [some (.fl (ns.map D.int)),some (.int c),some (.int n),some (.fl (De nm n)),some (.int k),some (.ref G.length),y6,y7,y8,y9,y10,y11,y12] (G++ [.lst (acc++ [Ih nm p])]):=λp h9 G acc x6 x7 x8 x9 x10 x11 x12 ha=>by
  refine ⟨some (.int b),some (.int s),some (.int (f (b + 2))),some (.tup [.str (dnS nm dn),.int dl]),some (.int (kn)),some (.int (amt (f (b + 3)) u)),some (.int rk),?_⟩
  ·unfold Kr;have e:(sAs (dOp Ba (dC (.int 6)) (dOp Bo (dC (.int 12)) (dV 4))) (gV 6)) [some (.fl (ns.map D.int)),some (.int c),some (.int n),some (.fl (De nm n)),some (.int k),some (.ref G.length),x6,x7,x8,x9,x10,x11,x12] (G++ [.lst acc])=.nx [some (.fl (ns.map D.int)),some (.int c),some (.int n),some (.fl (De nm n)),some (.int k),some (.ref G.length),some (.int b),x7,x8,x9,x10,x11,x12] (G++ [.lst acc]):=by simp [m12,e6]
   rw [Ws,e,W9,hs,hr,hkn,hk2'];exact h9 G acc ha
 by_cases hk1:kn < 2
 ·obtain ⟨r,q,hr1,hq,cr⟩:=cb (dnS nm dn) dl
  refine ⟨⟨nm k,dn,dl,.basin (amt (f (b + 3)) u) r q⟩,⟨rfl,hdn,hdl,λb' r' q' e=> ?_,(λ_ _ e=>nomatch e),(λ_ e=>nomatch e)⟩,go _ λG acc ha=> ?_⟩
  ·cases e;exact ⟨Yz hu,hr1,hq⟩
  ·have fr:∀G:DH,freeze G (.ok (.tup [.str "basin",.str (nm k),.str (dnS nm dn),.int dl,.int (amt (f (b + 3)) u),.tup (r.map Dk),Kh nm q]) G)=.ok (.tup [.str "basin",.str (nm k),.str (dnS nm dn),.int dl,.int (amt (f (b + 3)) u),.tup (r.map Dk),Kh nm q]) G:=λG=>Mr (by simp)
   unfold Sw;simp [hk1,cr,fr,Dj,Ep,hal acc ha,Ih]
 ·by_cases hk3:kn < 4
  ·refine ⟨⟨nm k,dn,dl,.town (amt (f (b + 3)) u) rk⟩,⟨rfl,hdn,hdl,(λ_ _ _ e=>nomatch e),λa b' e=> ?_,(λ_ e=>nomatch e)⟩,go _ λG acc ha=> ?_⟩
   ·cases e;exact ⟨Yz hu,hrk⟩
   ·unfold Sw;simp [hk1,hk3,ak,Bw,Dj,Ep,hal acc ha,Ih]
  ·refine ⟨⟨nm k,dn,dl,.mill (amt (f (b + 3)) u)⟩,⟨rfl,hdn,hdl,(λ_ _ _ e=>nomatch e),(λ_ _ e=>nomatch e),λa e=> ?_⟩,go _ λG acc ha=> ?_⟩
   ·cases e;exact Yz hu
   ·unfold Sw;simp [hk1,hk3,ak,Bw,Dj,Ep,hal acc ha,Ih]
theorem ZF8 {n:Nat} {P:Nat->Pl} 
  (hd:∀k,k < n->∀(acc:List D) (x6 x7 x8 x9 x10 x11 x12:Option D),acc.length<=20->∃y6 y7 y8 y9 y10 y11 y12,
   Kr [some (.fl (ns.map D.int)),some (.int c),some (.int n),some (.fl (De nm n)),some (.int k),some (.ref G.length),x6,x7,x8,x9,x10,x11,x12] (G++ [.lst acc])=
    .nx [some (.fl (ns.map D.int)),some (.int c),some (.int n),some (.fl (De nm n)),some (.int k),some (.ref G.length),y6,y7,y8,y9,y10,y11,y12] (G++ [.lst (acc++ [Ih nm (P k)])])):
  ∀(m k:Nat) (acc:List D) (x4 x6 x7 x8 x9 x10 x11 x12:Option D),k + m=n->acc.length + m<=20->∃y4 y6 y7 y8 y9 y10 y11 y12,
   Bp (gV 4) Kr (Cm k m) [some (.fl (ns.map D.int)),some (.int c),some (.int n),some (.fl (De nm n)),x4,some (.ref G.length),x6,x7,x8,x9,x10,x11,x12] (G++ [.lst acc])=
    .nx [some (.fl (ns.map D.int)),some (.int c),some (.int n),some (.fl (De nm n)),y4,some (.ref G.length),y6,y7,y8,y9,y10,y11,y12] (G++ [.lst (acc++(List.range' k m).map λi=>Ih nm (P i))])
 | 0,k,acc,x4,x6,x7,x8,x9,x10,x11,x12,e,ha=>⟨x4,x6,x7,x8,x9,x10,x11,x12,by rw [Pj,Ea];simp⟩
 | m + 1,k,acc,x4,x6,x7,x8,x9,x10,x11,x12,e,ha=>by
  obtain ⟨y6,y7,y8,y9,y10,y11,y12,hb⟩:=hd k (by lia) acc x6 x7 x8 x9 x10 x11 x12 (by lia);obtain ⟨z4,z6,z7,z8,z9,z10,z11,z12,ih⟩:=ZF8 hd m (k + 1) (acc++ [Ih nm (P k)]) (some (.int k)) y6 y7 y8 y9 y10 y11 y12 (by lia) (by simp;lia);refine ⟨z4,z6,z7,z8,z9,z10,z11,z12,?_⟩;rw [Lk,Dp];simp only [Du,R.Dl,qY,hb,Dr];have e1:((k:Int) + 1)=((k + 1:Nat):Int):=by lia
  rw [e1,ih];simp [List.range'_succ]
structure Told (h:Hs) (yr:Int):Prop where
 good:GoodH h
 one:1<=h.n
 ey:h.yr=yr
 ok:∃nm:Nat->Str,∀k,k < h.n->PlOk yr nm h.n k (h.pl k)
theorem ZNe:∃n:Nat,1<=n/\n<=12/\(n:Int)=if c / 5 % 8=1 then 6 + c / 40 % 7 else 1 + c % 5 + (if dns=true then 1 else 0):=by
 by_cases h:c / 5 % 8=1
 ·exact ⟨(6 + c / 40 % 7).toNat,by lia,by lia,by rw [if_pos h];lia⟩
 ·cases dns with
  | true=>exact ⟨(1 + c % 5 + 1).toNat,by lia,by lia,by rw [if_neg h];simp;lia⟩
  | false=>exact ⟨(1 + c % 5).toNat,by lia,by lia,by rw [if_neg h];simp;lia⟩
theorem ZRj (hf:∀k:Nat,k<=1000->∀G,Bf [.fl (ns.map D.int),.int k] G=.ok (.int (f k)) G) (hyr:1<=yr/\yr<=24) (cy:∀G,Jw [.fl (ns.map D.int)] G=.ok (.int yr) G) (hu:0 < u) (cu:∀G,Gs [.fl (ns.map D.int)] G=.ok (.int u) G):
  ∃h:Hs,Told h yr/\∀G,Z2 [.fl (ns.map D.int)] G=.ok h.enc G:=by
 have f2:∀G,Bf [.fl (ns.map D.int),.int 2] G=.ok (.int (f 2)) G:=hf 2 (by lia);have cdn:∀G,G8 [.fl (ns.map D.int)] G=.ok (.bl (decide (f 2 % 2=1))) G:=λG=>by unfold G8 ZDR;rw [Bk];simp [f2,Bh]
 generalize decide (f 2 % 2=1)=dns at cdn;obtain ⟨n,hn1,hn,en⟩:=ZNe (c:=f 0) (dns:=dns);let nm:Nat->Str:=λk=>Ei (Gd (f 5) n k)
 have ex:∀k:Nat,∃p:Pl,k < n->(PlOk yr nm n k p/\∀(G:DH) (acc:List D) (x6 x7 x8 x9 x10 x11 x12:Option D),acc.length<=20->∃y6 y7 y8 y9 y10 y11 y12,
   Kr [some (.fl (ns.map D.int)),some (.int (f 0)),some (.int n),some (.fl (De nm n)),some (.int k),some (.ref G.length),x6,x7,x8,x9,x10,x11,x12] (G++ [.lst acc])=
    .nx [some (.fl (ns.map D.int)),some (.int (f 0)),some (.int n),some (.fl (De nm n)),some (.int k),some (.ref G.length),y6,y7,y8,y9,y10,y11,y12] (G++ [.lst (acc++ [Ih nm p])])):=λk=>by
  by_cases hk:k < n
  ·obtain ⟨p,hp⟩:=ZNc (nm:=nm) (c:=f 0) hf hyr cy hu cu cdn hk hn;exact ⟨p,λ_=>hp⟩
  ·exact ⟨ZCu,λz=>absurd z hk⟩
 let P:Nat->Pl:=λk=>(ex k).choose
 have hP:=λ(k:Nat) (hk:k < n)=>((ex k).choose_spec hk).1
 have hB:=λ(k:Nat) (hk:k < n)=>((ex k).choose_spec hk).2
 let h:Hs:=⟨yr,(zj n).map P⟩;have hnn:h.n=n:=by simp [h,Hs.n]
 have hpl:∀k,k < n->h.pl k=P k:=λk hk=>by simp [h,Hs.pl,hk]
 have hg:GoodH h:=by
  refine ⟨?_,by lia,?_,?_,?_,?_,?_,?_,?_⟩
  ·show 0 < yr;lia
  ·intro i j hi hj e;rw [hnn] at hi hj;rw [hpl i hi,hpl j hj,(hP i hi).nm,(hP j hj).nm] at e;exact ZPG hn hi hj (ZJd e)
  ·intro i hi;rw [hnn] at hi;rw [hpl i hi,(hP i hi).nm];exact ZO8
  ·intro k d hk e;rw [hnn] at hk ⊢;rw [hpl k hk] at e;exact (hP k hk).dn d e
  ·intro k hk;rw [hnn] at hk;rw [hpl k hk];exact (hP k hk).dl
  ·intro k b r to dl m hk e;rw [hnn] at hk ⊢;rw [hpl k hk] at e;exact ((hP k hk).basin _ _ _ e).2.2 to dl m rfl
  ·intro k b r q hk e;rw [hnn] at hk;rw [hpl k hk] at e;have:=(hP k hk).basin _ _ _ e;exact ⟨this.1,λs hs=>(this.2.1.good s hs).1⟩
  ·intro k a b hk e;rw [hnn] at hk;rw [hpl k hk] at e;exact (hP k hk).town _ _ e
 refine ⟨h,⟨hg,by lia,rfl,nm,λk hk=>by rw [hnn] at hk ⊢;rw [hpl k hk];exact hP k hk⟩,λG=> ?_⟩;have hdT:∀o:Option Nat,(∀d,o=some d->d < n)->h.dnT o=dnS nm o:=λo ho=>by
  cases o with
  | none=>rfl
  | some d=>
   show (h.pl d).nm=nm d;rw [hpl d (ho d rfl),(hP d (ho d rfl)).nm]
 have henc:h.Cw=(List.range' 0 n).map λi=>Ih nm (P i):=by
  show ((zj n).map P).map h.encP=_;rw [qU,List.range_eq_range'];refine zT λk hk=> ?_
  have hk':k < n:=by have:=List.mem_range'_1.mp hk;lia
  have ok:=hP k hk';show h.encP (P k)=Ih nm (P k);have ed:=hdT (P k).dn λd e=>(ok.dn d e).2
  unfold Hs.encP Ih;rw [ed];cases e:(P k).kd with
  | basin b r q=>
   have hq:=(ok.basin b r q e).2.2;cases q with
   | none=>rfl
   | some q=>
    obtain ⟨to,dl,m⟩:=q;have ht:=(hq to dl m rfl).1;have e2:(h.pl to).nm=nm to:=by rw [hpl to ht,(hP to ht).nm]
    simp [Hs.O9,Kh,e2]
  | town a b=>rfl
  | mill a=>rfl
 obtain ⟨y4,y6,y7,y8,y9,y10,y11,y12,hL⟩:=ZF8 (G:=G) (P:=P) (nm:=nm) (c:=f 0) (n:=n) (ns:=ns) (λk hk=>hB k hk G) n 0 [] none none none none none none none none (by lia) (by simp;lia);rw [<-henc] at hL;have hL':Bp (gV 4) Kr (Cm 0 n) [some (.fl (ns.map D.int)),some (.int (f 0)),some (.int n),some (.fl (De nm n)),none,some (.ref G.length),none,none,none,none,none,none,none] (G++ [.lst []])=
    .nx [some (.fl (ns.map D.int)),some (.int (f 0)),some (.int n),some (.fl (De nm n)),y4,some (.ref G.length),y6,y7,y8,y9,y10,y11,y12] (G++ [.lst h.Cw]):=hL
 have f0:∀G,Bf [.fl (ns.map D.int),.int 0] G=.ok (.int (f 0)) G:=hf 0 (by lia);have f5:∀G,Bf [.fl (ns.map D.int),.int 5] G=.ok (.int (f 5)) G:=hf 5 (by lia);have cp:∀G:DH,Dy (gV 0) Ck Zw [none,some (.fl (ns.map D.int)),some (.int n)] (Cm 0 n) G=.ok (De nm n) G:=λG=>Zm λk hk=>by unfold Zw;simp [f5,ZJ7 hn hk,nm]
 have fz:freeze G (.ok (.ref G.length) (G++ [.lst (De nm n)]))=.ok (.fl (De nm n)) G:=Fj ZKn;have hr:inR (n:Int):=Gg (by lia) (by lia);have hnl:n<=1000000:=by lia
 have eh:h.enc=.tup [.int yr,.tup h.Cw]:=rfl;unfold Z2 ZI1;generalize ht:(Ah (sAs (Br (Ej (Dg rng1 (Ab (dV 2) Ad)) 1 [0,2] (gV 0) Ck Zw)) (gV 3)) (Ah (sAs (Eh (dFn Av Ad)) (gV 5)) (Ah (Dq (Dg rng1 (Ab (dV 2) Ad)) (gV 4) Kr) (sRt (dFn Bw (Ab (dFn Jw (Ab (dV 0) Ad)) (Ab (dFn Gp (Ab (dV 5) Ad)) Ad)))))))=tail;rw [Bk];have hp:∀H:DH,(Ah (sAs (dFn Bf (Ab (dV 0) (Ab (dC (.int 0)) Ad))) (gV 1)) (Ah (sAs (dOp Ba (dOp Ba (dC (.int 1)) (dOp Be (dV 1) (dC (.int 5)))) (dFn K5 (Ab (dFn G8 (Ab (dV 0) Ad)) Ad))) (gV 2)) (Ah (sIf (Ay (dOp Cq (dOp Be (dOp Cy (dV 1) (dC (.int 5))) (dC (.int 8))) (dC (.int 1)))) (sAs (dOp Ba (dC (.int 6)) (dOp Be (dOp Cy (dV 1) (dC (.int 40))) (dC (.int 7)))) (gV 2)) sNx) tail))) [some (.fl (ns.map D.int)),none,none,none,none,none,none,none,none,none,none,none,none] H=tail [some (.fl (ns.map D.int)),some (.int (f 0)),some (.int n),none,none,none,none,none,none,none,none,none,none] H:=λH=>by
  by_cases hw:f 0 / 5 % 8=1
  ·rw [if_pos hw] at en;simp [f0,hw,<-en,cdn]
  ·rw [if_neg hw] at en;cases hdn:dns with
   | true=>
    rw [hdn,if_pos rfl] at en;simp [f0,hw,<-en,cdn,hdn]
   | false=>
    rw [hdn,if_neg (by simp),Int.add_zero] at en;simp [f0,hw,<-en,cdn,hdn]
 simp only [List.map,zV,jA,j1,hp,List.append];subst ht;simp [Wr,hnl,hr,Bl,cp,fz,Av,Fb,hL',cy,Dj,Bw,Uq,eh]
def thr (c:Int):Nat->Int
 | 0=>c
 | j + 1=>thr (c / 3) j
theorem ZLI {s0 s1 s4 s5 s6 s7 s8:Option D} (G:DH):
  ∃y,Bp (gV 11) Uj (Cm 0 5) [s0,s1,s2,some (.int u),s4,s5,s6,s7,s8,some (.int c),some (.ref G.length),x] (G++ [.lst []])=.nx [s0,s1,s2,some (.int u),s4,s5,s6,s7,s8,y,some (.ref G.length),some (.int 4)] (G++ [.lst (tab 5 λj=>u * (thr c j % 3))]):=by
 have hb:∀(c:Int) (acc:List D) (x:Option D),acc.length<=10->Uj [s0,s1,s2,some (.int u),s4,s5,s6,s7,s8,some (.int c),some (.ref G.length),x] (G++ [.lst acc])=.nx [s0,s1,s2,some (.int u),s4,s5,s6,s7,s8,some (.int (c / 3)),some (.ref G.length),x] (G++ [.lst (acc++ [.int (u * (c % 3))])]):=λc acc x ha=>by
  have m:∀G,Bo (.int u) (.int (c % 3)) G=.ok (.int (u * (c % 3))) G:=λG=>Ku (by lia) (by lia)
  have hal:acc.length < 1000000:=by lia
  unfold Uj ZHo;simp [m,Dj,Ep,hal]
 have e:Cm 0 5= [.int 0,.int 1,.int 2,.int 3,.int 4]:=rfl;refine ⟨some (.int (c / 3 / 3 / 3 / 3 / 3)),?_⟩;rw [e];simp only [Dp,Ea,Du,R.Dl,qY,Dr];rw [hb _ _ _ (by simp)];simp only [Dr,Dp,Ea,Du,R.Dl,qY];rw [hb _ _ _ (by simp)];simp only [Dr,Dp,Ea,Du,R.Dl,qY];rw [hb _ _ _ (by simp)];simp only [Dr,Dp,Ea,Du,R.Dl,qY];rw [hb _ _ _ (by simp)];simp only [Dr,Dp,Ea,Du,R.Dl,qY];rw [hb _ _ _ (by simp)]
 simp only [Dr,Dp,Ea,Du,R.Dl,qY];simp [tab5,thr]
noncomputable def lvS (h:Hs) (f:Nat->Int) (u:Int) (k:Nat):Int:=match (h.pl k).kd with
 | .basin b _ _=>amt (f (6 + 12 * h.n + k)) u % (b + 1)
 | _=>0
noncomputable def coS (h:Hs) (f:Nat->Int) (u:Int) (k j:Nat):Int:=u * (thr (f (6 + 12 * h.n + h.n + k)) j % 3)
theorem ZPF (hu:0 < u) (k j:Nat):0<=coS h f u k j:=j6 (by lia) (by lia)
theorem ZG0 (g:GoodH h) (hk:k < h.n):0<=lvS h f u k/\(∀b r q,(h.pl k).kd=.basin b r q->lvS h f u k<=b)/\((h.pl k).kd.isB=false->lvS h f u k=0):=by
 unfold lvS;cases e:(h.pl k).kd with
 | basin b r q=>
  have:=(g.brim k b r q hk e).1
  refine ⟨jW _ (by lia),λb' r' q' e'=> ?_,λz=>nomatch z⟩
  cases e';show amt (f (6 + 12 * h.n + k)) u % (b + 1)<=b;have:=jy (amt (f (6 + 12 * h.n + k)) u) (show 0 < b + 1 by lia);lia
 | town a b=>exact ⟨qJ _,(λ_ _ _ z=>nomatch z),λ_=>rfl⟩
 | mill a=>exact ⟨qJ _,(λ_ _ _ z=>nomatch z),λ_=>rfl⟩
theorem ZId (hf:∀k:Nat,k<=1000->∀G,Bf [.fl (ns.map D.int),.int k] G=.ok (.int (f k)) G) {u:Int} (hu:0 < u) (g:GoodH h) {s1:Option D} {G:DH}:∀(m k:Nat) (L:DH) (x7 x8 x9 x10 x11:Option D),k + m=h.n->∃L' y7 y8 y9 y10 y11,
  Bp (gV 7) U7 (Cm k m) [some (.fl (ns.map D.int)),s1,some (.tup h.Cw),some (.int u),some (.int ((6 + 12 * h.n:Nat):Int)),some (.ref G.length),some (.ref (G.length + 1)),x7,x8,x9,x10,x11] (G++ .lst (tab k (lvS h f u)):: .lst (Dc k (coS h f u))::L)=
   .nx [some (.fl (ns.map D.int)),s1,some (.tup h.Cw),some (.int u),some (.int ((6 + 12 * h.n:Nat):Int)),some (.ref G.length),some (.ref (G.length + 1)),y7,y8,y9,y10,y11] (G++ .lst (tab h.n (lvS h f u)):: .lst (Dc h.n (coS h f u))::L')
 | 0,k,L,x7,x8,x9,x10,x11,e=>by
  have e1:k=h.n:=by lia
  subst e1;exact ⟨L,x7,x8,x9,x10,x11,by rw [Pj,Ea]⟩
 | m + 1,k,L,x7,x8,x9,x10,x11,e=>by
  have hk:k < h.n:=by lia
  have hn:=g.len;let c:Int:=f (6 + 12 * h.n + h.n + k);let G1:DH:=G++ .lst (tab (k + 1) (lvS h f u)):: .lst (Dc k (coS h f u))::L;obtain ⟨y,hR⟩:=ZLI (u:=u) (c:=c) (s0:=some (.fl (ns.map D.int))) (s1:=s1) (s2:=some (.tup h.Cw)) (s4:=some (.int ((6 + 12 * h.n:Nat):Int))) (s5:=some (.ref G.length)) (s6:=some (.ref (G.length + 1))) (s7:=some (.int k)) (s8:=some (.int (lvS h f u k))) (x:=x11) G1;obtain ⟨L',y7,y8,y9,y10,y11,ih⟩:=ZId hf hu g m (k + 1) (L++ [.lst (tab 5 (coS h f u k))]) (s1:=s1) (G:=G) (some (.int k)) (some (.int (lvS h f u k))) y (some (.ref G1.length)) (some (.int 4)) (by lia)
  refine ⟨L',y7,y8,y9,y10,y11,?_⟩;have ap:atI h.Cw (k:Int)=some (h.encP (h.pl k)):=Hs.Dv hk;have c1:∀G,Bf [.fl (ns.map D.int),.int (((6 + 12 * h.n:Nat):Int) + (k:Int))] G=.ok (.int (f (6 + 12 * h.n + k))) G:=λG=>by have:=hf (6 + 12 * h.n + k) (by lia) G;rwa [show ((6 + 12 * h.n + k:Nat):Int)=((6 + 12 * h.n:Nat):Int) + k by lia] at this
  have c2:∀G,Bf [.fl (ns.map D.int),.int (((6 + 12 * h.n:Nat):Int) + (h.n:Int) + (k:Int))] G=.ok (.int c) G:=λG=>by have:=hf (6 + 12 * h.n + h.n + k) (by lia) G;rwa [show ((6 + 12 * h.n + h.n + k:Nat):Int)=((6 + 12 * h.n:Nat):Int) + h.n + k by lia] at this
  have hbb:(6 + 12 * h.n:Nat)=(6 + 12 * h.n):=rfl;generalize hB:((6 + 12 * h.n:Nat):Int)=B at c1 c2 hR ih ⊢;have t1:∀(H:DH) (x9 x10 x11:Option D),U7 [some (.fl (ns.map D.int)),s1,some (.tup h.Cw),some (.int u),some (.int B),some (.ref G.length),some (.ref (G.length + 1)),some (.int k),x8,x9,x10,x11] H=Zj [some (.fl (ns.map D.int)),s1,some (.tup h.Cw),some (.int u),some (.int B),some (.ref G.length),some (.ref (G.length + 1)),some (.int k),some (.int (lvS h f u k)),x9,x10,x11] H:=λH x9 x10 x11=>by
   unfold U7 ZHq lvS;cases e:(h.pl k).kd with
   | basin b r q=>
    have hb0:=(g.brim k b r q hk e).1;have e4:∀G,Aj (h.encP (h.pl k)) (.int 4) G=.ok (.int b) G:=λG=>by unfold Hs.encP;rw [e];simp
    have hb1:0 < b + 1:=by lia
    have hb2:¬b + 1=0:=by lia
    simp [ap,Hy,e,Kd.isB,c1,Qk hu,e4,hb1,hb2]
   | town a b=>simp [ap,Hy,e,Kd.isB]
   | mill a=>simp [ap,Hy,e,Kd.isB]
  have hl1:k < 1000000:=by lia
  have et:tab k (lvS h f u)++ [.int (lvS h f u k)]=tab (k + 1) (lvS h f u):=by simp [tab,jD]
  have er:Dc k (coS h f u)++ [.tup (tab 5 (coS h f u k))]=Dc (k + 1) (coS h f u):=by simp [Dc,jD]
  have t2:Zj [some (.fl (ns.map D.int)),s1,some (.tup h.Cw),some (.int u),some (.int B),some (.ref G.length),some (.ref (G.length + 1)),some (.int k),some (.int (lvS h f u k)),x9,x10,x11] (G++ .lst (tab k (lvS h f u)):: .lst (Dc k (coS h f u))::L)=Wx [some (.fl (ns.map D.int)),s1,some (.tup h.Cw),some (.int u),some (.int B),some (.ref G.length),some (.ref (G.length + 1)),some (.int k),some (.int (lvS h f u k)),some (.int c),some (.ref G1.length),x11] (G1++ [.lst []]):=by
   have tn:tidy G1 (.ok (.ref G1.length) (G1++ [.lst []]))=.ok (.ref G1.length) (G1++ [.lst []]):=Fb rfl;unfold Zj ZJg ZGJ;have a1:(sEx (Fv Fp (dV 5) (Ab (dV 8) Ad))) [some (.fl (ns.map D.int)),s1,some (.tup h.Cw),some (.int u),some (.int B),some (.ref G.length),some (.ref (G.length + 1)),some (.int k),some (.int (lvS h f u k)),x9,x10,x11] (G++ .lst (tab k (lvS h f u)):: .lst (Dc k (coS h f u))::L)=.nx [some (.fl (ns.map D.int)),s1,some (.tup h.Cw),some (.int u),some (.int B),some (.ref G.length),some (.ref (G.length + 1)),some (.int k),some (.int (lvS h f u k)),x9,x10,x11] G1:=by
    simp [Dj,Ep,hl1,et,G1]
   rw [Ws,a1,W9]
   clear_value G1
   simp [Hs.Lr,c2,Av,tn]
  have t5:Wx [some (.fl (ns.map D.int)),s1,some (.tup h.Cw),some (.int u),some (.int B),some (.ref G.length),some (.ref (G.length + 1)),some (.int k),some (.int (lvS h f u k)),some (.int c),some (.ref G1.length),x11] (G1++ [.lst []])=.nx [some (.fl (ns.map D.int)),s1,some (.tup h.Cw),some (.int u),some (.int B),some (.ref G.length),some (.ref (G.length + 1)),some (.int k),some (.int (lvS h f u k)),y,some (.ref G1.length),some (.int 4)] (G++ .lst (tab (k + 1) (lvS h f u)):: .lst (Dc (k + 1) (coS h f u))::(L++ [.lst (tab 5 (coS h f u k))])):=by
   have hr:inR 5:=Gg (by lia) (by lia);have eC:(tab 5 λj=>u * (thr c j % 3))=tab 5 (coS h f u k):=rfl;rw [eC] at hR;unfold Wx;have a1:(Dq (Dg rng1 (Ab (dC (.int 5)) Ad)) (gV 11) Uj) [some (.fl (ns.map D.int)),s1,some (.tup h.Cw),some (.int u),some (.int B),some (.ref G.length),some (.ref (G.length + 1)),some (.int k),some (.int (lvS h f u k)),some (.int c),some (.ref G1.length),x11] (G1++ [.lst []])=.nx [some (.fl (ns.map D.int)),s1,some (.tup h.Cw),some (.int u),some (.int B),some (.ref G.length),some (.ref (G.length + 1)),some (.int k),some (.int (lvS h f u k)),y,some (.ref G1.length),some (.int 4)] (G1++ [.lst (tab 5 (coS h f u k))]):=by
    simp [hr,hR]
   rw [Ws,a1,W9];have gl:(G1++ [DO.lst (tab 5 (coS h f u k))])[G1.length]? =some (.lst (tab 5 (coS h f u k))):=by simp
   have gc:(G1++ [DO.lst (tab 5 (coS h f u k))])[G.length + 1]? =some (.lst (Dc k (coS h f u))):=by simp [G1]
   have gs:(G1++ [DO.lst (tab 5 (coS h f u k))]).set (G.length + 1) (.lst (Dc (k + 1) (coS h f u)))=(G++ .lst (tab (k + 1) (lvS h f u)):: .lst (Dc (k + 1) (coS h f u))::(L++ [.lst (tab 5 (coS h f u k))])):=by simp [G1]
   generalize G1++ [DO.lst (tab 5 (coS h f u k))]=G2 at gl gc gs;unfold ZHb;simp [gl,gc,hl1,er,gs]
  rw [Lk,Dp];simp only [Du,R.Dl,qY,t1,t2,t5,Dr];have e1:((k:Int) + 1)=((k + 1:Nat):Int):=by lia
  rw [e1,ih]
theorem ZP8 (hf:∀k:Nat,k<=1000->∀G,Bf [.fl (ns.map D.int),.int k] G=.ok (.int (f k)) G) (hu:0 < u) (cu:∀G,Gs [.fl (ns.map D.int)] G=.ok (.int u) G) (g:GoodH h) (G:DH):
  Z6 [.fl (ns.map D.int),h.enc] G=.ok (stD h.n (lvS h f u) (coS h f u)) G:=by
 obtain ⟨L',y7,y8,y9,y10,y11,hL⟩:=ZId hf hu g (s1:=some h.enc) (G:=G) h.n 0 [] none none none none none (by lia);have hL':Bp (gV 7) U7 (Cm 0 h.n) [some (.fl (ns.map D.int)),some h.enc,some (.tup h.Cw),some (.int u),some (.int ((6 + 12 * h.n:Nat):Int)),some (.ref G.length),some (.ref (G.length + 1)),none,none,none,none,none] (G++ [.lst [],.lst []])=
   .nx [some (.fl (ns.map D.int)),some h.enc,some (.tup h.Cw),some (.int u),some (.int ((6 + 12 * h.n:Nat):Int)),some (.ref G.length),some (.ref (G.length + 1)),y7,y8,y9,y10,y11] (G++ .lst (tab h.n (lvS h f u)):: .lst (Dc h.n (coS h f u))::L'):=hL
 have hn:=g.len;have m12:∀G,Bo (.int 12) (.int (h.n:Int)) G=.ok (.int (12 * (h.n:Int))) G:=λG=>Jy (by lia) (by lia)
 have e6:(6 + 12 * (h.n:Int))=((6 + 12 * h.n:Nat):Int):=by lia
 generalize hB:((6 + 12 * h.n:Nat):Int)=B at hL' e6;have fu:freeze G (.ok (.int u) G)=.ok (.int u) G:=Mr rfl;have hr:inR (h.n:Int):=Gg (by lia) (by lia);have t1:tidy (G++ [.lst []]) (.ok (.ref (G.length + 1)) (G++ [.lst [],.lst []]))=.ok (.ref (G.length + 1)) (G++ [.lst [],.lst []]):=by have:=Fb (G:=G++ [.lst []]) (ds:= []) (L:= []) rfl;simpa using this
 have g0:(G++ .lst (tab h.n (lvS h f u)):: .lst (Dc h.n (coS h f u))::L')[G.length]? =some (.lst (tab h.n (lvS h f u))):=by simp
 have g1:(G++ .lst (tab h.n (lvS h f u)):: .lst (Dc h.n (coS h f u))::L')[G.length + 1]? =some (.lst (Dc h.n (coS h f u))):=by simp
 have tp:tidy G (.ok (stD h.n (lvS h f u) (coS h f u)) (G++ .lst (tab h.n (lvS h f u)):: .lst (Dc h.n (coS h f u))::L'))=.ok (stD h.n (lvS h f u) (coS h f u)) G:=Uq (by simp [stD,S7]);generalize G++DO.lst (tab h.n (lvS h f u))::DO.lst (Dc h.n (coS h f u))::L'=G2 at hL' g0 g1 tp;unfold stD at tp ⊢;unfold Z6 ZGv;rw [Bk];simp [Cv,cu,fu,Hs.Lr,m12,e6,Av,Fb,t1,hr,hL',g0,g1,Bw,tp]
noncomputable def flE (n:Nat) (f:Nat->Int) (u:Int) (dns:Bool) (k:Nat):Int:=if dns=true then u * (f (6 + 14 * n + k) % 3) else amt (f (6 + 14 * n + k)) u
theorem ZMl {n:Nat} (hu:0 < u) (k:Nat):0<=flE n f u dns k:=by
 unfold flE;split
 ·exact j6 (by lia) (by lia)
 ·exact Yz hu
theorem ZNh {o:DO} (h:∀m,bels m ds=true):freeze (G++ [o]) (.ok (.ref (G.length + 1)) (G++ [o,.lst ds]))=.ok (.fl ds) (G++ [o]):=by have:=Fj (G:=G++ [o]) (ds:=ds) (L:= []) (h _);simpa using this
theorem ZKh (hf:∀k:Nat,k<=1000->∀G,Bf [.fl (ns.map D.int),.int k] G=.ok (.int (f k)) G) (hu:0 < u) (cu:∀G,Gs [.fl (ns.map D.int)] G=.ok (.int u) G) (cdn:∀G,G8 [.fl (ns.map D.int)] G=.ok (.bl dns) G) {n:Nat} (hi:6 + 14 * n + n<=1000) (hn2:n<=1000) {s1 y:Option D} (G:DH):
  ZAN [some (.fl (ns.map D.int)),s1,s2,some (.int n),some (.int ((6 + 14 * n:Nat):Int)),some (.ref G.length),some (.int 0),x,y] (G++ [.lst []])=
   .nx [some (.fl (ns.map D.int)),s1,s2,some (.int n),some (.int ((6 + 14 * n:Nat):Int)),some (.ref G.length),some (.int 0),some (.fl (tab n λk=>f (6 + 14 * n + k))),some (.fl (tab n (flE n f u dns)))] (G++ [.lst [.tup (tab n (flE n f u dns))]]):=by
 have mi:∀G,Bo (.int 0) (.int (n:Int)) G=.ok (.int 0) G:=λG=>by have:=Jy (G:=G) (i:=0) (j:=(n:Int)) (by lia) (by lia);rw [this,Int.zero_mul]
 have fu:∀G,freeze G (.ok (.int u) G)=.ok (.int u) G:=λG=>Mr rfl
 have fi:∀(x:Int) G,freeze G (.ok (.int x) G)=.ok (.int x) G:=λx G=>Mr rfl
 have c1:∀G,Dy (gV 0) Ck ZAW [none,some (.fl (ns.map D.int)),some (.int n),some (.int ((6 + 14 * n:Nat):Int)),some (.int 0)] (Cm 0 n) G=.ok (tab n λk=>f (6 + 14 * n + k)) G:=λG=>
  Zm (F:=λk=>.int (f (6 + 14 * n + k))) λk hk=>by
   have h1:=hf (6 + 14 * n + k) (by lia) G;have e1:((6 + 14 * n + k:Nat):Int)=((6 + 14 * n:Nat):Int) + k:=by lia
   rw [e1] at h1;generalize ((6 + 14 * n:Nat):Int)=B at h1;unfold ZAW;simp [mi,h1]
 have c2:∀G,Dy (gV 0) Ck ZBU [none,some (.fl (ns.map D.int))] (tab n λk=>f (6 + 14 * n + k)) G=.ok (tab n λk=>amt (f (6 + 14 * n + k)) u) G:=λG=>
  Tn (E:=λk=>.int (f (6 + 14 * n + k))) (F:=λk=>.int (amt (f (6 + 14 * n + k)) u)) λk hk=>by unfold ZBU;simp [cu,fu,Qk hu]
 have c3:∀G,Dy (gV 0) Ck ZCm [none,some (.fl (ns.map D.int))] (tab n λk=>f (6 + 14 * n + k)) G=.ok (tab n λk=>u * (f (6 + 14 * n + k) % 3)) G:=λG=>
  Tn (E:=λk=>.int (f (6 + 14 * n + k))) (F:=λk=>.int (u * (f (6 + 14 * n + k) % 3))) λk hk=>by
   generalize f (6 + 14 * n + k)=c;have mu:∀G,Bo (.int u) (.int (c % 3)) G=.ok (.int (u * (c % 3))) G:=λG=>Ku (by lia) (by lia)
   unfold ZCm;simp [cu,fi,mu]
 have hr:inR (n:Int):=Gg (by lia) (by lia);have cs1:∀a b c d e f' g h i:Option D,Bl 1 [0,3,4,6] [a,b,c,d,e,f',g,h,i]= [none,a,d,e,g]:=λ_ _ _ _ _ _ _ _ _=>rfl
 have cs2:∀a b c d e f' g h i:Option D,Bl 1 [0] [a,b,c,d,e,f',g,h,i]= [none,a]:=λ_ _ _ _ _ _ _ _ _=>rfl
 have fz:∀F:Nat->Int,freeze (G++ [.lst []]) (.ok (.ref (G.length + 1)) (G++ [.lst [],.lst (tab n F)]))=.ok (.fl (tab n F)) (G++ [.lst []]):=λF=>ZNh (G:=G) (o:=.lst []) (ds:=tab n F) λ_=>S7
 generalize ((6 + 14 * n:Nat):Int)=B at c1;have hnl:n<=1000000:=by lia
 unfold ZAN;cases hdn:dns with
 | true=>
  have ef:flE n f u true=λk=>u * (f (6 + 14 * n + k) % 3):=by funext k;simp [flE]
  rw [ef];simp [hnl,hr,cs1,cs2,c1,c2,c3,fz,Dj,Ep,cdn,hdn]
 | false=>
  have ef:flE n f u false=λk=>amt (f (6 + 14 * n + k)) u:=by funext k;simp [flE]
  rw [ef];simp [hnl,hr,cs1,cs2,c1,c2,c3,fz,Dj,Ep,cdn,hdn]
theorem ZQo (hf:∀k:Nat,k<=1000->∀G,Bf [.fl (ns.map D.int),.int k] G=.ok (.int (f k)) G) (hu:0 < u) (cu:∀G,Gs [.fl (ns.map D.int)] G=.ok (.int u) G) (cdn:∀G,G8 [.fl (ns.map D.int)] G=.ok (.bl dns) G) (g:GoodH h) (G:DH):
  W3 [.fl (ns.map D.int),h.enc,.int 1] G=.ok (.ref G.length) (G++ [.lst [.tup (tab h.n (flE h.n f u dns))]]):=by
 have hn:=g.len;have hb:=ZKh hf hu cu cdn (n:=h.n) (by lia) (by lia) (s1:=some h.enc) (s2:=some (.int 1)) (x:=none) (y:=none) G;have m14:∀G,Bo (.int 14) (.int (h.n:Int)) G=.ok (.int (14 * (h.n:Int))) G:=λG=>Jy (by lia) (by lia)
 have e6:(6 + 14 * (h.n:Int))=((6 + 14 * h.n:Nat):Int):=by lia
 generalize hB:((6 + 14 * h.n:Nat):Int)=B at hb e6;have hr:inR 1:=Gg (by lia) (by lia);have e1:Cm 0 1= [.int 0]:=rfl;unfold W3 ZGq;rw [Bk];simp [Cv,Hs.Lr,m14,e6,Av,Fb,hr,e1,Dp,Ea,hb]
theorem ZNZ (hf:∀k:Nat,k<=1000->∀G,Bf [.fl (ns.map D.int),.int k] G=.ok (.int (f k)) G):∃a:Int,0<=a/\∀G,U5 [.fl (ns.map D.int)] G=.ok (.int a) G:=by
 have h3:∀G,Bf [.fl (ns.map D.int),.int 3] G=.ok (.int (f 3)) G:=hf 3 (by lia);have fz:∀G:DH,freeze G (.ok (.ref G.length) (G++ [.lst [.int 50,.int 1000000000000000000000000000000000000000]]))=.ok (.fl [.int 50,.int 1000000000000000000000000000000000000000]) G:=λG=>Fj rfl
 rcases (by lia:f 3 % 2=0∨f 3 % 2=1) with z | z
 ·refine ⟨f 3 / 2 % 50,by lia,λG=> ?_⟩;unfold U5 ZCx;rw [Bk];simp [h3,z,Av,fz,Bh]
 ·refine ⟨f 3 / 2 % 1000000000000000000000000000000000000000,by lia,λG=> ?_⟩;unfold U5 ZCx;rw [Bk];simp [h3,z,Av,fz,Bh]
def pgD (n:Nat) (pg:Nat->List Int):D:=.tup (Df n pg)
theorem ZK2 (g:GoodH h) {a:Int} (hc:∀k j,k < h.n->j < 5->0<=co k j) (hf:∀k,k < h.n->0<=fl k):(h.cs lv co a fl).NN h.n:=ZAo g h.n 0 _ (by lia) (Xg hc hf)
def Bv:Nat->(Nat->Int)->Int
 | 0,_=>0
 | n + 1,F=>Bv n F + F n
theorem Oo:∀{n:Nat} {F F':Nat->Int},(∀i,i < n->F i=F' i)->Bv n F=Bv n F'
 | 0,_,_,_=>rfl
 | n + 1,F,F',h=>by show Bv n F + F n=Bv n F' + F' n;rw [Oo λi hi=>h i (by lia),h n (by lia)]
theorem ZHc:∀{n:Nat} {F F':Nat->Int},Bv n (λi=>F i + F' i)=Bv n F + Bv n F'
 | 0,_,_=>rfl
 | n + 1,F,F'=>by show Bv n (λi=>F i + F' i) + (F n + F' n)=(Bv n F + F n) + (Bv n F' + F' n);rw [ZHc];lia
def Iu (pg:Nat->List Int) (j:Nat):Int:=(pg j).getD 2 0 + (pg j).getD 3 0
def V5 (pg:Nat->List Int) (j:Nat):Int:=(pg j).getD 4 0
noncomputable def Hs.pmp (h:Hs) (k:Nat):Option (Nat×Nat):=match (h.pl k).kd with
 | .basin _ _ (some (to,dl,_))=>some (to,dl)
 | _=>none
noncomputable def Hs.c1 (h:Hs) (pg:Nat->List Int) (i j:Nat):Int:=if h.dir j=none/\h.dn j=some i/\(h.pl j).dl=0 then Iu pg j else 0
noncomputable def Hs.o1 (h:Hs) (pg:Nat->List Int) (i a j:Nat):Int:=(if h.dn j=some i/\(h.pl j).dl=a + 1 then Iu pg j else 0) + (if h.pmp j=some (i,a + 1) then V5 pg j else 0)
noncomputable def Hs.brow (h:Hs) (yt:Int) (lv:Nat->Int) (k:Nat) (c:Int):List Int:=match (h.pl k).kd with
 | .basin brim rule _=>
  let w:=lv k + c;let st:=held yt rule [];let stays:=w - rv w st - pm w st
  [c,0,stays - min stays brim,rv w st,pm w st,min stays brim]
 | _=> []
def Hs.K8 (h:Hs) (ca:Nat->Int) (m:Nat):Nat->Int:=shr (h.rows (h.mem m) ca)
noncomputable def Hs.Ja (h:Hs) (ca:Nat->Int) (m:Nat):Nat->Int:=gath (h.rows (h.mem m) ca) λi=>col Row.water (h.rows (h.mem m) ca) i - h.K8 ca m i
theorem ZG4 (e:∀k∈ms,ca k=ca' k):h.rows ms ca=h.rows ms ca':=by
 unfold Hs.rows;refine zT λk hk=> ?_
 unfold Hs.row;rw [e k hk]
theorem ZBg:(s.send to dl c).came i=s.came i + (if to=i/\dl=0 then c else 0):=by
 unfold Cs.send;by_cases h0:dl=0
 ·simp only [h0,if_true,and_true,fset];by_cases e:i=to
  ·subst e;simp
  ·rw [if_neg e,if_neg (λz=>e z.symm)];lia
 ·simp [h0]
theorem ZHs:(s.send to dl c).coming i a=s.coming i a + (if to=i/\dl=a + 1 then c else 0):=by
 unfold Cs.send;by_cases h0:dl=0
 ·simp [h0]
 ·simp only [h0,if_false,upd2];by_cases e:i=to
  ·subst e;simp only [if_true,fset,true_and];by_cases ea:a=dl - 1
   ·have e2:dl=a + 1:=by lia
    rw [if_pos ea,if_pos e2,ea]
   ·have e2:¬dl=a + 1:=by lia
    rw [if_neg ea,if_neg e2];lia
  ·rw [if_neg e,if_neg (λz=>e z.1.symm)];lia
theorem Qp:(h.Ff s k c).came i=s.came i + (if h.dn k=some i/\(h.pl k).dl=0 then c else 0):=by
 unfold Hs.Ff;cases e:h.dn k with
 | none=>simp
 | some d=>simp only [ZBg,Option.some.injEq]
theorem ZC9:(h.Ff s k c).coming i a=s.coming i a + (if h.dn k=some i/\(h.pl k).dl=a + 1 then c else 0):=by
 unfold Hs.Ff;cases e:h.dn k with
 | none=>simp
 | some d=>simp only [ZHs,Option.some.injEq]
theorem Qh (hB:(h.pl k).kd.isB=true):h.dir k=none:=by
 unfold Hs.dir;cases h.dn k with
 | none=>rfl
 | some d=>simp [hB]
theorem ZDV (e:h.dir k=some d):h.dn k=some d/\(h.pl k).dl=0/\(h.pl k).kd.isB=false/\(h.pl d).kd.isB=false:=by
 unfold Hs.dir at e;cases hd:h.dn k with
 | none=>rw [hd] at e;cases e
 | some d'=>
  rw [hd] at e;simp only at e;split at e
  ·cases e
  ·rename_i hc;cases e;refine ⟨rfl,by lia,?_,?_⟩
   ·cases z:(h.pl k).kd.isB with
    | false=>rfl
    | true=>exact absurd (.inr (.inl z)) hc
   ·cases z:(h.pl d).kd.isB with
    | false=>rfl
    | true=>exact absurd (.inr (.inr z)) hc
theorem ZDH (hB:(h.pl k).kd.isB=false):h.pmp k=none:=by
 unfold Hs.pmp;cases e:(h.pl k).kd with
 | basin a b c=>rw [e] at hB;cases hB
 | town _ _=>rfl
 | mill _=>rfl
theorem ZRh (g:GoodH h) (e:h.last k=k):h.dir k=none:=by
 cases hd:h.dir k with
 | none=>rfl
 | some d=>
  have h1:=Hj g hd;have h2:=Li g hd;have h3:=(Gw g d).1;lia
theorem ZRW (g:GoodH h) (hm:m < h.n) (e:h.last m=m):(h.mem m).idxOf m=(h.mem m).length - 1:=by
 have hl:=ZEU g hm e;have hpos:0 < (h.mem m).length:=jH (mem_iff.mpr ⟨hm,e⟩);have nd:(h.mem m).Nodup:=(N8 (h:=h) (m:=m)).imp λhab=>zE hab
 rw [jz,zQ (by lia)] at hl;have h2:=Q3 nd (i:=(h.mem m).length - 1) (by lia);rw [Option.some.inj hl] at h2;exact h2
structure TI (h:Hs) (yt:Int) (lv:Nat->Int) (co:Nat->Nat->Int) (fl:Nat->Int) (k:Nat) (s:Cs):Prop where
 came:∀i,i < h.n->s.came i=fl i + co i 0 + Bv k (h.c1 s.page i)
 coming:∀i a,i < h.n->a < 5->s.coming i a=Kl co i a + Bv k (h.o1 s.page i a)
 basin:∀i,i < k->i < h.n->(h.pl i).kd.isB=true->s.page i=h.brow yt lv i (s.came i)
 reach:∀i,i < h.n->(h.pl i).kd.isB=false->h.last i < k->s.page i=rrow (h.K8 s.came (h.last i)) (h.Ja s.came (h.last i)) ((h.mem (h.last i)).idxOf i)
section
variable {h:Hs} {yt:Int} {lv:Nat->Int} {co:Nat->Nat->Int} {fl:Nat->Int}
theorem ZAQ (e:∀k∈h.mem m,ca k=ca' k):h.K8 ca m=h.K8 ca' m/\h.Ja ca m=h.Ja ca' m:=by
 have e1:=ZG4 (h:=h) e;have e2:h.K8 ca m=h.K8 ca' m:=by unfold Hs.K8;rw [e1]
 refine ⟨e2,?_⟩;unfold Hs.Ja;rw [e1,e2]
theorem Xe (g:GoodH h) (hk:k∈h.mem m):k<=m:=by have h1:=mem_iff.mp hk;have h2:=(Gw g k).1;lia
theorem ZKI (g:GoodH h) (hk:k < h.n) (t:TI h yt lv co fl k s):TI h yt lv co fl (k + 1) (h.step yt lv s k):=by
 by_cases hB:(h.pl k).kd.isB=true
 ·
  have e:h.step yt lv s k=h.basin yt lv s k:=by unfold Hs.step;rw [if_pos hB]
  rw [e];have hdir:=Qh hB;have hpg:=(ZD3 (yt:=yt) (lv:=lv) (s:=s) hB).2;obtain ⟨brim,rule,pump,ek⟩:∃a b c,(h.pl k).kd=.basin a b c:=by
   cases e:(h.pl k).kd with
   | basin a b c=>exact ⟨a,b,c,rfl⟩
   | town _ _=>rw [e] at hB;cases hB
   | mill _=>rw [e] at hB;cases hB
  have hpk:(h.basin yt lv s k).page k=h.brow yt lv k (s.came k):=by
   unfold Hs.basin Hs.brow;rw [ek];simp only;cases pump with
   | none=>simp only;rw [Ls.2];simp
   | some q=>obtain ⟨to,dl,m⟩:=q;simp only;rw [W6.2,Ls.2];simp
  have hout:Iu (h.basin yt lv s k).page k=rv (lv k + s.came k) (held yt rule []) + (lv k + s.came k - rv (lv k + s.came k) (held yt rule []) - pm (lv k + s.came k) (held yt rule []) - min (lv k + s.came k - rv (lv k + s.came k) (held yt rule []) - pm (lv k + s.came k) (held yt rule [])) brim):=by unfold Iu;rw [hpk];unfold Hs.brow;rw [ek];simp [List.getD];lia
  have hpmp:V5 (h.basin yt lv s k).page k=pm (lv k + s.came k) (held yt rule []):=by
   unfold V5;rw [hpk];unfold Hs.brow;rw [ek]
   rfl
  have hcame:∀i,(h.basin yt lv s k).came i=s.came i + (if h.dn k=some i/\(h.pl k).dl=0 then Iu (h.basin yt lv s k).page k else 0):=λi=>by
   rw [hout];unfold Hs.basin;rw [ek];simp only;cases hp:pump with
   | none=>simp only [Qp]
   | some q=>
    obtain ⟨to,dl,m⟩:=q;have hd:=g.pump k brim rule to dl m hk (by rw [ek,hp]);simp only [ZBg,Qp];rw [if_neg (show¬(to=i/\dl=0) by lia)];lia
  have hcom:∀i a,(h.basin yt lv s k).coming i a=s.coming i a + h.o1 (h.basin yt lv s k).page i a k:=λi a=>by
   unfold Hs.o1;rw [hout,hpmp];unfold Hs.basin Hs.pmp;rw [ek];simp only;cases hp:pump with
   | none=>simp [ZC9]
   | some q=>
    obtain ⟨to,dl,m⟩:=q;simp only [ZHs,ZC9,Option.some.injEq,Prod.mk.injEq];lia
  have hlow:∀i,i<=k->(h.basin yt lv s k).came i=s.came i:=λi hi=>by
   rw [hcame,if_neg]
   ·lia
   ·intro z;have:=g.dn k i hk z.1;lia
  refine ⟨λi hi=> ?_,λi a hi ha=> ?_,λi hik hi hBi=> ?_,λi hi hBi hl=> ?_⟩
  ·show _=_ + (Bv k (h.c1 (h.basin yt lv s k).page i) + h.c1 (h.basin yt lv s k).page i k);rw [hcame,t.came i hi];have e1:Bv k (h.c1 (h.basin yt lv s k).page i)=Bv k (h.c1 s.page i):=Oo λj hj=>by unfold Hs.c1 Iu;rw [hpg j (by lia)]
   rw [e1];unfold Hs.c1;simp only [hdir,true_and];lia
  ·show _=_ + (Bv k (h.o1 (h.basin yt lv s k).page i a) + h.o1 (h.basin yt lv s k).page i a k);rw [hcom,t.coming i a hi ha];have e1:Bv k (h.o1 (h.basin yt lv s k).page i a)=Bv k (h.o1 s.page i a):=Oo λj hj=>by unfold Hs.o1 Iu V5;rw [hpg j (by lia)]
   rw [e1];lia
  ·by_cases e2:i=k
   ·subst e2;rw [hpk,hlow i (zW _)]
   ·rw [hpg i e2,hlow i (by lia)];exact t.basin i (by lia) hi hBi
  ·have hl2:h.last i < k:=by
    rcases qI (h.last i) k with z | z
    ·exact z
    ·have e2:h.last i=k:=by lia
     rcases Qj g h.n i (by lia) with z2 | z2
     ·rw [<-e2,z2,hBi] at hB;cases hB
     ·rw [e2,hB] at z2;cases z2
   have hle:=(Gw g i).1;rw [hpg i (by lia),t.reach i hi hBi hl2];have:=ZAQ (h:=h) (m:=h.last i) (ca:=s.came) (ca':=(h.basin yt lv s k).came) λj hj=>(hlow j (by have:=Xe g hj;lia)).symm
   rw [this.1,this.2]
 ·have hB':(h.pl k).kd.isB=false:=by
   cases z:(h.pl k).kd.isB with
   | false=>rfl
   | true=>exact absurd z hB
  by_cases hl:h.last k=k
  ·
   have e:h.step yt lv s k=h.reach s k:=by unfold Hs.step;rw [if_neg hB,if_pos hl]
   rw [e];have hdir:=ZRh g hl;have hmem:k∈h.mem k:=mem_iff.mpr ⟨hk,hl⟩;have hpg:∀j,j ∉ h.mem k->(h.reach s k).page j=s.page j:=λj hj=>by rw [ZDg,if_neg hj]
   have hpm:∀j,j∈h.mem k->(h.reach s k).page j=rrow (h.J1 s k) (h.Ht s k) ((h.mem k).idxOf j):=λj hj=>by rw [ZDg,if_pos hj]
   have hout:Iu (h.reach s k).page k=h.Ht s k ((h.mem k).length - 1):=by unfold Iu;rw [hpm k hmem,ZRW g hk hl];show (0:Int) + _=_;simp [rrow]
   have hcame:∀i,(h.reach s k).came i=s.came i + (if h.dn k=some i/\(h.pl k).dl=0 then Iu (h.reach s k).page k else 0):=λi=>by rw [hout];unfold Hs.reach;simp only [Qp]
   have hcom:∀i a,(h.reach s k).coming i a=s.coming i a + (if h.dn k=some i/\(h.pl k).dl=a + 1 then Iu (h.reach s k).page k else 0):=λi a=>by rw [hout];unfold Hs.reach;simp only [ZC9]
   have hlow:∀i,i<=k->(h.reach s k).came i=s.came i:=λi hi=>by
    rw [hcame,if_neg]
    ·lia
    ·intro z;have:=g.dn k i hk z.1;lia
   have hin:∀j,j∈h.mem k->j < k->∃d,h.dir j=some d:=λj hj hjk=>by
    cases hd:h.dir j with
    | some d=>exact ⟨d,rfl⟩
    | none=>
     have h1:=Ib g hd;have h2:=(mem_iff.mp hj).2;lia
   refine ⟨λi hi=> ?_,λi a hi ha=> ?_,λi hik hi hBi=> ?_,λi hi hBi hli=> ?_⟩
   ·show _=_ + (Bv k (h.c1 (h.reach s k).page i) + h.c1 (h.reach s k).page i k);rw [hcame,t.came i hi];have e1:Bv k (h.c1 (h.reach s k).page i)=Bv k (h.c1 s.page i):=Oo λj hj=>by
     by_cases hm:j∈h.mem k
     ·obtain ⟨d,hd⟩:=hin j hm hj;unfold Hs.c1;simp [hd]
     ·unfold Hs.c1 Iu;rw [hpg j hm]
    rw [e1];unfold Hs.c1;simp only [hdir,true_and];lia
   ·show _=_ + (Bv k (h.o1 (h.reach s k).page i a) + h.o1 (h.reach s k).page i a k);rw [hcom,t.coming i a hi ha];have e1:Bv k (h.o1 (h.reach s k).page i a)=Bv k (h.o1 s.page i a):=Oo λj hj=>by
     by_cases hm:j∈h.mem k
     ·obtain ⟨d,hd⟩:=hin j hm hj;have hs:=ZDV hd;unfold Hs.o1;simp [hs.2.1,ZDH hs.2.2.1]
     ·unfold Hs.o1 Iu V5;rw [hpg j hm]
    rw [e1];unfold Hs.o1;rw [ZDH hB'];simp;lia
   ·have hik2:i < k:=by
     rcases qI i k with z | z
     ·exact z
     ·have e2:i=k:=by lia
      rw [e2,hB'] at hBi;cases hBi
    have hm:i ∉ h.mem k:=λz=>by have h1:=(mem_iff.mp z).2;have h2:=Ib g (Qh hBi);lia
    rw [hpg i hm,hlow i (by lia)];exact t.basin i hik2 hi hBi
   ·by_cases e2:h.last i=k
    ·have hm:i∈h.mem k:=mem_iff.mpr ⟨hi,e2⟩;rw [hpm i hm,e2];have:=ZAQ (h:=h) (m:=k) (ca:=s.came) (ca':=(h.reach s k).came) λj hj=>(hlow j (Xe g hj)).symm
     rw [<-this.1,<-this.2]
     rfl
    ·have hm:i ∉ h.mem k:=λz=>e2 (mem_iff.mp z).2
     rw [hpg i hm,t.reach i hi hBi (by lia)];have:=ZAQ (h:=h) (m:=h.last i) (ca:=s.came) (ca':=(h.reach s k).came) λj hj=>(hlow j (by have:=Xe g hj;lia)).symm
     rw [this.1,this.2]
  ·
   have e:h.step yt lv s k=s:=by unfold Hs.step;rw [if_neg hB,if_neg hl]
   rw [e];obtain ⟨d,hd⟩:∃d,h.dir k=some d:=by
    cases hd:h.dir k with
    | some d=>exact ⟨d,rfl⟩
    | none=>exact absurd (Ib g hd) hl
   have hs:=ZDV hd;refine ⟨λi hi=> ?_,λi a hi ha=> ?_,λi hik hi hBi=> ?_,λi hi hBi hli=> ?_⟩
   ·show _=_ + (Bv k (h.c1 s.page i) + h.c1 s.page i k);rw [t.came i hi];unfold Hs.c1;simp [hd]
   ·show _=_ + (Bv k (h.o1 s.page i a) + h.o1 s.page i a k);rw [t.coming i a hi ha];unfold Hs.o1;simp [hs.2.1,ZDH hs.2.2.1]
   ·refine t.basin i ?_ hi hBi;rcases qI i k with z | z
    ·exact z
    ·have e2:i=k:=by lia
     rw [e2,hB'] at hBi;cases hBi
   ·refine t.reach i hi hBi ?_;rcases qI (h.last i) k with z | z
    ·exact z
    ·have e2:h.last i=k:=by lia
     have:=Xc g h.n i (by lia);rw [e2] at this;exact absurd this hl
theorem ZIy (g:GoodH h):∀(m k:Nat) (s:Cs),k + m=h.n->TI h yt lv co fl k s->TI h yt lv co fl h.n (h.goF yt lv m k s)
 | 0,k,s,e,t=>by
  have e1:k=h.n:=by lia
  rw [e1] at t;exact t
 | m + 1,k,s,e,t=>ZIy g m (k + 1) _ (by lia) (ZKI g (by lia) t)
theorem ZQ5 (g:GoodH h) :TI h (at_ % h.yr) lv co fl h.n (h.cs lv co at_ fl):=by
 refine ZIy g h.n 0 _ (by lia) ⟨λi hi=> ?_,λi a hi ha=> ?_,(λi hi=>absurd hi (by lia)),(λi _ _ hi=>absurd hi (by lia))⟩
 ·show fl i + co i 0=fl i + co i 0 + 0;lia
 ·show Kl co i a=Kl co i a + 0;lia
end
theorem ZFH:∀{m:Nat} {F:Nat->Int},Bv (m + 1) F=F 0 + Bv m λj=>F (j + 1)
 | 0,F=>by show (0:Int) + F 0=F 0 + 0;lia
 | m + 1,F=>by show Bv (m + 1) F + F (m + 1)=F 0 + (Bv m (λj=>F (j + 1)) + F (m + 1));rw [ZFH];lia
theorem ZIU:∀{n:Nat} {F:Nat->Int},Bv n F=((zj n).map F).sum
 | 0,F=>rfl
 | n + 1,F=>by show Bv n F + F n=_;rw [jD,ZIU];simp
theorem sum_filter {p:Nat->Bool} :∀{l:List Nat},((l.filter p).map F).sum=(l.map λi=>if p i=true then F i else 0).sum
 | []=>rfl
 | a::l=>by
  rw [List.filter_cons];by_cases h:p a=true
  ·rw [if_pos h,zA,List.sum_cons,sum_filter];simp [h]
  ·rw [if_neg h,sum_filter];simp [h]
theorem ZH3:∀{l:List Nat},Bv l.length (λj=>F (l.getD j 0))=(l.map F).sum
 | []=>rfl
 | a::l=>by
  show Bv (l.length + 1) _=_;rw [ZFH,zA,List.sum_cons,<-ZH3]
  rfl
section
variable {h:Hs} {yt:Int} {lv:Nat->Int} {co:Nat->Nat->Int} {fl:Nat->Int}
theorem ZAe:(h.mem m).Nodup:=(N8 (h:=h) (m:=m)).imp λhab=>zE hab
theorem ZGe (hi:i < ms.length):(h.rows ms ca)[i]? =some (h.row ms ca ms[i]):=by
 unfold Hs.rows;rw [zw,zQ hi]
 rfl
theorem Lj {q:Row->Int} (hk:k∈ms):col q (h.rows ms ca) (ms.idxOf k)=q (h.row ms ca k):=by have hl:=zH hk;unfold col;rw [ZGe hl,qx hl]
end
theorem ZEM {x:Int}:∀{n:Nat},Bv n (λk=>if d=k then x else 0)=if d < n then x else 0
 | 0=>rfl
 | n + 1=>by
  show Bv n _ + (if d=n then x else 0)=_;rw [ZEM];by_cases h:d=n
  ·rw [if_neg (show¬d < n by lia),if_pos h,if_pos (show d < n + 1 by lia)];lia
  ·rw [if_neg h];by_cases h2:d < n
   ·rw [if_pos h2,if_pos (show d < n + 1 by lia)];lia
   ·rw [if_neg h2,if_neg (show¬d < n + 1 by lia)];lia
theorem ZFK {t:Int}:∀{r:List Ssn} {x:List Stp},held t r x=x∨∃s∈r,held t r x=s.2
 | [],x=>.inl rfl
 | s::r,x=>by
  show held t r (if s.1<=t then s.2 else x)=x∨_;rcases ZFK (t:=t) (r:=r) (x:=if s.1<=t then s.2 else x) with z | ⟨s',hs,z⟩
  ·by_cases hc:s.1<=t
   ·rw [if_pos hc] at z;exact .inr ⟨s,by simp,by show held t r (if s.1<=t then s.2 else x)=_;rw [if_pos hc];exact z⟩
   ·rw [if_neg hc] at z;exact .inl (by rw [if_neg hc];exact z)
  ·exact .inr ⟨s',zZ _ hs,z⟩
section
variable {h:Hs} {yt:Int} {lv:Nat->Int} {co:Nat->Nat->Int} {fl:Nat->Int}
end
theorem ZFI {w:Int}:∀{st:List Stp} {t:Int},Good t st->rv w st + pm w st<=max 0 (w - t)
 | [],t,_=>by show (0:Int) + 0<=_;lia
 | s::st,t,hg=>by
  obtain ⟨h1,h2,h3⟩:=hg;have ih:=ZFI (w:=w) h3;have e:rv w (s::st) + pm w (s::st)=cub w s + (rv w st + pm w st):=by
   show (if s.r then cub w s else 0) + rv w st + ((if s.r then 0 else cub w s) + pm w st)=_
   split <;> lia
  rw [e];unfold cub;lia
section
variable {h:Hs} {yt:Int} {lv lv':Nat->Int} {co co':Nat->Nat->Int} {fl fl':Nat->Int}
theorem ZK9 (g:GoodH h) (hk:k < h.n) {b:Int} {r:List Ssn} (e:(h.pl k).kd=.basin b r q):Good 0 (held yt r []):=by
 rcases ZFK (t:=yt) (r:=r) (x:= []) with z | ⟨s,hs,z⟩
 ·rw [z];trivial
 ·rw [z];exact (g.brim k b r q hk e).2 s hs
end
structure PageOk (h:Hs) (pg:Nat->List Int):Prop where
 row:∀k,k < h.n->∃a b c d e f,pg k= [a,b,c,d,e,f]/\0<=a/\0<=b/\0<=c/\0<=d/\0<=e/\0<=f
 brim:∀k b r q,k < h.n->(h.pl k).kd=.basin b r q->(pg k).getD 5 0<=b/\(0 < (pg k).getD 2 0->(pg k).getD 5 0=b)
 town:∀k a b,k < h.n->(h.pl k).kd=.town a b->(pg k).getD 1 0<=a
 idleB:∀k,k < h.n->(h.pl k).kd.isB=true->(pg k).getD 1 0=0
 idleR:∀k,k < h.n->(h.pl k).kd.isB=false->(pg k).getD 2 0=0/\(pg k).getD 4 0=0/\(pg k).getD 5 0=0
structure StOk (h:Hs) (lv:Nat->Int) (co:Nat->Nat->Int):Prop where
 lv0:∀k,k < h.n->0<=lv k
 lvR:∀k,k < h.n->(h.pl k).kd.isB=false->lv k=0
 co0:∀k a,k < h.n->a < 5->0<=co k a
section
variable {h:Hs} {yt:Int} {lv:Nat->Int} {co:Nat->Nat->Int} {fl:Nat->Int}
theorem ZQd (g:GoodH h) (t:TI h yt lv co fl h.n s) (nn:s.NN h.n) (h0:∀k,k < h.n->0<=lv k):PageOk h s.page:=by
 refine ⟨λk hk=> ?_,λk b r q hk e=> ?_,λk a b hk e=> ?_,λk hk hB=> ?_,λk hk hB=> ?_⟩
 ·cases hB:(h.pl k).kd.isB with
  | true=>
   rw [t.basin k hk hk hB];unfold Hs.brow;cases e:(h.pl k).kd with
   | basin b r q=>
    have a0:=h0 k hk;have a1:=nn.1 k hk;have a2:=ZCJ (w:=lv k + s.came k) (st:=held yt r []);have a3:=ZAO (w:=lv k + s.came k) (st:=held yt r []);have a4:=ZFI (w:=lv k + s.came k) (ZK9 (yt:=yt) g hk e);have a5:=(g.brim k b r q hk e).1;exact ⟨_,_,_,_,_,_,rfl,a1,qJ _,by lia,a2,a3,by lia⟩
   | town _ _=>rw [e] at hB;cases hB
   | mill _=>rw [e] at hB;cases hB
  | false=>
   have hl:=(Gw g k).2 hk;rw [t.reach k hk hB hl];have hR:=K9 g (m:=h.last k) nn.1;have hm:k∈h.mem (h.last k):=mem_iff.mpr ⟨hk,rfl⟩;have hsi:=Kw hR;have t0:0<=h.K8 s.came (h.last k) ((h.mem (h.last k)).idxOf k):=hsi.t0 _;have l0:0<=h.Ja s.came (h.last k) ((h.mem (h.last k)).idxOf k):=by have:=hsi.p0 ((h.mem (h.last k)).idxOf k) (by rw [Gq];exact zH hm);rw [hsi.pg] at this;exact this
   exact ⟨_,_,_,_,_,_,rfl,by lia,t0,qJ _,l0,qJ _,qJ _⟩
 ·have hB:(h.pl k).kd.isB=true:=by rw [e];rfl
  rw [t.basin k hk hk hB];unfold Hs.brow;rw [e];simp only [List.getD_cons_succ,List.getD_cons_zero];lia
 ·have hB:(h.pl k).kd.isB=false:=by rw [e];rfl
  have hl:=(Gw g k).2 hk;rw [t.reach k hk hB hl];have hR:=K9 g (m:=h.last k) nn.1;have hm:k∈h.mem (h.last k):=mem_iff.mpr ⟨hk,rfl⟩;have hn:=(Kw hR).tn ((h.mem (h.last k)).idxOf k);rw [Lj hm] at hn;have e2:(h.row (h.mem (h.last k)) s.came k).need=a:=by show h.need k=a;unfold Hs.need;rw [e]
  rw [e2] at hn;exact hn
 ·rw [t.basin k hk hk hB];unfold Hs.brow
  cases e:(h.pl k).kd <;> rfl
 ·have hl:=(Gw g k).2 hk;rw [t.reach k hk hB hl];exact ⟨rfl,rfl,rfl⟩
end
theorem ZLZ:gat rs m k (λ_=>0)=λ_=>0:=by have:=Va (rs:=rs) m k (λ_=>0) (λ_=>0);simp only [Int.sub_self] at this;exact this
def Eu (X:Nat->Int) (m:Nat):Nat->Int:=λi=>if i < m then X i else 0
theorem ZIv (hR:Reach rs) (X:Nat->Int):∀m,m<=rs.length->∀i,gath rs (Eu X m) i=Bv m λj=>if i∈way rs j then X j else 0
 | 0,_,i=>by
  have e:Eu X 0=λ_=>0:=by funext i;simp [Eu]
  rw [e];show gat rs rs.length 0 (λ_=>0) i=0;rw [ZLZ]
 | m + 1,hm,i=>by
  have ih:=ZIv hR X m (by lia) i;have e:Eu X (m + 1)=λi=>Eu X m i + ind (X m) [m] i:=by
   funext i;unfold Eu ind;by_cases h1:i < m
   ·have h2:¬i=m:=by lia
    simp [h1,h2,show i < m + 1 by lia]
   ·by_cases h2:i=m
    ·subst h2;simp
    ·simp [h1,h2,show¬i < m + 1 by lia]
  rw [e];show gat rs rs.length 0 (λi=>Eu X m i + ind (X m) [m] i) i=_;rw [Yk hR rs.length 0 m (Eu X m) (by lia) (by lia) (by lia)];show gath rs (Eu X m) i + ind (X m) (way rs m) i=Bv m _ + _;rw [ih]
  rfl
theorem ZMj (hR:Reach rs) {X:Nat->Int} (hX:∀j,¬j < rs.length->X j=0) (i:Nat):gath rs X i=Bv rs.length λj=>if i∈way rs j then X j else 0:=by
 have e:Eu X rs.length=X:=by
  funext j;unfold Eu;by_cases h:j < rs.length
  ·rw [if_pos h]
  ·rw [if_neg h,hX j h]
 have:=ZIv hR X rs.length (zW _) i;rwa [e] at this
noncomputable def Hs.Mw (h:Hs):Nat->Nat->List Nat
 | 0,k=> [k]
 | m + 1,k=>k::(match h.dir k with
  | none=> []
  | some d=>h.Mw m d)
def Hs.chain (h:Hs) (k:Nat):List Nat:=h.Mw h.n k
def Hs.Jj (h:Hs):Option Nat->List Nat
 | none=> []
 | some d=>h.chain d
section
variable {h:Hs}
theorem ZE8 (g:GoodH h):∀(m m' k:Nat),h.n<=m + k + 1->h.n<=m' + k + 1->h.Mw m k=h.Mw m' k
 | 0,m',k,e,e'=>by
  have hn:h.dir k=none:=by
   cases hd:h.dir k with
   | none=>rfl
   | some d=>have:=Hj g hd;lia
  cases m' with
  | zero=>rfl
  | succ m'=>simp [Hs.Mw,hn]
 | m + 1,0,k,e,e'=>by
  have hn:h.dir k=none:=by
   cases hd:h.dir k with
   | none=>rfl
   | some d=>have:=Hj g hd;lia
  simp [Hs.Mw,hn]
 | m + 1,m' + 1,k,e,e'=>by
  cases hd:h.dir k with
  | none=>simp [Hs.Mw,hd]
  | some d=>
   have:=Hj g hd;simp [Hs.Mw,hd,ZE8 g m m' d (by lia) (by lia)]
theorem Mm (g:GoodH h) (k:Nat):h.chain k=k::h.Jj (h.dir k):=by
 unfold Hs.chain;rw [ZE8 g h.n (h.n + 1) k (by lia) (by lia)];show k::_=_;cases hd:h.dir k with
 | none=>rfl
 | some d=>rfl
theorem ZHk (g:GoodH h) (k:Nat):k∈h.chain k:=by rw [Mm g];exact zX
theorem ZJb (g:GoodH h):∀(m k:Nat),h.n<=m + k->∀b∈h.chain k,k<=b/\h.last b=h.last k/\(b≠k->∃d,h.dir k=some d/\b∈h.chain d)
 | 0,k,e,b,hb=>by rw [Mm g,Pn (by lia)] at hb;simp only [Hs.Jj,zK,List.not_mem_nil,or_false] at hb;subst hb;exact ⟨zW _,rfl,λz=>absurd rfl z⟩
 | m + 1,k,e,b,hb=>by
  rw [Mm g] at hb;rcases zK.mp hb with rfl | hb
  ·exact ⟨zW _,rfl,λz=>absurd rfl z⟩
  ·cases hd:h.dir k with
   | none=>rw [hd] at hb;cases hb
   | some d=>
    rw [hd] at hb;have hl:=Hj g hd;have ih:=ZJb g m d (by lia) b hb;exact ⟨by lia,by rw [ih.2.1,Li g hd],λ_=>⟨d,rfl,hb⟩⟩
theorem M4 (g:GoodH h) (hb:b∈h.chain k):k<=b/\h.last b=h.last k/\(b≠k->∃d,h.dir k=some d/\b∈h.chain d):=ZJb g h.n k (by lia) b hb
theorem ZIk (ha:a∈ms) (hb:b∈ms) (e:ms.idxOf a=ms.idxOf b):a=b:=by have l1:=zH ha;have l2:=zH hb;rw [<-qx l1,<-qx l2];simp only [e]
theorem ZKo (hk:k∈h.mem m):Cg (h.rows (h.mem m) ca) ((h.mem m).idxOf k)=(h.dir k).map λd=>(h.mem m).idxOf d:=by
 have hi:=zH hk;unfold Cg;rw [ZGe hi,qx hi]
 rfl
theorem Zk (g:GoodH h) {m:Nat} (hc:∀k,k < h.n->0<=ca k):∀(q k:Nat),h.n<=q + k->k∈h.mem m->way (h.rows (h.mem m) ca) ((h.mem m).idxOf k)=(h.chain k).map λd=>(h.mem m).idxOf d
 | 0,k,e,hk=>absurd (mem_iff.mp hk).1 (by lia)
 | q + 1,k,e,hk=>by
  have hR:=K9 g (m:=m) hc;rw [Ey hR,ZKo hk,Mm g,zA]
  congr 1
  cases hd:h.dir k with
  | none=>rfl
  | some d=>
   have hl:=Hj g hd;have hdm:d∈h.mem m:=mem_iff.mpr ⟨hl.2.1,by rw [<-Li g hd];exact (mem_iff.mp hk).2⟩;exact Zk g hc q d (by lia) hdm
theorem ZEu (g:GoodH h) (hc:∀k,k < h.n->0<=ca k) (hp:p∈h.mem m) {X:Nat->Int} (hX:∀j,¬j < (h.mem m).length->X j=0):gath (h.rows (h.mem m) ca) X ((h.mem m).idxOf p)=Bv h.n λj=>if p∈h.chain j then X ((h.mem m).idxOf j) else 0:=by
 have hR:=K9 g (m:=m) hc;rw [ZMj hR (λj hj=>hX j (by rwa [Gq] at hj)),Gq];have e3:Bv (h.mem m).length (λj=>if (h.mem m).idxOf p∈way (h.rows (h.mem m) ca) j then X j else 0)=Bv (h.mem m).length λj=>(λi=>if p∈h.chain i then X ((h.mem m).idxOf i) else 0) ((h.mem m).getD j 0):=Oo λj hj=>by
  have e4:(h.mem m).getD j 0=(h.mem m)[j]:=by simp [zy,zQ hj]
  show _=(if p∈h.chain ((h.mem m).getD j 0) then _ else _);rw [e4,Q3 ZAe hj];have hjm:(h.mem m)[j]∈h.mem m:=qz hj;have hw:=Zk g hc h.n (h.mem m)[j] (by lia) hjm;rw [Q3 ZAe hj] at hw;rw [hw];by_cases hin:p∈h.chain (h.mem m)[j]
  ·rw [if_pos hin,if_pos (zG.mpr ⟨p,hin,rfl⟩)]
  ·rw [if_neg hin,if_neg];intro z;obtain ⟨b,hb,eb⟩:=zG.mp z;have hbm:b∈h.mem m:=by have h1:=M4 g hb;have h2:=mem_iff.mp hjm;have h3:=(Gw g b).1;refine mem_iff.mpr ⟨?_,by lia⟩;have:=(Gw g (h.mem m)[j]).2 h2.1;lia
   have:=ZIk hbm hp eb;subst this;exact hin hb
 have e5:=ZH3 (F:=λi=>if p∈h.chain i then X ((h.mem m).idxOf i) else 0) (l:=h.mem m);rw [e3,e5,ZIU];have e6:((h.mem m).map λi=>if p∈h.chain i then X ((h.mem m).idxOf i) else 0).sum=((zj h.n).map λi=>if decide (h.last i=m)=true then (if p∈h.chain i then X ((h.mem m).idxOf i) else 0) else 0).sum:=sum_filter (p:=λk=>decide (h.last k=m)) (l:=zj h.n);rw [e6]
 congr 1
 refine zT λi hi=> ?_
 by_cases hd:p∈h.chain i
 ·have h1:=(mem_iff.mp hp).2;have h2:=(M4 g hd).2.1;rw [if_pos (by simp;lia)]
 ·simp [hd]
noncomputable def Hs.ahead (h:Hs) (j k:Nat):Bool:=(h.pl j).kd.isT && decide (h.rank j < h.rank k∨(h.rank j=h.rank k/\j < k))
theorem ZOI (ha:a∈h.mem m) (hb:b∈h.mem m):((h.mem m).idxOf a < (h.mem m).idxOf b)↔a < b:=by
 have l1:=zH ha;have l2:=zH hb;constructor
 ·intro z;have:=qy.mp (N8 (h:=h) (m:=m)) _ _ l1 l2 z;rwa [qx l1,qx l2] at this
 ·intro z;refine ZJO N8 l1 l2 ?_;rwa [qx l1,qx l2]
theorem ZIM (ha:a∈h.mem m) (hb:b∈h.mem m):ltK (h.rows (h.mem m) ca) ((h.mem m).idxOf a) ((h.mem m).idxOf b)=decide (h.rank a < h.rank b∨(h.rank a=h.rank b/\a < b)):=by unfold ltK;rw [Lj ha,Lj hb];refine decide_eq_decide.mpr ?_;show (h.rank a < h.rank b∨(h.rank a=h.rank b/\(h.mem m).idxOf a < (h.mem m).idxOf b))↔_;rw [ZOI ha hb]
theorem ZAs (hT:(h.pl k).kd.isT=false):h.need k=0:=by
 unfold Hs.need;cases e:(h.pl k).kd with
 | town a b=>rw [e] at hT;cases hT
 | basin _ _ _=>rfl
 | mill _=>rfl
variable {yt:Int} {lv:Nat->Int} {co:Nat->Nat->Int} {fl:Nat->Int}
def tk (pg:Nat->List Int) (k:Nat):Int:=(pg k).getD 1 0
noncomputable def Hs.U9 (h:Hs) (pg:Nat->List Int) (k p:Nat):Int:=Bv h.n λj=>if p∈h.chain j then (pg j).getD 0 0 - (if j≠p then (pg j).getD 3 0 else 0) - (if h.ahead j k=true then tk pg j else 0) else 0
theorem ZFR (v a:Int):∀(l:List Int),l.foldl min (min v a)=min v (l.foldl min a)
 | []=>rfl
 | x::l=>by show l.foldl min (min (min v a) x)=min v (l.foldl min (min a x));rw [Int.min_assoc,ZFR]
theorem ZPq (g:GoodH h) (t:TI h yt lv co fl h.n s) (nn:s.NN h.n) (hk:k < h.n) (hB:(h.pl k).kd.isB=false):tk s.page k=((h.chain k).map (h.U9 s.page k)).foldl min (h.need k):=by
 have hlk:=(Gw g k).2 hk;have hkm:k∈h.mem (h.last k):=mem_iff.mpr ⟨hk,rfl⟩;generalize hm:h.last k=m at hlk hkm;have hR:=K9 g (m:=m) nn.1;have hil:=zH hkm;obtain ⟨pre,post,P,T,_,_,hsi,hT,hsh,_,_⟩:=ZJZ hR (k:=(h.mem m).idxOf k) (by rw [Gq];exact hil);have hpg:∀j,j∈h.mem m->s.page j=rrow (h.K8 s.came m) (h.Ja s.came m) ((h.mem m).idxOf j):=λj hj=>by
  have h1:=mem_iff.mp hj;have hjB:(h.pl j).kd.isB=false:=by
   cases z:(h.pl j).kd.isB with
   | false=>rfl
   | true=>
    have h2:=Ib g (Qh z);have h3:=Qj g h.n k (by lia);rw [hm] at h3;have ej:j=m:=by lia
    rcases h3 with h3 | h3
    ·rw [ej,h3,hB] at z;cases z
    ·rw [<-ej,z] at h3;cases h3
  have:=t.reach j h1.1 hjB (by lia);rw [h1.2] at this;exact this
 have htk:tk s.page k=shr (h.rows (h.mem m) s.came) ((h.mem m).idxOf k):=by unfold tk;rw [hpg k hkm];rfl
 have hP:∀p∈h.chain k,P ((h.mem m).idxOf p)=h.U9 s.page k p:=λp hp=>by
  have hc:=M4 g hp;have hpm:p∈h.mem m:=by have h3:=(Gw g p).1;refine mem_iff.mpr ⟨by lia,by lia⟩
  have ho:∀j,¬j < (h.mem m).length->shr (h.rows (h.mem m) s.came) j=0:=λj hj=>ZHL (by rw [Gq];exact hj)
  have hwo:∀j,¬j < (h.mem m).length->col Row.water (h.rows (h.mem m) s.came) j=0:=λj hj=>by unfold col;rw [z5 (by rw [Gq];lia)]
  have e1:P ((h.mem m).idxOf p)=h.Ja s.came m ((h.mem m).idxOf p) + gath (h.rows (h.mem m) s.came) (λj=>shr (h.rows (h.mem m) s.came) j - T j) ((h.mem m).idxOf p):=by rw [hsi.pg];show gat _ _ _ (λi=>col Row.water (h.rows (h.mem m) s.came) i - T i) _=gat _ _ _ (λi=>col Row.water (h.rows (h.mem m) s.came) i - shr (h.rows (h.mem m) s.came) i) _ + gat _ _ _ (λj=>shr (h.rows (h.mem m) s.came) j - T j) _;rw [Va,Va,Va];show gat _ _ _ _ _ - gat _ _ _ _ _=(gat _ _ _ _ _ - gat _ _ _ _ _) + (gat _ _ _ _ _ - gat _ _ _ _ _);lia
  rw [e1,ZEu g nn.1 hpm (λj hj=>by rw [ho j hj,hT];simp [ho j hj])];have hpn:=(mem_iff.mp hpm).1;have e2:h.Ja s.came m ((h.mem m).idxOf p)=Bv h.n λj=>if p=j then h.Ja s.came m ((h.mem m).idxOf p) else 0:=by rw [ZEM,if_pos hpn]
  rw [e2,<-ZHc];refine Oo λj hj=> ?_
  by_cases hin:p∈h.chain j
  ·have hjm:j∈h.mem m:=mem_iff.mpr ⟨hj,by rw [<-(M4 g hin).2.1];exact (mem_iff.mp hpm).2⟩;rw [if_pos hin,if_pos hin,hT];simp only;rw [ZIM hjm hkm];have hpj:=hpg j hjm;have w1:(s.page j).getD 0 0=shr (h.rows (h.mem m) s.came) ((h.mem m).idxOf j) + h.Ja s.came m ((h.mem m).idxOf j):=by rw [hpj];rfl
   have w3:(s.page j).getD 3 0=h.Ja s.came m ((h.mem m).idxOf j):=by rw [hpj];rfl
   have wt:tk s.page j=shr (h.rows (h.mem m) s.came) ((h.mem m).idxOf j):=by unfold tk;rw [hpj];rfl
   rw [w1,w3,wt];have ha:(if h.ahead j k=true then shr (h.rows (h.mem m) s.came) ((h.mem m).idxOf j) else 0)=if decide (h.rank j < h.rank k∨(h.rank j=h.rank k/\j < k))=true then shr (h.rows (h.mem m) s.came) ((h.mem m).idxOf j) else 0:=by
    unfold Hs.ahead;cases hTn:(h.pl j).kd.isT with
    | true=>simp
    | false=>
     have h0:=(Kw hR).tn ((h.mem m).idxOf j);have h1:=(Kw hR).t0 ((h.mem m).idxOf j);rw [Lj hjm] at h0;have h2:(h.row (h.mem m) s.came j).need=0:=ZAs hTn;have h3:shr (h.rows (h.mem m) s.came) ((h.mem m).idxOf j)=0:=by lia
     rw [h3];simp
   rw [ha];by_cases ej:j=p
   ·subst ej;simp;lia
   ·rw [if_neg (λz=>ej z.symm),if_pos ej];lia
  ·rw [if_neg hin,if_neg hin,if_neg (λz=>hin (by rw [z];exact ZHk g j))]
   rfl
 rw [htk,hsh];unfold take1;rw [Lj hkm,Zk g nn.1 h.n k (by lia) hkm];show min (h.need k) _=_;rw [Mm g] at hP ⊢;rw [zA,zA];show min (h.need k) ((((h.Jj (h.dir k)).map λd=>(h.mem m).idxOf d).map P).foldl min (P ((h.mem m).idxOf k)))=((h.Jj (h.dir k)).map (h.U9 s.page k)).foldl min (min (h.need k) (h.U9 s.page k k));rw [ZFR,hP k zX,qU]
 congr 2
 exact zT λp hp=>hP p (zZ _ hp)
end
theorem ZME {x:Int} (hx:0<=x) (G:DH):V8 [.int x] G=.ok (.bl true) G:=by unfold V8 ZFk;rw [Bk];simp [hx,Bh]
theorem ZRL (h:∀x∈xs,0<=x) (G:DH):Dy (gV 0) Ck (dFn V8 (Ab (dV 0) Ad)) [none] (xs.map D.int) G=.ok ((xs.map λ_=>true).map D.bl) G:=by rw [qU];exact Tn (E:=D.int) (F:=λ_=>.bl true) λx hx=>by simp [ZME (h x hx)]
theorem ZMG (G:DH):freeze G (.ok (.ref G.length) (G++ [.lst ((xs.map λ_=>true).map D.bl)]))=.ok (.fl ((xs.map λ_=>true).map D.bl)) G:=Fj (Gi λ_ _=>rfl)
theorem ZL0:(xs.map λ_=>true).all id=true:=by simp
theorem ZEj {x y:Option D} {G:DH}:∀(rows:List (List Int)) (z:Option D),(∀r∈rows,r.length=6/\∀v∈r,0<=v)->∃z',Bp (gV 2) Wg (rows.map λr=>.tup (r.map D.int)) [x,y,z] G=.nx [x,y,z'] G
 | [],z,_=>⟨z,by rw [j7,Ea]⟩
 | r::rows,z,h=>by
  obtain ⟨z',ih⟩:=ZEj (x:=x) (y:=y) (G:=G) rows (some (.tup (r.map D.int))) λr' hr'=>h r' (zZ _ hr')
  refine ⟨z',?_⟩;obtain ⟨h6,h0⟩:=h r (by simp);have hb:Wg [x,y,some (.tup (r.map D.int))] G=.nx [x,y,some (.tup (r.map D.int))] G:=by
   have hw:=ZRL h0 G;have hz:=ZMG (xs:=r) G;have hal:=ZL0 (xs:=r);have ea:=ZLe (ks:=r.map λ_=>true) (G:=G);rw [hal] at ea;have hts:((r.map λ_=>true).map D.bl).length<=1000000:=by simp [h6]
   generalize (r.map λ_=>true).map D.bl=ts at hw hz ea hts;unfold Wg ZJW;simp [hts,h6,Bl,hw,hz,ea]
  rw [zA,Dp];simp only [Du,R.Dl,qY,hb,Dr];exact ih
theorem ZML (p:PageOk h pg):Df h.n pg=((zj h.n).map pg).map λr=>.tup (r.map D.int):=by
 unfold Df;rw [qU];refine zT λk hk=> ?_
 obtain ⟨a,b,c,d,e,f,e1,_⟩:=p.row k (zS.mp hk);show Js (pg k)=_;rw [e1];simp [Js,e1]
theorem ZRQ (p:PageOk h pg) (G:DH):Wa [pgD h.n pg,.int h.n] G=.ok (.bl true) G:=by
 obtain ⟨z',hL⟩:=ZEj (x:=some (pgD h.n pg)) (y:=some (.int h.n)) (G:=G) ((zj h.n).map pg) none λr hr=>by
  obtain ⟨k,hk,rfl⟩:=zG.mp hr;obtain ⟨a,b,c,d,e,f,e1,h1,h2,h3,h4,h5,h6⟩:=p.row k (zS.mp hk);rw [e1];refine ⟨rfl,λv hv=> ?_⟩;simp only [zK,List.not_mem_nil,or_false] at hv
  rcases hv with rfl | rfl | rfl | rfl | rfl | rfl <;> assumption
 rw [<-ZML p] at hL;have hlen:(Df h.n pg).length=h.n:=ZAZ;unfold pgD at hL ⊢;generalize Df h.n pg=L at hL hlen;unfold Wa ZEJ;rw [Bk];simp [hlen,hL,Bh]
theorem ZCr {n:Nat} (hk:k < n) {a b d e f:Int} (e1:pg k= [a,b,c,d,e,f]):atI (Df n pg) (k:Int)=some (.tup [.int a,.int b,.int c,.int d,.int e,.int f]):=Eo rfl (by unfold Df;rw [zw,zO hk];simp [Js,e1])
theorem ZFe (g:GoodH h) (hk:k < h.n) (hd:h.dn k=none) {G:DH}:∀(m j:Nat) (x:Option D),j + m=h.n->∃x',Bp (gV 2) Jk (Cm j m) [some h.enc,some (.int k),x] G=.nx [some h.enc,some (.int k),x'] G
 | 0,j,x,e=>⟨x,by rw [Pj,Ea]⟩
 | m + 1,j,x,e=>by
  have hj:j < h.n:=by lia
  obtain ⟨x',ih⟩:=ZFe g hk hd (G:=G) m (j + 1) (some (.int j)) (by lia);refine ⟨x',?_⟩;have a1:atI h.Cw (k:Int)=some (h.encP (h.pl k)):=Hs.Dv hk;have a2:atI h.Cw (j:Int)=some (h.encP (h.pl j)):=Hs.Dv hj;have hd':(h.pl k).dn=none:=hd;have hb:Jk [some h.enc,some (.int k),some (.int j)] G=.nx [some h.enc,some (.int k),some (.int j)] G:=by unfold Jk;simp [Cv,a1,a2,hd',Hs.dnT,g.sea j hj]
  rw [Lk,Dp];simp only [Du,R.Dl,qY,hb,Dr];have e2:((j:Int) + 1)=((j + 1:Nat):Int):=by lia
  rw [e2,ih]
theorem ZFV (g:GoodH h) (hk:k < h.n) (hd:h.dn k=some d) (hdn:d < h.n) :∀(m j:Nat) (x:Option D),j + m=h.n->j<=d->Bp (gV 2) Jk (Cm j m) [some h.enc,some (.int k),x] G=.rt (.int d) G
 | 0,j,x,e,hj=>absurd hj (by lia)
 | m + 1,j,x,e,hjd=>by
  have hj:j < h.n:=by lia
  have a1:atI h.Cw (k:Int)=some (h.encP (h.pl k)):=Hs.Dv hk;have a2:atI h.Cw (j:Int)=some (h.encP (h.pl j)):=Hs.Dv hj;have hd':(h.pl k).dn=some d:=hd;rw [Lk,Dp];by_cases ej:j=d
  ·subst ej;have hb:Jk [some h.enc,some (.int k),some (.int j)] G=.rt (.int j) G:=by unfold Jk;simp [Cv,a1,a2,hd',Hs.dnT]
   simp only [Du,R.Dl,qY,hb,ZMk]
  ·have hne:¬(h.pl j).nm=(h.pl d).nm:=λz=>ej (g.inj j d hj hdn z)
   have hb:Jk [some h.enc,some (.int k),some (.int j)] G=.nx [some h.enc,some (.int k),some (.int j)] G:=by unfold Jk;simp [Cv,a1,a2,hd',Hs.dnT,hne]
   simp only [Du,R.Dl,qY,hb,Dr];have e2:((j:Int) + 1)=((j + 1:Nat):Int):=by lia
   rw [e2];exact ZFV g hk hd hdn m (j + 1) _ (by lia) (by lia)
theorem Z9 (g:GoodH h) (hk:k < h.n) (G:DH):Vd [h.enc,.int k] G=.ok (dnD (h.dn k)) G:=by
 have hr:inR (h.n:Int):=Gg (by lia) (by have:=g.len;lia);cases hd:h.dn k with
 | none=>
  obtain ⟨x',hL⟩:=ZFe g hk hd (G:=G) h.n 0 none (by lia);have hL':Bp (gV 2) Jk (Cm 0 h.n) _ _=_:=hL;unfold Vd ZBE;rw [Bk];simp [Cv,Hs.Lr,hr,hL',dnD,Bh]
 | some d=>
  have hL:=ZFV g hk hd (g.dn k d hk hd).2 (G:=G) h.n 0 none (by lia) (by lia);have hL':Bp (gV 2) Jk (Cm 0 h.n) _ _=_:=hL;unfold Vd ZBE;rw [Bk];simp [Cv,Hs.Lr,hr,hL',dnD,Bh]
theorem ZDN (g:GoodH h) (hk:k < h.n) (hB:(h.pl k).kd.isB=false) (G:DH):U8 [h.enc,.int k] G=.ok (dnD (h.dir k)) G:=by
 have a1:atI h.Cw (k:Int)=some (h.encP (h.pl k)):=Hs.Dv hk;unfold U8 ZIf;rw [Bk];cases hd:h.dn k with
 | none=>
  have e:h.dir k=none:=by unfold Hs.dir;rw [hd]
  simp [Z9 g hk,hd,e,dnD,Bh]
 | some d=>
  have hl:=g.dn k d hk hd;have a2:atI h.Cw (d:Int)=some (h.encP (h.pl d)):=Hs.Dv hl.2;by_cases h1:0 < (h.pl k).dl
  ·have e:h.dir k=none:=by unfold Hs.dir;rw [hd];simp [h1]
   simp [Z9 g hk,hd,e,dnD,Bh,Cv,a1,h1]
  ·cases h2:(h.pl d).kd.isB with
   | true=>
    have e:h.dir k=none:=by unfold Hs.dir;rw [hd];simp [h2]
    simp [Z9 g hk,hd,e,dnD,Bh,Cv,a1,a2,h1,Hy,h2]
   | false=>
    have e:h.dir k=some d:=by unfold Hs.dir;rw [hd];simp [h1,h2,hB]
    simp [Z9 g hk,hd,e,dnD,Bh,Cv,a1,a2,h1,Hy,h2]
noncomputable def inO (o:Option Nat) (l:List Nat):Bool:=match o with
 | none=>false
 | some d=>decide (d∈l)
theorem ZBq:∀l:List Nat,Jq (Ao l)=some (l.map λ(i:Nat)=>V.int (i:Int))
 | []=>rfl
 | a::l=>by
  show (match Oj (.int (a:Int)),Jq (Ao l) with | some v,some vs=>some (v::vs) | _,_=>none)=_
  rw [ZBq l]
  rfl
theorem ZGG:∀l:List Nat,inV .non (l.map λ(i:Nat)=>V.int (i:Int))=false
 | []=>rfl
 | a::l=>by
  show (eqV (.int (a:Int)) .non || inV .non (l.map λ(i:Nat)=>V.int (i:Int)))=false;rw [ZGG l]
  rfl
theorem ZGK (d:Nat):∀l:List Nat,inV (.int (d:Int)) (l.map λ(i:Nat)=>V.int (i:Int))=decide (d∈l)
 | []=>by simp [inV]
 | a::l=>by
  show (eqV (.int (a:Int)) (.int (d:Int)) || inV (.int (d:Int)) (l.map λ(i:Nat)=>V.int (i:Int)))=_;rw [ZGK d l];show (((a:Int) == (d:Int)) || decide (d∈l))=_;by_cases e:a=d
  ·subst e;simp
  ·have e2:¬d=a:=λz=>e z.symm
   have e3:¬((a:Int)=(d:Int)):=by lia
   simp [e2,e3]
theorem ZPx (h:G[i]? =some (.lst (Ao l))):Tr (dnD o) (.ref i) G=.ok (.bl (inO o l)) G:=by
 have hs:By (.ref i) G=some (Ao l):=by simp [h]
 have key:inD (dnD o) (.ref i) G=some (inO o l):=by
  cases o with
  | none=>
   show (match By (.ref i) G,Oj .non with | some xs,some v=>(Jq xs).map λvs=>inV v vs | _,_=>none)=_
   rw [hs];show (Jq (Ao l)).map (λvs=>inV .non vs)=some false;rw [ZBq];show some (inV _ _)=_;rw [ZGG]
  | some d=>
   show (match By (.ref i) G,Oj (.int (d:Int)) with | some xs,some v=>(Jq xs).map λvs=>inV v vs | _,_=>none)=_
   rw [hs];show (Jq (Ao l)).map (λvs=>inV (.int (d:Int)) vs)=some (decide (d∈l));rw [ZBq];show some (inV _ _)=_;rw [ZGK]
 unfold Tr;rw [key]
noncomputable def Hs.Lz (h:Hs):Nat->List Nat->List Nat
 | 0,l=>l
 | k + 1,l=>h.Lz k (if inO (h.dir k) l=true then l++ [k] else l)
def Hs.above (h:Hs) (p:Nat):List Nat:=h.Lz p [p]
theorem ZIA (g:GoodH h) {p:D} {G:DH}:∀(j:Nat) (l:List Nat) (x:Option D),j<=h.n->l.length + j<=100->∃x',
  Bp (gV 3) Ut (Jx ((j:Int) - 1) j) [some h.enc,some p,some (.ref G.length),x] (G++ [.lst (Ao l)])=.nx [some h.enc,some p,some (.ref G.length),x'] (G++ [.lst (Ao (h.Lz j l))])
 | 0,l,x,e,hl=>⟨x,by rw [ZFL,Ea];rfl⟩
 | j + 1,l,x,e,hl=>by
  have hj:j < h.n:=by lia
  obtain ⟨x',ih⟩:=ZIA g (p:=p) (G:=G) j (if inO (h.dir j) l=true then l++ [j] else l) (some (.int j)) (by lia) (by by_cases hc:inO (h.dir j) l=true <;> simp [hc] <;> lia)
  refine ⟨x',?_⟩;have e1:(((j + 1:Nat):Int) - 1)=j:=by lia
  have a1:atI h.Cw (j:Int)=some (h.encP (h.pl j)):=Hs.Dv hj;have hin:=ZPx (o:=h.dir j) (l:=l) (i:=G.length) (G:=G++ [.lst (Ao l)]) (by simp);have hal:l.length < 1000000:=by lia
  have ea:Ao l++ [.int (j:Int)]=Ao (l++ [j]):=by simp [Ao]
  have hb:Ut [some h.enc,some p,some (.ref G.length),some (.int j)] (G++ [.lst (Ao l)])=.nx [some h.enc,some p,some (.ref G.length),some (.int j)] (G++ [.lst (Ao (if inO (h.dir j) l=true then l++ [j] else l))]):=by
   unfold Ut;cases hB:(h.pl j).kd.isB with
   | true=>
    have e2:inO (h.dir j) l=false:=by rw [Qh hB];rfl
    simp [Cv,a1,Hy,hB,e2]
   | false=>
    cases h2:inO (h.dir j) l with
    | true=>simp [Cv,a1,Hy,hB,ZDN g hj hB,hin,h2,Dj,Ep,hal,ea]
    | false=>simp [Cv,a1,Hy,hB,ZDN g hj hB,hin,h2]
  rw [e1,ZGY,Dp];simp only [Du,R.Dl,qY,hb,Dr];exact ih
theorem ZOs (g:GoodH h) (hp:p < h.n) (G:DH):Xa [h.enc,.int p] G=.ok (.ref G.length) (G++ [.lst (Ao (h.above p))]):=by
 have hn:=g.len;obtain ⟨x',hL⟩:=ZIA g (p:=.int p) (G:=G) p [p] none (by lia) (by simp;lia);have hL':Bp (gV 3) Ut (Jx ((p:Int) - 1) p) [some h.enc,some (.int p),some (.ref G.length),none] (G++ [.lst [.int (p:Int)]])=.nx [some h.enc,some (.int p),some (.ref G.length),x'] (G++ [.lst (Ao (h.above p))]):=hL;have t0:tidy G (.ok (.ref G.length) (G++ [.lst [.int (p:Int)]]))=.ok (.ref G.length) (G++ [.lst [.int (p:Int)]]):=Fb rfl
 have q1:inR ((p:Int) - 1):=Gg (by lia) (by lia);have q2:inR (-1):=Gg (by lia) (by lia);have e2:((p:Int) - 1 - -1).toNat=p:=by lia
 have e3:((p:Int) - 1 + 1).toNat=p:=by lia
 unfold Xa ZIj;rw [Bk];simp [Av,t0,q1,q2,ZJo,e2,e3,hL',Fb]
theorem ZB8 (g:GoodH h) {p:Nat} (F:Nat->Int):∀(k:Nat) (l:List Nat),k<=p->(∀j,k<=j->(j∈l↔p∈h.chain j))->(∀j∈l,k<=j)->((h.Lz k l).map F).sum=(l.map F).sum + Bv k (λj=>if p∈h.chain j then F j else 0)/\∀j,j∈h.Lz k l↔p∈h.chain j
 | 0,l,hk,hl,h0=>⟨by show (l.map F).sum=(l.map F).sum + 0;lia,λj=>hl j (by lia)⟩
 | k + 1,l,hk,hl,h0=>by
  have hin:inO (h.dir k) l=true↔p∈h.chain k:=by
   cases hd:h.dir k with
   | none=>
    rw [Mm g,hd];simp only [inO,Hs.Jj,zK,List.not_mem_nil,or_false];constructor
    ·intro z;cases z
    ·intro z;lia
   | some d=>
    have hlt:=Hj g hd;rw [Mm g,hd];simp only [inO,Hs.Jj,zK,decide_eq_true_eq];rw [hl d (by lia)];constructor
    ·exact .inr
    ·rintro (z | z)
     ·lia
     ·exact z
  have kn:k ∉ l:=λz=>by have:=h0 k z;lia
  by_cases hc:inO (h.dir k) l=true
  ·have ih:=ZB8 g (p:=p) F k (l++ [k]) (by lia) (λj hj=>by
    by_cases e:j=k
    ·subst e;simp [hin.mp hc]
    ·rw [qG];simp only [qB,e,or_false];exact hl j (by lia)) (λj hj=>by
    rcases qG.mp hj with z | z
    ·have:=h0 j z;lia
    ·simp at z;lia)
   show ((h.Lz k (if inO (h.dir k) l=true then l++ [k] else l)).map F).sum=(l.map F).sum + (Bv k (λj=>if p∈h.chain j then F j else 0) + (if p∈h.chain k then F k else 0))/\∀j,j∈h.Lz k (if inO (h.dir k) l=true then l++ [k] else l)↔_;rw [if_pos hc,if_pos (hin.mp hc)];refine ⟨?_,ih.2⟩;rw [ih.1];simp only [List.map_append,List.sum_append,zA,j7,List.sum_cons,List.sum_nil];lia
  ·have ih:=ZB8 g (p:=p) F k l (by lia) (λj hj=>by
    by_cases e:j=k
    ·subst e;exact ⟨λz=>absurd z kn,λz=>absurd (hin.mpr z) hc⟩
    ·exact hl j (by lia)) (λj hj=>by have:=h0 j hj;lia)
   show ((h.Lz k (if inO (h.dir k) l=true then l++ [k] else l)).map F).sum=(l.map F).sum + (Bv k (λj=>if p∈h.chain j then F j else 0) + (if p∈h.chain k then F k else 0))/\∀j,j∈h.Lz k (if inO (h.dir k) l=true then l++ [k] else l)↔_;rw [if_neg hc,if_neg λz=>hc (hin.mpr z)];refine ⟨?_,ih.2⟩;rw [ih.1];lia
theorem ZQB (g:GoodH h) (j:Nat) (hj:p<=j):j∈ [p]↔p∈h.chain j:=by
 simp only [qB];constructor
 ·intro z;subst z;exact ZHk g j
 ·intro z;have:=(M4 g z).1;lia
theorem ZG3 (g:GoodH h) :j∈h.above p↔p∈h.chain j:=(ZB8 g (p:=p) (λ_=>0) p [p] (zW _) (ZQB g) (λj hj=>by simp at hj;lia)).2 j
theorem ZKC (hj:j < h.n) (hk:k < h.n) (hT:(h.pl k).kd.isT=true) (G:DH):Xh [h.enc,.int j,.int k] G=.ok (.bl (h.ahead j k)) G:=by
 have a1:atI h.Cw (j:Int)=some (h.encP (h.pl j)):=Hs.Dv hj;have a2:atI h.Cw (k:Int)=some (h.encP (h.pl k)):=Hs.Dv hk;have e5:∀(i:Nat),(h.pl i).kd.isT=true->∀G,Aj (h.encP (h.pl i)) (.int 5) G=.ok (.int (h.rank i)) G:=λi hi G=>by
  unfold Hs.encP Hs.rank;cases e:(h.pl i).kd with
  | town a b=>simp
  | basin _ _ _=>rw [e] at hi;cases hi
  | mill _=>rw [e] at hi;cases hi
 unfold Xh ZJP Hs.ahead;rw [Bk];cases hjT:(h.pl j).kd.isT with
 | false=>simp [Cv,a1,a2,Jd,hjT,Bh]
 | true=>
  by_cases h1:h.rank j < h.rank k
  ·simp [Cv,a1,a2,Jd,hjT,e5 j hjT,e5 k hT,h1,Bh]
  ·by_cases h2:h.rank j=h.rank k
   ·by_cases h3:j < k
    ·have h3':(j:Int) < k:=by lia
     simp [Cv,a1,a2,Jd,hjT,e5 j hjT,e5 k hT,h1,h2,h3,h3',Bh]
    ·have h3':¬(j:Int) < k:=by lia
     simp [Cv,a1,a2,Jd,hjT,e5 j hjT,e5 k hT,h1,h2,h3,h3',Bh]
   ·simp [Cv,a1,a2,Jd,hjT,e5 j hjT,e5 k hT,h1,h2,Bh]
theorem ZQh (G:DH):Vw [h.encP (h.pl k)] G=.ok (.int (h.need k)) G:=by
 unfold Vw ZHC Hs.need;rw [Bk];cases e:(h.pl k).kd with
 | town a b=>
  have e4:∀G,Aj (h.encP (h.pl k)) (.int 4) G=.ok (.int a) G:=λG=>by unfold Hs.encP;rw [e];simp
  simp [Jd,e,Kd.isT,e4,Bh]
 | basin _ _ _=>simp [Jd,e,Kd.isT,Bh]
 | mill _=>simp [Jd,e,Kd.isT,Bh]
noncomputable def Hs.Gk (h:Hs) (ca:Nat->Int) (m:Nat):D:=.tup [.fl (Ao (h.mem m)),.fl ((h.rows (h.mem m) ca).map Row.enc)]
def Hs.isLast (h:Hs) (m:Nat):Bool:= !(h.pl m).kd.isB && decide (h.last m=m)
noncomputable def Hs.Rq (h:Hs) (ca:Nat->Int) (k:Nat):List D:=((zj k).filter h.isLast).map (h.Gk ca)
section
variable {h:Hs} {yt:Int} {lv:Nat->Int} {co:Nat->Nat->Int} {fl:Nat->Int}
theorem ZH8 (g:GoodH h) (hk:k < h.n) (hi:i<=k):(h.step yt lv s k).came i=s.came i:=by
 have hd:∀c:Int,(if h.dn k=some i/\(h.pl k).dl=0 then c else 0)=0:=λc=>by rw [if_neg];intro z;have:=g.dn k i hk z.1;lia
 unfold Hs.step;split
 ·unfold Hs.basin;cases ek:(h.pl k).kd with
  | basin b r q=>
   simp only;cases hq:q with
   | none=>simp only [Qp,hd];lia
   | some q'=>
    obtain ⟨to,dl,m⟩:=q';have hp:=g.pump k b r to dl m hk (by rw [ek,hq]);simp only [ZBg,Qp,hd];rw [if_neg (show¬(to=i/\dl=0) by lia)];lia
  | town _ _=>rfl
  | mill _=>rfl
 ·split
  ·unfold Hs.reach;simp only [Qp,hd];lia
  ·rfl
theorem ZGs (g:GoodH h) (e:∀i,i<=m->ca i=ca' i):h.Gk ca m=h.Gk ca' m:=by unfold Hs.Gk;rw [ZG4 (h:=h) (ms:=h.mem m) (ca:=ca) (ca':=ca') λj hj=>e j (Xe g hj)]
theorem ZRp (g:GoodH h) (hk:k < h.n) (e:s.rea=h.Rq s.came k):(h.step yt lv s k).rea=h.Rq (h.step yt lv s k).came (k + 1):=by
 have e1:((zj k).filter h.isLast).map (h.Gk (h.step yt lv s k).came)=s.rea:=by
  rw [e];refine zT λm hm=> ?_
  have hmk:m < k:=zS.mp (j0.mp hm).1;exact ZGs g λi hi=>ZH8 g hk (by lia)
 unfold Hs.Rq;rw [jD,List.filter_append,List.map_append,e1];have hE:h.Gk (h.step yt lv s k).came k=h.Gk s.came k:=ZGs g λi hi=>ZH8 g hk hi
 cases hB:(h.pl k).kd.isB with
 | true=>
  have hl:h.isLast k=false:=by unfold Hs.isLast;rw [hB];rfl
  have es:h.step yt lv s k=h.basin yt lv s k:=by unfold Hs.step;rw [if_pos hB]
  rw [es,ZGw];simp [hl]
 | false=>
  by_cases hl:h.last k=k
  ·have hL:h.isLast k=true:=by unfold Hs.isLast;rw [hB];simp [hl]
   have es:h.step yt lv s k=h.reach s k:=by unfold Hs.step;rw [if_neg (by rw [hB];exact zx),if_pos hl]
   rw [List.filter_cons,if_pos hL,List.filter_nil,zA,j7,hE,es];unfold Hs.reach;show (h.Ff _ k _).rea++_=_;rw [Ls.1]
   rfl
  ·have hL:h.isLast k=false:=by unfold Hs.isLast;simp [hl]
   have es:h.step yt lv s k=s:=by unfold Hs.step;rw [if_neg (by rw [hB];exact zx),if_neg hl]
   rw [es];simp [hL]
theorem ZEZ (g:GoodH h):∀(m k:Nat) (s:Cs),k + m=h.n->s.rea=h.Rq s.came k->(h.goF yt lv m k s).rea=h.Rq (h.goF yt lv m k s).came h.n
 | 0,k,s,e,t=>by
  have e1:k=h.n:=by lia
  rw [e1] at t;exact t
 | m + 1,k,s,e,t=>ZEZ g m (k + 1) _ (by lia) (ZRp g (by lia) t)
theorem ZOH (g:GoodH h) :(h.cs lv co at_ fl).rea=h.Rq (h.cs lv co at_ fl).came h.n:=ZEZ g h.n 0 _ (by lia) rfl
end
noncomputable def z2 (ms:List Nat) (P:Nat->Option Nat):List D:=(zj ms.length).map λj=>.tup [.int (ms.getD j 0:Nat),dnD (P j)]
theorem ZKt {P:Nat->Option Nat} (j:Nat) (G:DH):Gz [.fl (Ao ms),.fl (Ar ms.length P)] j G=some (z2 ms P)[j]? :=by
 rw [ZAS (xs:=Ao ms) (ys:=Ar ms.length P) rfl rfl]
 congr 2
 refine q8 (by simp [Mu,z2,Ao,Ar]) λi h1 h2=> ?_
 have hi:i < ms.length:=by simpa [z2] using h2
 simp [Mu,z2,Ao,Ar,zy,zQ hi]
theorem ZOS {n:Nat} {F:Nat->Option Nat} {v:Option Nat} (hk:k < n):(Ar n F).set k (dnD v)=Ar n λj=>if j=k then v else F j:=by
 unfold Ar;refine q8 (by simp) λi h1 h2=> ?_
 rw [List.getElem_set];by_cases e:k=i
 ·subst e;simp
 ·rw [if_neg e]
  simp [show¬i=k from λz=>e z.symm]
noncomputable def rtF (ms:List Nat) (P F:Nat->Option Nat) (i k:Nat):Option Nat:=if k∈ms.drop i then (match P (ms.idxOf k) with | some c=>some (ms.getD c 0) | none=>F k) else F k
theorem ZDm {n:Nat} (nd:ms.Nodup) (hms:∀k∈ms,k < n) {P:Nat->Option Nat} (hP:∀i c,i < ms.length->P i=some c->c < ms.length) {s0 s1 s2 s3 s4 s7:Option D} {G:DH}:∀(q i:Nat) (F:Nat->Option Nat) (x8 x9:Option D),i + q=ms.length->∃y8 y9,
  Bp (Bx 2 (Aq (gV 8) (Aq (gV 9) Ce))) Ni ((z2 ms P).drop i) [s0,s1,s2,s3,s4,some (.ref G.length),some (.fl (Ao ms)),s7,x8,x9] (G++ [.lst (Ar n F)])=
   .nx [s0,s1,s2,s3,s4,some (.ref G.length),some (.fl (Ao ms)),s7,y8,y9] (G++ [.lst (Ar n (rtF ms P F i))])
 | 0,i,F,x8,x9,e=>by
  have e1:(z2 ms P).drop i= []:=zN (by simp [z2];lia);have e2:rtF ms P F i=F:=by funext k;unfold rtF;rw [zN (by lia),if_neg (by simp)]
  rw [e1,e2,Ea];exact ⟨x8,x9,rfl⟩
 | q + 1,i,F,x8,x9,e=>by
  have hi:i < ms.length:=by lia
  have hz:i < (z2 ms P).length:=by simpa [z2] using hi
  have em:ms.getD i 0=ms[i]:=by simp [zy,zQ hi]
  have hn:ms[i] < n:=hms _ (qz hi);have ed:ms.drop i=ms[i]::ms.drop (i + 1):=zL hi;have ez:(z2 ms P).drop i=.tup [.int (ms[i]:Nat),dnD (P i)]::(z2 ms P).drop (i + 1):=by rw [zL hz];simp [z2,zQ hi]
  have hix:ms.idxOf ms[i]=i:=Q3 nd hi;have hno:ms[i] ∉ ms.drop (i + 1):=by have h1:(ms.drop i).Nodup:=nd.sublist (List.drop_sublist _ _);rw [ed] at h1;exact (qK.mp h1).1
  rw [ez,Dp];have hg:∀(v:D) (H:DH),(Bx 2 (Aq (gV 8) (Aq (gV 9) Ce))) (.tup [.int (ms[i]:Nat),v]) [s0,s1,s2,s3,s4,some (.ref G.length),some (.fl (Ao ms)),s7,x8,x9] H=.ok [s0,s1,s2,s3,s4,some (.ref G.length),some (.fl (Ao ms)),s7,some (.int (ms[i]:Nat)),some v] H:=λv H=>by simp
  have lt:(Ar n F).length=n:=by simp [Ar]
  cases hp:P i with
  | none=>
   have er:rtF ms P F i=rtF ms P F (i + 1):=by
    funext k;unfold rtF;rw [ed];by_cases hk:k=ms[i]
    ·rw [hk,if_pos zX,hix,hp,if_neg hno]
    ·simp only [zK,hk,false_or]
   obtain ⟨y8,y9,ih⟩:=ZDm nd hms hP (s0:=s0) (s1:=s1) (s2:=s2) (s3:=s3) (s4:=s4) (s7:=s7) (G:=G) q (i + 1) F (some (.int (ms[i]:Nat))) (some (dnD none)) (by lia);refine ⟨y8,y9,?_⟩;have hb:Ni [s0,s1,s2,s3,s4,some (.ref G.length),some (.fl (Ao ms)),s7,some (.int (ms[i]:Nat)),some (dnD none)] (G++ [.lst (Ar n F)])=.nx [s0,s1,s2,s3,s4,some (.ref G.length),some (.fl (Ao ms)),s7,some (.int (ms[i]:Nat)),some (dnD none)] (G++ [.lst (Ar n F)]):=by unfold Ni dnD;simp
   simp only [hg,R.Dl,hb,Dr];rw [ih,er]
  | some c=>
   have hc:=hP i c hi hp;have ec:ms.getD c 0=ms[c]:=by simp [zy,zQ hc]
   have er:rtF ms P F i=rtF ms P (λj=>if j=ms[i] then some ms[c] else F j) (i + 1):=by
    funext k;unfold rtF;rw [ed];by_cases hk:k=ms[i]
    ·rw [hk,if_pos zX,hix,hp,if_neg hno];simp [zQ hc]
    ·simp only [zK,hk,false_or,if_false]
   obtain ⟨y8,y9,ih⟩:=ZDm nd hms hP (s0:=s0) (s1:=s1) (s2:=s2) (s3:=s3) (s4:=s4) (s7:=s7) (G:=G) q (i + 1) (λj=>if j=ms[i] then some ms[c] else F j) (some (.int (ms[i]:Nat))) (some (dnD (some c))) (by lia);refine ⟨y8,y9,?_⟩;have ac:atI (Ao ms) (c:Int)=some (.int (ms[c]:Nat)):=Eo rfl (by unfold Ao;rw [zw,zQ hc];rfl);have sx:ixN n (ms[i]:Int)=some ms[i]:=by unfold ixN;simp;lia
   have ts:(Ar n F).set ms[i] (.int (ms[c]:Nat))=Ar n λj=>if j=ms[i] then some ms[c] else F j:=ZOS (v:=some ms[c]) hn
   have hb:Ni [s0,s1,s2,s3,s4,some (.ref G.length),some (.fl (Ao ms)),s7,some (.int (ms[i]:Nat)),some (dnD (some c))] (G++ [.lst (Ar n F)])=.nx [s0,s1,s2,s3,s4,some (.ref G.length),some (.fl (Ao ms)),s7,some (.int (ms[i]:Nat)),some (dnD (some c))] (G++ [.lst (Ar n λj=>if j=ms[i] then some ms[c] else F j)]):=by rw [<-ts];unfold Ni dnD;simp [ac,Dj,Ep,lt,sx]
   simp only [hg,R.Dl,hb,Dr];rw [ih,er]
theorem ZPO {g:DG} {b:DS} {xs:List D} (h:G[i]? =some (.lst xs)) (hl:xs.length<=j):DL.forM i g b 0 j S G=.nx S G:=by
 show (match G[i]? with | some (.lst xs)=>if xs.length<=j then SR.nx S G else .bad | _=>.bad)=_
 rw [h];exact if_pos hl
theorem ZMQ {g:DG} {b:DS} {xs:List D} {x:D} (h:G[i]? =some (.lst xs)) (hx:xs[j]? =some x):DL.forM i g b (k + 1) j S G=(g x S G).toS λS1 G1=>aft (b S1 G1) (DL.forM i g b k (j + 1)):=by
 show (match G[i]? with | some (.lst xs)=>(match xs[j]? with | some x=>(g x S G).toS λS1 G1=>aft (b S1 G1) (DL.forM i g b k (j + 1)) | none=>.nx S G) | _=>.bad)=_
 rw [h];dsimp only;rw [hx]
section
variable {h:Hs}
noncomputable def Hs.dpF (h:Hs) (ca:Nat->Int) (m:Nat):Nat->Option Nat:=Hx (h.rows (h.mem m) ca)
theorem ZLE (g:GoodH h) (hc:∀k,k < h.n->0<=ca k) {c:Nat} (hi:i < (h.mem m).length) (e:h.dpF ca m i=some c):c < (h.mem m).length:=by
 have hR:=K9 g (m:=m) hc;unfold Hs.dpF Hx at e;split at e
 ·cases e
 ·have h1:=jq e;have h2:=(Mt hR (by rw [Gq];exact hi) h1).2;rwa [Gq] at h2
noncomputable def Ju (h:Hs) (ca:Nat->Int) (F:Nat->Option Nat) (m:Nat):Nat->Option Nat:=rtF (h.mem m) (h.dpF ca m) F 0
theorem ZGl (g:GoodH h) (hc:∀k,k < h.n->0<=ca k) {L:List Nat} {G:DH} (hG:G[i]? =some (.lst (L.map (h.Gk ca)))) {s0 s1 s2 s3 s4:Option D}:∀(q j:Nat) (F:Nat->Option Nat) (x6 x7 x8 x9:Option D),j + q=L.length->∃y6 y7 y8 y9,
  DL.forM i (Bx 2 (Aq (gV 6) (Aq (gV 7) Ce))) Yv q j [s0,s1,s2,s3,s4,some (.ref G.length),x6,x7,x8,x9] (G++ [.lst (Ar h.n F)])=
   .nx [s0,s1,s2,s3,s4,some (.ref G.length),y6,y7,y8,y9] (G++ [.lst (Ar h.n ((L.drop j).foldl (Ju h ca) F))])
 | 0,j,F,x6,x7,x8,x9,e=>by
  have hi:i < G.length:=by
   rcases qI i G.length with z | z
   ·exact z
   ·rw [z5 z] at hG;cases hG
  have h1:(G++ [DO.lst (Ar h.n F)])[i]? =some (.lst (L.map (h.Gk ca))):=by rw [zI hi];exact hG
  refine ⟨x6,x7,x8,x9,?_⟩;rw [ZPO h1 (by simp;lia),zN (by lia)]
  rfl
 | q + 1,j,F,x6,x7,x8,x9,e=>by
  have hi:i < G.length:=by
   rcases qI i G.length with z | z
   ·exact z
   ·rw [z5 z] at hG;cases hG
  have hj:j < L.length:=by lia
  have h1:(G++ [DO.lst (Ar h.n F)])[i]? =some (.lst (L.map (h.Gk ca))):=by rw [zI hi];exact hG
  have hx:(L.map (h.Gk ca))[j]? =some (h.Gk ca L[j]):=by rw [zw,zQ hj];rfl
  have ed:L.drop j=L[j]::L.drop (j + 1):=zL hj;generalize hm:L[j]=m at *;have hR:=K9 g (m:=m) hc;have ml:=ZAm (h:=h) (m:=m);have gl:=g.len;have nd:(h.mem m).Nodup:=(N8 (h:=h) (m:=m)).imp λhab=>zE hab
  obtain ⟨y8,y9,hL⟩:=ZDm (n:=h.n) nd (λk hk=>(mem_iff.mp hk).1) (P:=h.dpF ca m) (λi c hi e=>ZLE g hc hi e) (s0:=s0) (s1:=s1) (s2:=s2) (s3:=s3) (s4:=s4) (s7:=some (.fl ((h.rows (h.mem m) ca).map Row.enc))) (G:=G) (h.mem m).length 0 F x8 x9 (by lia);rw [qN] at hL;obtain ⟨z6,z7,z8,z9,ih⟩:=ZGl g hc hG (s0:=s0) (s1:=s1) (s2:=s2) (s3:=s3) (s4:=s4) q (j + 1) (Ju h ca F m) (some (.fl (Ao (h.mem m)))) (some (.fl ((h.rows (h.mem m) ca).map Row.enc))) y8 y9 (by lia)
  refine ⟨z6,z7,z8,z9,?_⟩;have cd:=ZKc hR (by rw [Gq];lia) (G++ [.lst (Ar h.n F)]);rw [Gq] at cd;have fz:freeze (G++ [.lst (Ar h.n F)]) (Ue [.fl ((h.rows (h.mem m) ca).map Row.enc)] (G++ [.lst (Ar h.n F)]))=.ok (.fl (Ar (h.mem m).length (h.dpF ca m))) (G++ [.lst (Ar h.n F)]):=by rw [cd];exact Fj Rc
  have hz:∀S G',Em (Gz [.fl (Ao (h.mem m)),.fl (Ar (h.mem m).length (h.dpF ca m))]) (Bx 2 (Aq (gV 8) (Aq (gV 9) Ce))) Ni (h.mem m).length 0 S G'=Bp (Bx 2 (Aq (gV 8) (Aq (gV 9) Ce))) Ni (z2 (h.mem m) (h.dpF ca m)) S G':=λS G'=>V4 ZKt (by simp [z2])
  have hb:Yv [s0,s1,s2,s3,s4,some (.ref G.length),some (.fl (Ao (h.mem m))),some (.fl ((h.rows (h.mem m) ca).map Row.enc)),x8,x9] (G++ [.lst (Ar h.n F)])=.nx [s0,s1,s2,s3,s4,some (.ref G.length),some (.fl (Ao (h.mem m))),some (.fl ((h.rows (h.mem m) ca).map Row.enc)),y8,y9] (G++ [.lst (Ar h.n (Ju h ca F m))]):=by
   have lt:(Ar (h.mem m).length (h.dpF ca m)).length=(h.mem m).length:=by simp [Ar]
   unfold Ju;generalize Ar (h.mem m).length (h.dpF ca m)=TT at *;unfold Yv;simp [fz,I9,Km,lenOf,lt,hz,hL]
  have hg:(Bx 2 (Aq (gV 6) (Aq (gV 7) Ce))) (h.Gk ca m) [s0,s1,s2,s3,s4,some (.ref G.length),x6,x7,x8,x9] (G++ [.lst (Ar h.n F)])=.ok [s0,s1,s2,s3,s4,some (.ref G.length),some (.fl (Ao (h.mem m))),some (.fl ((h.rows (h.mem m) ca).map Row.enc)),x8,x9] (G++ [.lst (Ar h.n F)]):=by unfold Hs.Gk;simp
  rw [ZMQ h1 hx,hg];simp only [R.Dl,hb,Dr];rw [ih,ed]
  rfl
noncomputable def Hs.dryH (h:Hs) (ca:Nat->Int) (k:Nat):Option Nat:=(h.dpF ca (h.last k) ((h.mem (h.last k)).idxOf k)).map λc=>(h.mem (h.last k)).getD c 0
theorem ZDr:∀(L:List Nat) (F:Nat->Option Nat),h.last k ∉ L->(L.foldl (Ju h ca) F) k=F k
 | [],F,_=>rfl
 | m::L,F,hn=>by rw [jV,ZDr L _ λz=>hn (zZ _ z)];unfold Ju rtF;rw [qN,if_neg];intro z;exact hn (by rw [(mem_iff.mp z).2];exact zX)
theorem ZIQ (hk:k < h.n):∀(L:List Nat) (F:Nat->Option Nat),L.Nodup->F k=none->h.last k∈L->(L.foldl (Ju h ca) F) k=h.dryH ca k
 | [],F,_,_,hm=>nomatch hm
 | m::L,F,nd,hF,hm=>by
  obtain ⟨n1,n2⟩:=qK.mp nd;rw [jV];by_cases e:h.last k=m
  ·subst e;rw [ZDr L _ n1];unfold Ju rtF Hs.dryH;rw [qN,if_pos (mem_iff.mpr ⟨hk,rfl⟩)];cases h.dpF ca (h.last k) ((h.mem (h.last k)).idxOf k) with
   | none=>exact hF
   | some c=>rfl
  ·refine ZIQ hk L _ n2 ?_ ((zK.mp hm).resolve_left e);unfold Ju rtF;rw [qN,if_neg λz=>e (mem_iff.mp z).2];exact hF
end
section
variable {h:Hs}
def Hs.Kq (h:Hs):List Nat:=(zj h.n).filter h.isLast
def Hs.rtH (h:Hs) (ca:Nat->Int):Nat->Option Nat:=h.Kq.foldl (Ju h ca) λ_=>none
theorem ZQ6 (g:GoodH h) (hc:∀k j,k < h.n->j < 5->0<=co k j) (hf:∀k,k < h.n->0<=fl k) (G:DH):
  Py [h.enc,stD h.n lv co,.int at_,.tup (tab h.n fl)] G=.ok (.ref G.length) (G++ [.lst (Ar h.n (h.rtH (h.cs lv co at_ fl).came))]):=by
 have gl:=g.len;have hgo:=ZFP (G:=G) (lv:=lv) (yt:=at_ % h.yr) g (Xg (fl:=fl) hc hf) rfl;have hmk:V3 Nm "Course" [h.enc,stD h.n lv co,.int at_,.tup (tab h.n fl)] G=.ok (.ref G.length) (csH G h.n h.enc (.tup (tab h.n lv)) (at_ % h.yr) (cs0 co fl)):=by
  unfold V3;rw [ZHl g]
  rfl
 have egs:h.goF (at_ % h.yr) lv h.n 0 (cs0 co fl)=h.cs lv co at_ fl:=rfl;rw [egs] at hgo;have nn:(h.cs lv co at_ fl).NN h.n:=ZAo g h.n 0 _ (by lia) (Xg hc hf);have er:=ZOH (lv:=lv) (co:=co) (fl:=fl) g (at_:=at_);have hre:(csH G h.n h.enc (.tup (tab h.n lv)) (at_ % h.yr) (h.cs lv co at_ fl))[G.length + (4 + h.n)]? =some (.lst (h.Kq.map (h.Gk (h.cs lv co at_ fl).came))):=by
  rw [csHe,er]
  rfl
 have hme:∀(F:List D->DH->R D) (t:DA) (S:DSt),Us "Course" "go" F t S (.ref G.length) (csH G h.n h.enc (.tup (tab h.n lv)) (at_ % h.yr) (cs0 co fl))=(t S (csH G h.n h.enc (.tup (tab h.n lv)) (at_ % h.yr) (cs0 co fl))).bind λds G2=>F (.ref G.length::ds) G2:=λF t S=>K1 ZGH
 have hcl:(csH G h.n h.enc (.tup (tab h.n lv)) (at_ % h.yr) (h.cs lv co at_ fl)).length=G.length + (h.n + 5):=ZDx;have hc0:(csH G h.n h.enc (.tup (tab h.n lv)) (at_ % h.yr) (h.cs lv co at_ fl))[G.length]? =some (.ins "Course" (cflds G.length h.n h.enc (.tup (tab h.n lv)) (at_ % h.yr))):=K3;have hcH:csH G h.n h.enc (.tup (tab h.n lv)) (at_ % h.yr) (h.cs lv co at_ fl)=G++csT G.length h.n h.enc (.tup (tab h.n lv)) (at_ % h.yr) (h.cs lv co at_ fl):=rfl
 obtain ⟨y6,y7,y8,y9,hL⟩:=ZGl g nn.1 hre (s0:=some h.enc) (s1:=some (stD h.n lv co)) (s2:=some (.int at_)) (s3:=some (.tup (tab h.n fl))) (s4:=some (.ref G.length)) h.Kq.length 0 (λ_=>none) none none none none (by lia);rw [qN] at hL;have eH:h.Kq.foldl (Ju h (h.cs lv co at_ fl).came) (λ_=>none)=h.rtH (h.cs lv co at_ fl).came:=rfl;rw [eH] at hL;have lL:(h.Kq.map (h.Gk (h.cs lv co at_ fl).came)).length=h.Kq.length:=by simp
 have t0:Ar h.n (λ_=>none)=zV h.n D.non:=by unfold Ar dnD;exact q8 (by simp) λi h1 h2=>by simp
 generalize h.Kq.map (h.Gk (h.cs lv co at_ fl).came)=RL at *;generalize csH G h.n h.enc (.tup (tab h.n lv)) (at_ % h.yr) (h.cs lv co at_ fl)=Γ at *;generalize csH G h.n h.enc (.tup (tab h.n lv)) (at_ % h.yr) (cs0 co fl)=Γ0 at *;have rp:Jt (.ref Γ.length) (.int (h.n:Int)) (Γ++ [.lst [.non]])=.ok (.ref (Γ.length + 1)) (Γ++ [.lst [.non],.lst (Ar h.n λ_=>none)]):=by rw [ZAV (d:=.non) (by simp) (by lia),t0];simp
 have td:tidy Γ (.ok (.ref (Γ.length + 1)) (Γ++ [.lst [.non],.lst (Ar h.n λ_=>none)]))=.ok (.ref Γ.length) (Γ++ [.lst (Ar h.n λ_=>none)]):=T9 (k:=1) [.lst [.non],.lst (Ar h.n λ_=>none)] rfl Rc;have fr:∀X:DO,Jl "Course" "reaches" (.ref G.length) (Γ++ [X])=.ok (.ref (G.length + (4 + h.n))) (Γ++ [X]):=λX=>N6 (by rw [zI (by lia)];exact hc0) rfl
 have gi:∀X:DO,(Γ++ [X])[G.length + (4 + h.n)]? =some (.lst RL):=λX=>by rw [zI (by lia)];exact hre
 have it:∀X:DO,H8 (.ref (G.length + (4 + h.n))) (Γ++ [X])=.ok (.mt (G.length + (4 + h.n))) (Γ++ [X]):=λX=>by simp [H8,gi]
 have fin:tidy G (.ok (.ref Γ.length) (Γ++ [.lst (Ar h.n (h.rtH (h.cs lv co at_ fl).came))]))=.ok (.ref G.length) (G++ [.lst (Ar h.n (h.rtH (h.cs lv co at_ fl).came))]):=by
  rw [hcl,hcH,qR];refine T9 (k:=h.n + 5) _ ?_ Rc;have lc:(csT G.length h.n h.enc (.tup (tab h.n lv)) (at_ % h.yr) (h.cs lv co at_ fl)).length=h.n + 5:=by have:=congrArg jU hcH;rw [hcl,zU] at this;lia
  rw [<-lc];simp
 generalize h.rtH (h.cs lv co at_ fl).came=RT at *;generalize Ar h.n (λ_=>none)=T0 at *;generalize Ar h.n RT=T1 at *;have ms:∀L:DH,Av [.non] L=.ok (.ref L.length) (L++ [.lst [.non]]):=λL=>by simp [Av]
 unfold Py ZHw;rw [Bk];simp [hmk,hme,hgo,ms,Cv,Hs.Lr,rp,td,fr,it,gi,lL,hL,fin]
end
noncomputable def Hs.right (h:Hs) (pg:Nat->List Int) (j:Nat):Option Nat:=if (h.pl j).kd.isB=true then none else if tk pg j=h.need j then none else (h.chain j).find? λp=>decide ((pg p).getD 3 0=0)
theorem ZHy {f:Nat->Nat} {q:Nat->Bool}:∀(l:List Nat),(l.map f).find? q=(l.find? λx=>q (f x)).map f
 | []=>rfl
 | a::l=>by
  rw [zA,j2,j2];cases q (f a) with
  | true=>rfl
  | false=>exact ZHy l
theorem ZI2 {p q:Nat->Bool}:∀{l:List Nat},(∀x∈l,p x=q x)->l.find? p=l.find? q
 | [],_=>rfl
 | a::l,h=>by rw [j2,j2,h a (by simp),ZI2 λx hx=>h x (zZ _ hx)]
theorem ZIW {z q:Nat->Bool} {c:Nat}:∀{l:List Nat},l.find? z=some c->(∀p,q p=true->z p=true)->q c=true->l.find? q=some c
 | [],h,_,_=>by cases h
 | a::l,h,hq,hc=>by
  rw [j2] at h ⊢;cases hz:z a with
  | true=>
   rw [hz] at h;have:a=c:=Option.some.inj h;subst this;rw [hc]
  | false=>
   rw [hz] at h;have:q a=false:=by
    cases hqa:q a with
    | false=>rfl
    | true=>rw [hq a hqa] at hz;cases hz
   rw [this];exact ZIW h hq hc
section
variable {h:Hs} {yt:Int} {lv:Nat->Int} {co:Nat->Nat->Int} {fl:Nat->Int}
theorem ZGT (g:GoodH h) (t:TI h yt lv co fl h.n s) (hk:k < h.n) (hB:(h.pl k).kd.isB=false) (hm:h.last k=m):∀j,j∈h.mem m->(h.pl j).kd.isB=false/\s.page j=rrow (h.K8 s.came m) (h.Ja s.came m) ((h.mem m).idxOf j):=λj hj=>by
 have h1:=mem_iff.mp hj;have hjB:(h.pl j).kd.isB=false:=by
  cases z:(h.pl j).kd.isB with
  | false=>rfl
  | true=>
   have h2:=Ib g (Qh z);have h3:=Qj g h.n k (by lia);rw [hm] at h3;have ej:j=m:=by lia
   rcases h3 with h3 | h3
   ·rw [ej,h3,hB] at z;cases z
   ·rw [<-ej,z] at h3;cases h3
 have hlm:h.last j < h.n:=(Gw g j).2 h1.1;have:=t.reach j h1.1 hjB hlm;rw [h1.2] at this;exact ⟨hjB,this⟩
theorem ZDe (g:GoodH h) (hk:k < h.n) (hm:h.last k=m) (hp:p∈h.chain k):p∈h.mem m:=by have h1:=M4 g hp;have h2:=(Gw g p).1;have h3:=(Gw g k).2 hk;exact mem_iff.mpr ⟨by lia,by lia⟩
theorem ZIu (g:GoodH h) (t:TI h yt lv co fl h.n s) (nn:s.NN h.n) (hk:k < h.n) (hB:(h.pl k).kd.isB=false) (hm:h.last k=m):
  (Hx (h.rows (h.mem m) s.came) ((h.mem m).idxOf k)).map (λc=>(h.mem m).getD c 0)=h.right s.page k:=by
 have hkm:k∈h.mem m:=mem_iff.mpr ⟨hk,hm⟩;have hall:=ZGT g t hk hB hm;have htk:tk s.page k=shr (h.rows (h.mem m) s.came) ((h.mem m).idxOf k):=by unfold tk;rw [(hall k hkm).2];rfl
 have eR:h.right s.page k=if shr (h.rows (h.mem m) s.came) ((h.mem m).idxOf k)=h.need k then none else (h.chain k).find? λp=>decide ((s.page p).getD 3 0=0):=by unfold Hs.right;rw [if_neg (by rw [hB];exact zx),htk]
 unfold Hx;rw [Lj hkm,eR];show Option.map _ (if _=h.need k then _ else _)=_;by_cases hn:shr (h.rows (h.mem m) s.came) ((h.mem m).idxOf k)=h.need k
 ·rw [if_pos hn,if_pos hn];rfl
 ·rw [if_neg hn,if_neg hn,Zk g nn.1 h.n k (by lia) hkm,ZHy,Option.map_map];have e1:((h.chain k).find? λx=>decide (pasf (h.rows (h.mem m) s.came) ((h.mem m).idxOf x)=0))=(h.chain k).find? λp=>decide ((s.page p).getD 3 0=0):=ZI2 λp hp=>by
   have hpm:=ZDe g hk hm hp;have e2:(s.page p).getD 3 0=pasf (h.rows (h.mem m) s.came) ((h.mem m).idxOf p):=by rw [(hall p hpm).2];rfl
   rw [e2]
  rw [e1];cases hf:(h.chain k).find? λp=>decide ((s.page p).getD 3 0=0) with
  | none=>rfl
  | some c=>
   have hcm:=ZDe g hk hm (jq hf);have hl:=zH hcm;show some ((h.mem m).getD ((h.mem m).idxOf c) 0)=some c;rw [zy,zQ hl,qx hl]
   rfl
noncomputable def Hs.O4 (h:Hs) (pg:Nat->List Int) (k i:Nat):Bool:= !(decide (i≠k) && (decide (0 < tk pg i) && !h.ahead i k))
noncomputable def Hs.Mf (h:Hs) (pg:Nat->List Int) (ab:List Nat) (k p:Nat):Bool:=ab.all (h.O4 pg k) && decide ((pg p).getD 3 0=0)
theorem ZG9:∀{n:Nat} {F:Nat->Int},(∀i,i < n->0<=F i)->0<=Bv n F/\(Bv n F=0->∀i,i < n->F i=0)
 | 0,F,_=>⟨qJ _,λ_ i hi=>absurd hi (by lia)⟩
 | n + 1,F,h=>by
  have ih:=ZG9 (n:=n) (F:=F) λi hi=>h i (by lia)
  have hn:=h n (by lia);have e:Bv (n + 1) F=Bv n F + F n:=rfl;refine ⟨by lia,λz i hi=> ?_⟩;by_cases e2:i=n
  ·subst e2;lia
  ·exact ih.2 (by lia) i (by lia)
theorem ZMv (g:GoodH h) (t:TI h yt lv co fl h.n s) (nn:s.NN h.n) (hk:k < h.n) (hB:(h.pl k).kd.isB=false) (hlt:tk s.page k < h.need k) {ab:Nat->List Nat} (hab:∀p,∀i,i∈ab p↔p∈h.chain i):
  ∃c,h.right s.page k=some c/\(h.chain k).find? (λp=>h.Mf s.page (ab p) k p)=some c:=by
 obtain ⟨m,hm⟩:∃m,h.last k=m:=⟨_,rfl⟩;have hkm:k∈h.mem m:=mem_iff.mpr ⟨hk,hm⟩;have hall:=ZGT g t hk hB hm;have hR:=K9 g (m:=m) nn.1;have hil:=zH hkm;have tks:∀j∈h.mem m,tk s.page j=shr (h.rows (h.mem m) s.came) ((h.mem m).idxOf j):=λj hj=>by unfold tk;rw [(hall j hj).2];rfl
 obtain ⟨c',hf,hc',hz⟩:=ZF5 hR (k:=(h.mem m).idxOf k) (by rw [Gq];exact hil) (by rw [Lj hkm,<-tks k hkm];exact hlt)
 have hrd:=ZIu g t nn hk hB hm;have hnn:¬shr (h.rows (h.mem m) s.came) ((h.mem m).idxOf k)=col Row.need (h.rows (h.mem m) s.came) ((h.mem m).idxOf k):=by rw [Lj hkm,<-tks k hkm];show¬_=h.need k;lia
 have hr0:h.right s.page k=some ((h.mem m).getD c' 0):=by
  rw [<-hrd];unfold Hx;rw [if_neg hnn,hf]
  rfl
 have hfz:(h.chain k).find? (λp=>decide ((s.page p).getD 3 0=0))=some ((h.mem m).getD c' 0):=by unfold Hs.right at hr0;rw [if_neg (by rw [hB];exact zx),if_neg (by lia)] at hr0;exact hr0
 refine ⟨_,hr0,ZIW hfz (λp hp=> ?_) ?_⟩
 ·unfold Hs.Mf at hp;rw [zC] at hp;exact hp.2
 ·obtain ⟨c,hc⟩:∃c,(h.mem m).getD c' 0=c:=⟨_,rfl⟩;rw [hc] at hfz ⊢;have hcc:=jq hfz;have hcm:=ZDe g hk hm hcc;have hpz:=List.find?_some hfz;have ec:(h.mem m).idxOf c=c':=by rw [Gq] at hc';rw [<-hc,zy,zQ hc'];exact Q3 ZAe hc'
  have hsum:=ZEu g nn.1 hcm (X:=bhd (h.rows (h.mem m) s.came) ((h.mem m).idxOf k)) (λj hj=>by unfold bhd;rw [ZHL (by rw [Gq];exact hj)];simp)
  rw [ec,hz] at hsum;have hnb:∀i,0<=bhd (h.rows (h.mem m) s.came) ((h.mem m).idxOf k) i:=λi=>by
   unfold bhd;split
   ·exact (Kw hR).t0 i
   ·exact qJ _
  have hzero:=(ZG9 (n:=h.n) (F:=λj=>if c∈h.chain j then bhd (h.rows (h.mem m) s.came) ((h.mem m).idxOf k) ((h.mem m).idxOf j) else 0) (λi _=>by
   by_cases hcc2:c∈h.chain i
   ·simp only [if_pos hcc2];exact hnb _
   ·simp only [if_neg hcc2];exact qJ _)).2 hsum.symm
  unfold Hs.Mf;rw [zC];refine ⟨qk.mpr λi hi=> ?_,hpz⟩;have hic:=(hab c i).mp hi;have him:i∈h.mem m:=by have h1:=M4 g hic;have h2:=mem_iff.mp hcm;exact mem_iff.mpr ⟨by lia,by lia⟩
  have hin:=(mem_iff.mp him).1;unfold Hs.O4;by_cases eik:i=k
  ·simp [eik]
  ·by_cases hti:0 < tk s.page i
   ·have hb0:=hzero i hin;simp only [if_pos hic] at hb0;unfold bhd at hb0;rw [<-tks i him] at hb0;have hlk:ltK (h.rows (h.mem m) s.came) ((h.mem m).idxOf k) ((h.mem m).idxOf i)=false:=by
     cases z:ltK (h.rows (h.mem m) s.came) ((h.mem m).idxOf k) ((h.mem m).idxOf i) with
     | false=>rfl
     | true=>rw [z] at hb0;simp at hb0;lia
    have hne:(h.mem m).idxOf i≠(h.mem m).idxOf k:=λz=>eik (ZIk him hkm z)
    have hl2:=ZGV hlk hne;rw [ZIM him hkm] at hl2;have hT:(h.pl i).kd.isT=true:=by
     cases z:(h.pl i).kd.isT with
     | true=>rfl
     | false=>
      have h0:=(Kw hR).tn ((h.mem m).idxOf i);rw [Lj him,<-tks i him] at h0;have h2:(h.row (h.mem m) s.came i).need=0:=ZAs z;lia
    have ha:h.ahead i k=true:=by
     unfold Hs.ahead;rw [hT,hl2]
     rfl
    simp [ha]
   ·simp [hti]
end
section
variable {h:Hs} {yt:Int} {lv fl:Nat->Int} {co:Nat->Nat->Int}
theorem ZFW:∀(l:List Int) (v:Int),l.foldl min v<=v
 | [],v=>qJ _
 | a::l,v=>by have:=ZFW l (min v a);rw [jV];lia
theorem ZLN (e:h.dir k=some d):(h.pl d).kd.isB=false:=(ZDV e).2.2.2
theorem ZQ8 (g:GoodH h) (t:TI h yt lv co fl h.n s) (nn:s.NN h.n) (hk:k < h.n):h.rtH s.came k=h.right s.page k:=by
 unfold Hs.rtH;cases hB:(h.pl k).kd.isB with
 | true=>
  have e:=Ib g (Qh hB);rw [ZDr]
  ·unfold Hs.right;rw [if_pos hB]
  ·rw [e];intro z;have:=(j0.mp z).2;unfold Hs.isLast at this;rw [hB] at this;cases this
 | false=>
  have hl:=(Gw g k).2 hk;have h1:=Xc g h.n k (by lia);have h2:(h.pl (h.last k)).kd.isB=false:=by
   rcases Qj g h.n k (by lia) with z | z
   ·rw [z];exact hB
   ·exact z
  have nd:h.Kq.Nodup:=(List.nodup_range).filter _;have hm:h.last k∈h.Kq:=j0.mpr ⟨zS.mpr hl,by unfold Hs.isLast;rw [h2];simp [h1]⟩;rw [ZIQ hk h.Kq (λ_=>none) nd rfl hm];exact ZIu g t nn hk hB rfl
theorem ZI5 (po:PageOk h pg) (hk:k < h.n) (hT:(h.pl k).kd.isT=true) {p:D} {G:DH}:∀(l:List Nat) (x:Option D),(∀j∈l,j < h.n)->∃x',Bp (gV 4) Wo (Ao l) [some h.enc,some (pgD h.n pg),some (.int k),some p,x] G=
  if l.all (h.O4 pg k) then .nx [some h.enc,some (pgD h.n pg),some (.int k),some p,x'] G else .rt (.bl false) G
 | [],x,_=>⟨x,by show Bp _ _ [] _ _=_;rw [Ea];rfl⟩
 | j::l,x,hl=>by
  have hj:=hl j (by simp);obtain ⟨x',ih⟩:=ZI5 po hk hT (p:=p) (G:=G) l (some (.int j)) λi hi=>hl i (zZ _ hi)
  refine ⟨x',?_⟩;obtain ⟨a,b,c,d,e',f,e1,_⟩:=po.row j hj;have ar:=ZCr (n:=h.n) hj e1;have ca:=ZKC hj hk hT;have ejk:((j:Int)=(k:Int))=(j=k):=by rw [eq_iff_iff];lia
  have etk:tk pg j=b:=by unfold tk;rw [e1];rfl
  have hb:Wo [some h.enc,some (pgD h.n pg),some (.int k),some p,some (.int j)] G=if h.O4 pg k j then .nx [some h.enc,some (pgD h.n pg),some (.int k),some p,some (.int j)] G else .rt (.bl false) G:=by
   unfold Hs.O4 pgD;rw [etk];unfold Wo;by_cases h1:j=k
   ·simp [ejk,h1]
   ·by_cases h2:0 < b
    ·cases h3:h.ahead j k <;> simp [ejk,h1,ar,h2,ca,h3]
    ·simp [ejk,h1,ar,h2]
  show Bp _ _ (.int (j:Int)::Ao l) _ _=_;rw [Dp];simp only [Du,R.Dl,qY,hb];rw [qL];cases h.O4 pg k j
  ·rfl
  ·simp only [if_true,Dr,Bool.true_and];exact ih
theorem ZNU (g:GoodH h) (po:PageOk h pg) (hk:k < h.n) (hp:p < h.n) (hT:(h.pl k).kd.isT=true) (G:DH):Vo [h.enc,pgD h.n pg,.int k,.int p] G=.ok (.bl (h.Mf pg (h.above p) k p)) G:=by
 obtain ⟨x',hL⟩:=ZI5 po hk hT (p:=.int (p:Int)) (G:=G) (h.above p) none λj hj=>by have h1:=M4 g ((ZG3 g).mp hj);lia
 have ca:=ZOs g hp G;have fz:freeze G (.ok (.ref G.length) (G++ [.lst (Ao (h.above p))]))=.ok (.fl (Ao (h.above p))) G:=Fj ZCp;obtain ⟨a,b,c,d,e',f,e1,_⟩:=po.row p hp;have ar:=ZCr (n:=h.n) hp e1;have e3:(pg p).getD 3 0=d:=by rw [e1];rfl
 unfold Hs.Mf;rw [e3];unfold pgD at hL ⊢;generalize Ao (h.above p)=N at *;unfold Vo ZJz;rw [Bk];cases hA:(h.above p).all (h.O4 pg k) with
 | true=>
  rw [hA,if_pos rfl] at hL;simp [ca,fz,hL,ar,Bh]
 | false=>
  rw [hA,if_neg zx] at hL;simp [ca,fz,hL,Bh]
theorem ZIL (g:GoodH h) (po:PageOk h pg) (hk:k < h.n) (hT:(h.pl k).kd.isT=true) {s0 s2 s3 s4 s5 s9:Option D} {G:DH}:∀(m:Nat) (o:Option Nat),0 < m->(∀d,o=some d->d < h.n/\(h.pl d).kd.isB=false/\h.n < m + d)->
  sWh Om Q0 m [s0,some h.enc,s2,s3,s4,s5,some (pgD h.n pg),some (.int k),some (dnD o),s9] G=.nx [s0,some h.enc,s2,s3,s4,s5,some (pgD h.n pg),some (.int k),some (dnD ((h.Jj o).find? λp=>h.Mf pg (h.above p) k p)),s9] G
 | 0,o,h0,hd=>by lia
 | m + 1,none,h0,hd=>by
  have ht:Om [s0,some h.enc,s2,s3,s4,s5,some (pgD h.n pg),some (.int k),some (dnD none),s9] G=.ok false G:=by unfold Om;simp [dnD]
  unfold sWh;rw [ht];simp [Hs.Jj,dnD]
 | m + 1,some d,h0,hd=>by
  obtain ⟨h1,h2,h3⟩:=hd d rfl;have cd:=ZNU g po hk h1 hT;have ht:Om [s0,some h.enc,s2,s3,s4,s5,some (pgD h.n pg),some (.int k),some (dnD (some d)),s9] G=.ok (!h.Mf pg (h.above d) k d) G:=by unfold Om;simp [dnD,cd]
  have ec:(h.Jj (some d))=d::h.Jj (h.dir d):=Mm g d;rw [ec,j2];cases hx:h.Mf pg (h.above d) k d with
  | true=>
   rw [hx] at ht;unfold sWh;rw [ht];simp
  | false=>
   rw [hx] at ht;have hb:Q0 [s0,some h.enc,s2,s3,s4,s5,some (pgD h.n pg),some (.int k),some (dnD (some d)),s9] G=.nx [s0,some h.enc,s2,s3,s4,s5,some (pgD h.n pg),some (.int k),some (dnD (h.dir d)),s9] G:=by unfold Q0;have cn:=ZDN g h1 h2 G;have e:dnD (some d)=.int (d:Int):=rfl;rw [e];simp [cn]
   have ih:=ZIL g po hk hT (s0:=s0) (s2:=s2) (s3:=s3) (s4:=s4) (s5:=s5) (s9:=s9) (G:=G) m (h.dir d) (by lia) λd' hd'=>by have:=Hj g hd';exact ⟨this.2.1,ZLN hd',by lia⟩
   have hb':Q0 [s0,some h.enc,s2,s3,s4,s5,some (pgD h.n pg),some (.int k),some (.int (d:Int)),s9] G=_:=hb
   conv=>lhs;unfold sWh
   rw [ht];simp [hb',ih]
theorem ZMO (hn:0 < h.need k):(h.pl k).kd.isT=true:=by
 cases z:(h.pl k).kd.isT with
 | true=>rfl
 | false=>rw [ZAs z] at hn;lia
theorem ZLC (g:GoodH h) (t:TI h yt lv co fl h.n s) (nn:s.NN h.n) (po:PageOk h s.page) (hk:k < h.n) {s0 s3 s4 x8 s9:Option D} :∃y8,
  R4 [s0,some h.enc,s2,s3,s4,some (.ref G.length),some (pgD h.n s.page),some (.int k),x8,s9] (G++ [.lst (Ar h.n (h.rtH s.came))])=.nx [s0,some h.enc,s2,s3,s4,some (.ref G.length),some (pgD h.n s.page),some (.int k),y8,s9] (G++ [.lst (Ar h.n (h.rtH s.came))]):=by
 have gl:=g.len;obtain ⟨a,b,c,d,e',f,e1,_⟩:=po.row k hk;have ar:=ZCr (n:=h.n) hk e1;have ap:atI h.Cw (k:Int)=some (h.encP (h.pl k)):=Hs.Dv hk;have cn:=λG=>ZQh (h:=h) (k:=k) G
 have etk:tk s.page k=b:=by unfold tk;rw [e1];rfl
 have rv:=ZQ8 g t nn hk;have af:=ZPM (n:=h.n) (f:=h.rtH s.came) hk;by_cases hlt:b < h.need k
 ·have b0:0<=b:=by obtain ⟨a',b',c',d',e'',f',e2,p1,p2,_⟩:=po.row k hk;rw [e1] at e2;cases e2;exact p2
  have hT:=ZMO (h:=h) (k:=k) (by lia);have hB:(h.pl k).kd.isB=false:=by
   cases ek:(h.pl k).kd with
   | basin _ _ _=>rw [ek] at hT;cases hT
   | town _ _=>rfl
   | mill _=>rfl
  obtain ⟨p,hp1,hp2⟩:=ZMv g t nn hk hB (by rw [etk];exact hlt) (ab:=h.above) λp i=>ZG3 g
  have hW:=ZIL g po hk hT (s0:=s0) (s2:=s2) (s3:=s3) (s4:=s4) (s5:=some (.ref G.length)) (s9:=s9) (G:=G++ [.lst (Ar h.n (h.rtH s.came))]) fuel (some k) (by unfold fuel;lia) λd hd=>by cases hd;exact ⟨hk,hB,by unfold fuel;lia⟩
  have ecO:h.Jj (some k)=h.chain k:=rfl;rw [ecO,hp2] at hW;have hW':sWh Om Q0 fuel [s0,some h.enc,s2,s3,s4,some (.ref G.length),some (pgD h.n s.page),some (.int k),some (.int (k:Int)),s9] (G++ [.lst (Ar h.n (h.rtH s.came))])=.nx [s0,some h.enc,s2,s3,s4,some (.ref G.length),some (pgD h.n s.page),some (.int k),some (.int (p:Int)),s9] (G++ [.lst (Ar h.n (h.rtH s.came))]):=hW;rw [rv,hp1] at af;have af':atI (Ar h.n (h.rtH s.came)) (k:Int)=some (.int (p:Int)):=af
  refine ⟨some (.int p),?_⟩;unfold pgD at hW' ⊢;generalize Ar h.n (h.rtH s.came)=TT at *;unfold R4 ZAu ZCR;simp [ar,Cv,ap,cn,hlt,hW',Dj,af']
 ·have hr:h.right s.page k=none:=by
   unfold Hs.right;cases hB:(h.pl k).kd.isB with
   | true=>rfl
   | false=>
    have h1:=ZPq g t nn hk hB;have h2:=ZFW ((h.chain k).map (h.U9 s.page k)) (h.need k);rw [if_neg zx,if_pos (by rw [etk] at h1 ⊢;lia)]
  rw [rv,hr] at af;have af':atI (Ar h.n (h.rtH s.came)) (k:Int)=some .non:=af;refine ⟨some .non,?_⟩;unfold pgD;generalize Ar h.n (h.rtH s.came)=TT at *;unfold R4 ZAu ZCR;have nn':∀G:DH,Hz .non .non G=.ok (.bl false) G:=λG=>ZKg rfl
  simp [ar,Cv,ap,cn,hlt,Dj,af',nn']
theorem ZIc (g:GoodH h) (t:TI h yt lv co fl h.n s) (nn:s.NN h.n) (po:PageOk h s.page) {s0 s2 s3 s4 s9:Option D} {G:DH}:∀(m k:Nat) (x7 x8:Option D),k + m=h.n->∃y7 y8,
  Bp (gV 7) R4 (Cm k m) [s0,some h.enc,s2,s3,s4,some (.ref G.length),some (pgD h.n s.page),x7,x8,s9] (G++ [.lst (Ar h.n (h.rtH s.came))])=.nx [s0,some h.enc,s2,s3,s4,some (.ref G.length),some (pgD h.n s.page),y7,y8,s9] (G++ [.lst (Ar h.n (h.rtH s.came))])
 | 0,k,x7,x8,e=>⟨x7,x8,by rw [Pj,Ea]⟩
 | m + 1,k,x7,x8,e=>by
  obtain ⟨z8,hb⟩:=ZLC g t nn po (k:=k) (by lia) (s0:=s0) (s2:=s2) (s3:=s3) (s4:=s4) (x8:=x8) (s9:=s9) (G:=G);obtain ⟨y7,y8,ih⟩:=ZIc g t nn po (s0:=s0) (s2:=s2) (s3:=s3) (s4:=s4) (s9:=s9) (G:=G) m (k + 1) (some (.int k)) z8 (by lia);refine ⟨y7,y8,?_⟩;rw [Lk,Dp];simp only [Du,R.Dl,qY,hb,Dr];have e1:((k:Int) + 1)=((k + 1:Nat):Int):=by lia
  rw [e1,ih]
end
theorem ZNp (hl:ns.length<=63) (G:DH):∃G',Ol [.fl (ns.map D.int)] G=.ok (.bl true) G':=by
 obtain ⟨f,hf⟩:=cells hl;obtain ⟨u,hu1,cu⟩:=ZOR hf;have hu:0 < u:=by lia
 obtain ⟨yr,hyr,cy⟩:=ZPy hf;obtain ⟨h,ht,ch⟩:=ZRj hf hyr cy hu cu;have g:=ht.good;obtain ⟨a,ha,ca⟩:=ZNZ hf;have f2:∀G,Bf [.fl (ns.map D.int),.int 2] G=.ok (.int (f 2)) G:=hf 2 (by lia);have f4:∀G,Bf [.fl (ns.map D.int),.int 4] G=.ok (.int (f 4)) G:=hf 4 (by lia);have cdn:∀G,G8 [.fl (ns.map D.int)] G=.ok (.bl (decide (f 2 % 2=1))) G:=λG=>by unfold G8 ZDR;rw [Bk];simp [f2,Bh]
 have cs:=ZP8 hf hu cu g;have cf:=ZQo hf hu cu cdn g;have hf0:∀k,k < h.n->0<=flE h.n f u (decide (f 2 % 2=1)) k:=λk _=>ZMl hu k
 generalize flE h.n f u (decide (f 2 % 2=1))=fl at cf hf0;have so:StOk h (lvS h f u) (coS h f u):=⟨λk hk=>(ZG0 g hk).1,λk hk=>(ZG0 g hk).2.2,λk j _ _=>ZPF hu k j⟩;have ct:=ZQT g (lv:=lvS h f u) (fl:=fl) (co:=coS h f u) (at_:=a) so.co0 hf0;have crt:=ZQ6 g (lv:=lvS h f u) (fl:=fl) (co:=coS h f u) (at_:=a) so.co0 hf0;have t:=ZQ5 (lv:=lvS h f u) (co:=coS h f u) (fl:=fl) g (at_:=a);have nn:=ZK2 g (lv:=lvS h f u) (fl:=fl) (co:=coS h f u) (a:=a) so.co0 hf0
 have p:=ZQd g t nn so.lv0;generalize h.cs (lvS h f u) (coS h f u) a fl=s at ct crt t nn p;have fz:∀G:DH,freeze G (.ok (.ref G.length) (G++ [.lst [.tup (tab h.n fl)]]))=.ok (.fl [.tup (tab h.n fl)]) G:=λG=>Fj (by simp)
 have hlen:(Df h.n s.page).length=h.n:=ZAZ;have hr:inR (h.n:Int):=Gg (by lia) (by have:=g.len;lia);have lt:(Ar h.n (h.rtH s.came)).length=h.n:=by simp [Ar]
 have td:∀G:DH,tidy G (.ok (.ref G.length) (G++ [.lst (Ar h.n (h.rtH s.came))]))=.ok (.ref G.length) (G++ [.lst (Ar h.n (h.rtH s.came))]):=λG=>Fb Rc
 have okT:okD 30 (.fl (Ar h.n (h.rtH s.came)))=true:=ZKf;have cp:=λG=>ZRQ p G
 have key:∀Γ:DH,∃Γ',ZBD [some (.fl (ns.map D.int)),some h.enc,some (stD h.n (lvS h f u) (coS h f u)),some (.int a),some (.tup (tab h.n fl)),some (.ref Γ.length),some (pgD h.n s.page),none,none,none] (Γ++ [.lst (Ar h.n (h.rtH s.came))])=.rt (.bl true) Γ':=λΓ=>by
  obtain ⟨y7,y8,hL⟩:=ZIc g t nn p (s0:=some (.fl (ns.map D.int))) (s2:=some (stD h.n (lvS h f u) (coS h f u))) (s3:=some (.int a)) (s4:=some (.tup (tab h.n fl))) (s9:=none) (G:=Γ) h.n 0 none none (by lia);have hL':Bp (gV 7) R4 (Cm 0 h.n) _ _=_:=hL;have fzl:freeze (Γ++ [.lst (Ar h.n (h.rtH s.came))]) (.ok (.ref (Γ.length + 1)) (Γ++ [.lst (Ar h.n (h.rtH s.came)),.lst (Ar h.n (h.rtH s.came))]))=.ok (.fl (Ar h.n (h.rtH s.came))) (Γ++ [.lst (Ar h.n (h.rtH s.came))]):=ZAq Rc
  have frt:∀X:DO,freeze (Γ++ [X]) (Py [h.enc,stD h.n (lvS h f u) (coS h f u),.int a,.tup (tab h.n fl)] (Γ++ [X]))=.ok (.fl (Ar h.n (h.rtH s.came))) (Γ++ [X]):=λX=>by rw [crt];exact Fj Rc
  have eqT:∀G:DH,Cq (.fl (Ar h.n (h.rtH s.came))) (.fl (Ar h.n (h.rtH s.came))) G=.ok (.bl true) G:=λG=>by rw [ZQW okT okT];simp
  have hl1:(Ar h.n (h.rtH s.came)).length < 1000000:=by rw [lt];have:=g.len;lia
  have hl2:(Ar h.n (h.rtH s.came)).length<=1000000:=by lia
  have hn6:h.n < 1000000:=by have:=g.len;lia
  have ty:∀X:List D,tyD (Γ++ [.lst X]) (.ref Γ.length)=some .lst:=λX=>by
   show (match (Γ++ [DO.lst X])[Γ.length]? with | some (.lst _)=>some Ty.lst | _=>none)=some Ty.lst
   rw [Dj]
   rfl
  have flr:Ob [.ref Γ.length] (Γ++ [.lst (Ar h.n (h.rtH s.came))])=.ok (.ref (Γ.length + 1)) (Γ++ [.lst (Ar h.n (h.rtH s.came)),.lst (Ar h.n (h.rtH s.came))]):=by
   have sq:By (.ref Γ.length) (Γ++ [.lst (Ar h.n (h.rtH s.came))])=some (Ar h.n (h.rtH s.came)):=by
    unfold By;dsimp only;rw [Dj]
    rfl
   unfold Ob;simp [sq,hl2,Av]
  refine ⟨Γ++ [.lst (Ar h.n (h.rtH s.came)++ [.int 1])],?_⟩;unfold pgD at hL' cp ⊢;generalize stD h.n (lvS h f u) (coS h f u)=E0 at *;generalize Ar h.n (h.rtH s.came)=TT at *;unfold ZBD ZIm ZJ0 ZIt ZH1;simp [cp,ty,Dj,lt,hr,hL',flr,fzl,hl1,hl2,hn6,Ep,frt,eqT]
 unfold Ol ZEL ZFG ZFT ZGX ZFJ ZEp ZGQ;rw [Bk];unfold pgD at key;have tdt:∀G':DH,∃G2,tidy G (.ok (.bl true) G')=.ok (.bl true) G2:=λG'=>by
  unfold tidy;dsimp only;split
  ·split
   ·exact ⟨_,rfl⟩
   ·exact ⟨_,rfl⟩
  ·exact ⟨_,rfl⟩
 rcases (by lia:f 4 % 2=0∨f 4 % 2=1) with z | z
 ·obtain ⟨Γ',hk⟩:=key G;obtain ⟨G2,h2⟩:=tdt Γ';refine ⟨G2,?_⟩;generalize stD h.n (lvS h f u) (coS h f u)=E0 at *;generalize Ar h.n (h.rtH s.came)=TT at *;simp [ch,cs,ca,cf,fz,crt,td,ct,f4,z,hk,h2]
 ·obtain ⟨Γ',hk⟩:=key (G++ [.lst (Ar h.n (h.rtH s.came))]);obtain ⟨G2,h2⟩:=tdt Γ';refine ⟨G2,?_⟩;have td2:=td (G++ [.lst (Ar h.n (h.rtH s.came))]);have cr2:=crt (G++ [.lst (Ar h.n (h.rtH s.came))]);generalize stD h.n (lvS h f u) (coS h f u)=E0 at *;generalize Ar h.n (h.rtH s.came)=TT at *;simp only [zU,qV,jE,Nat.zero_add,qR,jA,j1] at hk td2 cr2
  simp [ch,cs,ca,cf,fz,crt,td,td2,cr2,ct,f4,z,hk,h2]
theorem holds:Holds:=λns hl=>ZNp hl []
end Law
namespace Law
open PySem L2 DL
seal QE QT QA QS QSs QG QGs QI QTs QW QO
structure Txt (K:PySem.W.Frag) (mg:Str->Option xz):Prop where
 Qn:FT K mg "_law_off" ZBf ZAj
 Lq:FT K mg "_law_tape" ZBF ZB5
 Bb:FT K mg "_law_cell_at" ZBM ZDj
 Hu:FT K mg "_law_amount" ZB2 ZDw
 G9:FT K mg "_law_dense" ZD5 ZDS
 Ga:FT K mg "_law_unit" ZDD ZDT
 S6:FT K mg "_law_floods" Qc ZCw
 Qo:FT K mg "_law_pumped" ZB1 ZBS
 Sd:FT K mg "_law_steps" ZAg ZDi
 M3:FT K mg "_law_year" ZA4 ZDd
 Rf:FT K mg "_law_rule" Uc ZCz
 Rm:FT K mg "_law_basin" Yc ZBC
 R6:FT K mg "_law_name" ZBt ZBQ
 R8:FT K mg "_law_house" Vr ZDk
 S8:FT K mg "_law_down" ZCg ZCT
 Lf:FT K mg "_law_next" ZCG ZDZ
 Q8:FT K mg "_law_above" ZD1 ZDU
 Ry:FT K mg "_law_ahead" ZBr ZDQ
 Qv:FT K mg "_law_is_dry" ZBb ZBp
 Rn:FT K mg "_law_need" ZA3 ZCy
 Q6:FT K mg "_law_number" ZBj ZDL
 R3:FT K mg "_law_whole" ZAd ZAb
 Su:FT K mg "_law_page" Wy ZA6
 Rv:FT K mg "_law_state" ZBd ZDb
 Qs:MT K "Course" "__init__" "Course.__init__" Ub ZDn
 Nq:MT K "Course" "send" "Course.send" ZCF ZDM
 La:FT K mg "number_of" ZBA ZAE
 Le:FT K mg "down_of" ZCh ZCl
 Nv:MT K "Course" "send_down" "Course.send_down" ZDC ZCZ
 Qm:FT K mg "opened" Zy ZAp
 R1:FT K mg "stairs_at" ZBk ZB7
 V6:MT K "Course" "go_basin" "Course.go_basin" ZBc ZCb
 Je:FT K mg "passed" Vs ZB3
 Kz:FT K mg "down_in_reach" ZCk ZBv
 Rx:FT K mg "reach_rows" ZA5 ZCM
 Ru:FT K mg "served" Th ZBm
 Ky:FT K mg "way_down" ZCA ZCj
 Ks:FT K mg "shares" Xl ZBh
 T5:MT K "Course" "go_reach" "Course.go_reach" ZDz ZDO
 Qz:FT K mg "lasts_of_reaches" ZAB ZCY
 O6:MT K "Course" "go" "Course.go" W2 ZDK
 R7:FT K mg "dry_place" Wm ZBK
 R0:FT K mg "dry" Zv ZC8
 Jc:FT K mg "rights" ZC0 ZC3
 Ul:MT K "Course" "state_behind" "Course.state_behind" Up ZBH
 Sh:FT K mg "turn" ZD2 ZBJ
 Tc:FT K mg "law" Ji ZB6
 Az:CT K mg "Course"
 Rg:NoAttr K (Bq K "Course") "came"
 V2:NoAttr K (Bq K "Course") "coming"
 K6:NoAttr K (Bq K "Course") "house"
 Vk:NoAttr K (Bq K "Course") "levels"
 Ot:NoAttr K (Bq K "Course") "page"
 V7:NoAttr K (Bq K "Course") "reaches"
 Xb:NoAttr K (Bq K "Course") "year_turn"
 ZLJ:mg "all"=none
 ZFX:mg "bool"=none
 Tq:mg "enumerate"=none
 Wk:mg "int"=none
 Ov:mg "isinstance"=none
 Dz:mg "len"=none
 Vx:mg "list"=none
 ZEq:mg "max"=none
 Ux:mg "min"=none
 Gm:mg "range"=none
 ZMo:mg "sorted"=none
 Ir:mg "tuple"=none
 Yn:mg "zip"=none
 ZBx:mg "BRIM"=some (.int 4 (Ek K "BRIM"))
 Z4:mg "DELAY"=some (.int 3 (Ek K "DELAY"))
 ZDJ:mg "DOWN"=some (.int 2 (Ek K "DOWN"))
 S9:mg "KIND"=some (.int 0 (Ek K "KIND"))
 ZBG:mg "LIES"=some (.int 5 (Ek K "LIES"))
 ZCS:mg "NAME"=some (.int 1 (Ek K "NAME"))
 ZCa:mg "NEED"=some (.int 4 (Ek K "NEED"))
 J9:mg "PLACES"=some (.int 1 (Ek K "PLACES"))
 T4:mg "PUMP"=some (.int 6 (Ek K "PUMP"))
 ZBV:mg "PUMP_DELAY"=some (.int 1 (Ek K "PUMP_DELAY"))
 ZAU:mg "PUMP_TO"=some (.int 0 (Ek K "PUMP_TO"))
 ZAn:mg "RANK"=some (.int 5 (Ek K "RANK"))
 Qd:mg "ROW_DOWN"=some (.int 0 (Ek K "ROW_DOWN"))
 Vu:mg "ROW_NEED"=some (.int 2 (Ek K "ROW_NEED"))
 ZCU:mg "ROW_RANK"=some (.int 3 (Ek K "ROW_RANK"))
 ZAJ:mg "ROW_WATER"=some (.int 1 (Ek K "ROW_WATER"))
 ZBO:mg "RULE"=some (.int 5 (Ek K "RULE"))
 ZDW:mg "SEA"=some (.str "sea" (Ek K "SEA"))
 ZCN:mg "YEAR"=some (.int 0 (Ek K "YEAR"))
section
variable {P:xW} {w:xj} {K:PySem.W.Frag} {mg:Str->Option xz} {base:Heap}
theorem ZNA (T:Txt K mg):FnO P w K mg base 1 "_law_off" ZAj Vg:=by
 refine Cd T.Qn.F Uw λcdv A outer s H E hr=> ?_
 exact (Ai (Bs (ZQj o_le Jr Ae (Aa 0) (Ag Nk Ae Ae)) (Ai (An 0 Uw.nd (Ag Bu (Ag Bg (Ag Bg (Aa 0) (Ag Ds Ae (Aa 1))) Ae) Ae)) (Ai (An 0 Uw.nd (Ag Bu (Ag Ds (Aa 0) (Aa 0)) Ae)) (Am (Bj (Ag Bu (Ag Ds (Aa 0) (Ag Bg (Aa 0) (Aa 1))) Ae))))) Ci) (Ai (El PassesOwn.never rfl (I8 rfl T.Gm (Ac (Aa 1) Af)) (Bc 2 Uw.nd) (Am (An 0 Uw.nd (Ag Dt (Aa 0) (Ag Nk Ae Ae))))) (Am (Bj (Ag Bu (Aa 0) (Ag Nk Ae Ae))))))
theorem ZF3 (T:Txt K mg):FnO P w K mg base 1 "_law_tape" ZB5 Ou:=by
 refine Cd T.Lq.F ZLa λcdv A outer s H E hr=> ?_
 exact (Am (Bj (Q4 (Ig M7 (Cp Ef rfl T.Dz Ec (Ac (Aa 0) Af)) Ae (nomark _)) (Ny (ZIl (Ig Jr (Ak Al (Aa 0) Ae) Ae (nomark _)) (Ny (Ig o_ge (Ak Al (Aa 0) Ae) (Ag Nk Ae Ae) (nomark _))))))))
theorem Fd (T:Txt K mg):FnO P w K mg base 2 "_law_cell_at" ZDj Bf:=by
 refine Cd T.Bb.F Tt λcdv A outer s H E hr=> ?_
 exact (Ai (Bs (Gu (Aw (ZF3 T) (hr.mono (by decide)) rfl T.Lq.m T.Lq.k T.Lq.b pass0 (Ac (Aa 0) Af))) (Ai (An 2 Tt.nd Ae) (Ai (Bs (Bm Jr (Ag Bg Ae (Ag Dt (Aa 1) Ae)) (Cp Ef rfl T.Dz Ec (Ac (Aa 0) Af)) (nomark _)) (Am (An 2 Tt.nd (Ak Al (Aa 0) (Ag Bg Ae (Ag Dt (Aa 1) Ae))))) Ci) (Am (Bj (Aw (ZNA T) (hr.mono (by decide)) rfl T.Qn.m T.Qn.k T.Qn.b pass0 (Ac (Aa 2) (Ac (Ag Bu (Aa 1) Ae) Af))))))) Ci) (Ai (Bs (Bm Jr (Aa 1) (Cp Ef rfl T.Dz Ec (Ac (Aa 0) Af)) (nomark _)) (Am (Bj (Ak Al (Aa 0) (Aa 1)))) Ci) (Ai (An 2 Tt.nd (Ag Bu (Ag Ds Ae (Ag Bg (Ag Ds (Aa 1) (Aa 1)) (Ag Ds Ae (Cp Ef rfl T.Dz Ec (Ac (Aa 0) Af))))) Ae)) (Ai (Bs (Bm M7 (Cp Ef rfl T.Dz Ec (Ac (Aa 0) Af)) Ae (nomark _)) (Am (An 2 Tt.nd (Ag Bg (Aa 2) (Ag Bu (Ag Ds (Ak Al (Aa 0) (Ag Bu (Aa 1) (Cp Ef rfl T.Dz Ec (Ac (Aa 0) Af)))) Ae) Ae)))) Ci) (Am (Bj (Aa 2)))))))
theorem W0 (T:Txt K mg):FnO P w K mg base 1 "_law_amount" ZDw O3:=by
 refine Cd T.Hu.F ZPf λcdv A outer s H E hr=> ?_
 exact (Am (Bj (Ag Bg (Ag Ds (Aa 1) (Ag Bu (Aa 0) Ae)) (Ag Bu (Ag Dt (Aa 0) Ae) (Aa 1)))))
theorem Tf (T:Txt K mg):FnO P w K mg base 3 "_law_dense" ZDS G8:=by
 refine Cd T.G9.F ZLO λcdv A outer s H E hr=> ?_
 exact (Am (Bj (Ig (Dm hr.units) (Ag Bu (Aw (Fd T) (hr.mono (by decide)) rfl T.Bb.m T.Bb.k T.Bb.b pass0 (Ac (Aa 0) (Ac Ae Af))) Ae) Ae (nomark _))))
theorem Tz (T:Txt K mg):FnO P w K mg base 3 "_law_unit" ZDT Gs:=by
 refine Cd T.Ga.F ZRN λcdv A outer s H E hr=> ?_
 exact (Am (Bj (Ak Al (Cu (Ez (Ac Ae (Ac Ae (Ac (Ag Nk Ae Ae) Af))))) (Ag Bu (Ag Dt (Aw (Fd T) (hr.mono (by decide)) rfl T.Bb.m T.Bb.k T.Bb.b pass0 (Ac (Aa 0) (Ac Ae Af))) Ae) Ae))))
theorem ZK8 (T:Txt K mg):FnO P w K mg base 4 "_law_floods" ZCw W3:=by
 refine Cd T.S6.F Nh λcdv A outer s H E hr=> ?_
 exact (Ai (An 3 Nh.nd (Cp Ef rfl T.Dz Ec (Ac (Ak Al (Aa 1) Ae) Af))) (Ai (An 4 Nh.nd (Ag Bg Ae (Ag Ds Ae (Aa 3)))) (Ai (An 5 Nh.nd (Fl (Ez Af))) (Ai (El PassesOwn.never rfl (I8 rfl T.Gm (Ac (Aa 2) Af)) (Bc 6 Nh.nd) (Ai (Sq (Og 7 rfl Nh.nd (Fw (dn:=(Ax Qc).names) (N0:=Tj) (N:= ["_law_k","_law_script","_law_many","_law_b","_law_at"]) (nt:=1) (caps:= [0,3,4,6])) (I8 rfl T.Gm (Ac (Aa 3) Af)) (λC s₀ H₀ ex=>(Bc 0 (show (["_law_k","_law_script","_law_many","_law_b","_law_at"]:List Str).Nodup by decide +kernel))) (Er (by decide)) (λC s₀ H₀ ex=>Gh) (λC s₀ H₀ ex=>(Aw (Fd T) (hr.mono (by decide)) rfl T.Bb.m T.Bb.k T.Bb.b pass0 (Ac (Aa 1) (Ac (Ag Bg (Ag Bg (Aa 3) (Ag Ds (Aa 4) (Aa 2))) (Aa 0)) Af)))))) (Ai (Sq (Og 8 rfl Nh.nd (Fw (dn:=(Ax Qc).names) (N0:=Tj) (N:= ["_law_cell","_law_script"]) (nt:=1) (caps:= [0])) (Ft (Aa 7)) (λC s₀ H₀ ex=>(Bc 0 (show (["_law_cell","_law_script"]:List Str).Nodup by decide +kernel))) (Er (by decide)) (λC s₀ H₀ ex=>Gh) (λC s₀ H₀ ex=>(Aw (W0 T) (hr.mono (by decide)) rfl T.Hu.m T.Hu.k T.Hu.b pass0 (Ac (Aa 0) (Ac (Cu (Aw (Tz T) (hr.mono (by decide)) rfl T.Ga.m T.Ga.k T.Ga.b pass0 (Ac (Aa 1) Af))) Af)))))) (Ai (Bs (Gu (Aw (Tf T) (hr.mono (by decide)) rfl T.G9.m T.G9.k T.G9.b pass0 (Ac (Aa 0) Af))) (Am (Sq (Og 8 rfl Nh.nd (Fw (dn:=(Ax Qc).names) (N0:=Tj) (N:= ["_law_cell","_law_script"]) (nt:=1) (caps:= [0])) (Ft (Aa 7)) (λC s₀ H₀ ex=>(Bc 0 (show (["_law_cell","_law_script"]:List Str).Nodup by decide +kernel))) (Er (by decide)) (λC s₀ H₀ ex=>Gh) (λC s₀ H₀ ex=>(Cu (Ag Ds (Cu (Aw (Tz T) (hr.mono (by decide)) rfl T.Ga.m T.Ga.k T.Ga.b pass0 (Ac (Aa 1) Af))) (Ag Bu (Aa 0) Ae))))))) Ci) (Am (Es (Hd PySem.F.slot_list_append PySem.F.type_list_append Hh (Aa 5) (Ac (Ho Jo rfl T.Ir Im (Ac (Aa 8) Af)) Af)))))))) (Am (Bj (Aa 5)))))))
theorem ZPS (T:Txt K mg):FnO P w K mg base 1 "_law_pumped" ZBS Yl:=by
 refine Cd T.Qo.F Rr λcdv A outer s H E hr=> ?_
 exact (Ai (An 1 Rr.nd Ae) (Ai (El PassesOwn.never rfl (Ft (Aa 0)) (Hc rfl (Dh (Bc 2 Rr.nd) (Dh (Bc 3 Rr.nd) (Dh (Bc 4 Rr.nd) Hb)))) (Am (Bs (Bm (Dm hr.units) (Aa 4) Fy (nomark _)) (Am (An 1 Rr.nd (Ag Bg (Aa 1) (Aa 3)))) Ci))) (Am (Bj (Aa 1)))))
theorem ZNs (T:Txt K mg):FnO P w K mg base 1 "_law_steps" ZDi Yi:=by
 refine Cd T.Sd.F Lp λcdv A outer s H E hr=> ?_
 exact (Ai (An 3 Lp.nd (Fl (Ez Af))) (Ai (An 4 Lp.nd Ae) (Ai (El PassesOwn.never rfl (I8 rfl T.Gm (Ac (Ag Bu (Ak Al (Aa 0) Ae) Ae) Af)) (Bc 5 Lp.nd) (Ai (An 4 Lp.nd (Ag Bg (Aa 4) (Ag Ds (Aa 1) (Ag Bu (Ak Al (Aa 0) (Ag Bg Ae (Aa 5))) Ae)))) (Ai (An 6 Lp.nd (Ag Bg Ae (Ag Ds (Aa 1) (Ag Bu (Ag Dt (Ak Al (Aa 0) (Ag Bg Ae (Aa 5))) Ae) Ae)))) (Ai (An 7 Lp.nd Fy) (Ai (Bs (Hi (Pu (Gu (Aa 2)) (Ss (Bm (Dm hr.units) (Ag Bu (Ag Dt (Ak Al (Aa 0) (Ag Bg Ae (Aa 5))) Ae) Ae) Ae (nomark _))))) (Am (An 7 Lp.nd Fy)) Ci) (Ai (Es (Hd PySem.F.slot_list_append PySem.F.type_list_append Hh (Aa 3) (Ac (Fi (Ac (Aa 4) (Ac (Aa 6) (Ac (Aa 7) Af)))) Af))) (Am (An 4 Lp.nd (Ag Bg (Aa 4) (Aa 6)))))))))) (Am (Bj (Ho Jo rfl T.Ir Im (Ac (Aa 3) Af)))))))
theorem ZEY (T:Txt K mg):FnO P w K mg base 3 "_law_year" ZDd Jw:=by
 refine Cd T.M3.F ZFM λcdv A outer s H E hr=> ?_
 exact (Ai (An 1 ZFM.nd (Aw (Fd T) (hr.mono (by decide)) rfl T.Bb.m T.Bb.k T.Bb.b pass0 (Ac (Aa 0) (Ac Ae Af)))) (Ai (Bs (Bm (Dm hr.units) (Ag Bu (Ag Dt (Aa 1) Ae) Ae) Ae (nomark _)) (Am (Bj (Ag Bg Ae (Ag Bu (Ag Dt (Aa 1) Ae) Ae)))) Ci) (Am (Bj (Ag Bg Ae (Ag Bu (Aa 1) Ae))))))
theorem ZLj (T:Txt K mg):FnO P w K mg base 4 "_law_rule" ZCz Y8:=by
 refine Cd T.Rf.F K4 λcdv A outer s H E hr=> ?_
 exact (Ai (An 4 K4.nd (Aw (ZEY T) (hr.mono (by decide)) rfl T.M3.m T.M3.k T.M3.b pass0 (Ac (Aa 0) Af))) (Ai (An 5 K4.nd (Fl (Ez Af))) (Ai (An 6 K4.nd Ae) (Ai (El PassesOwn.never rfl (I8 rfl T.Gm (Ac Ae Af)) (Bc 7 K4.nd) (Ai (An 8 K4.nd (Ag Bu (Ag Ds (Ag Ds (Aw (Fd T) (hr.mono (by decide)) rfl T.Bb.m T.Bb.k T.Bb.b pass0 (Ac (Aa 0) (Ac (Ag Bg (Aa 1) Ae) Af))) Ae) (Ag Bg (Ag Ds (Aa 7) (Aa 7)) Ae)) Ae)) (Ai (Sq (Og 9 rfl K4.nd (Fw (dn:=(Ax Uc).names) (N0:=Vq) (N:= ["_law_k","_law_script","_law_b","_law_j"]) (nt:=1) (caps:= [0,1,7])) (I8 rfl T.Gm (Ac Ae Af)) (λC s₀ H₀ ex=>(Bc 0 (show (["_law_k","_law_script","_law_b","_law_j"]:List Str).Nodup by decide +kernel))) (Er (by decide)) (λC s₀ H₀ ex=>Gh) (λC s₀ H₀ ex=>(Ag Dt (Aw (Fd T) (hr.mono (by decide)) rfl T.Bb.m T.Bb.k T.Bb.b pass0 (Ac (Aa 1) (Ac (Ag Bg (Ag Bg (Aa 2) Ae) (Ag Bu (Ag Bg (Ag Ds Ae (Aa 3)) (Aa 0)) Ae)) Af))) (Ag Bg Ae (Ag Ds Ae (Ag Dt (Aa 3) Ae))))))) (Ai (Bs (Gu (Aw (ZF3 T) (hr.mono (by decide)) rfl T.Lq.m T.Lq.k T.Lq.b pass0 (Ac (Aa 0) Af))) (Ai (An 8 K4.nd (Ag Dt (Aw (Fd T) (hr.mono (by decide)) rfl T.Bb.m T.Bb.k T.Bb.b pass0 (Ac (Aa 0) (Ac (Ag Bg (Aa 1) Ae) Af))) (Ak Al (Cu (Ez (Ac Ae (Ac Ae (Ac Ae (Ac Ae Af)))))) (Aa 7)))) (Am (Sq (Og 9 rfl K4.nd (Fw (dn:=(Ax Uc).names) (N0:=Vq) (N:= ["_law_k","_law_script","_law_b","_law_j"]) (nt:=1) (caps:= [0,1,7])) (I8 rfl T.Gm (Ac Ae Af)) (λC s₀ H₀ ex=>(Bc 0 (show (["_law_k","_law_script","_law_b","_law_j"]:List Str).Nodup by decide +kernel))) (Er (by decide)) (λC s₀ H₀ ex=>Gh) (λC s₀ H₀ ex=>(Ag Dt (Aw (Fd T) (hr.mono (by decide)) rfl T.Bb.m T.Bb.k T.Bb.b pass0 (Ac (Aa 1) (Ac (Ag Bg (Ag Bg (Aa 2) Ae) (Aa 0)) Af))) (Ak Al (Cu (Ez (Ac Ae (Ac Ae (Ac Ae (Ac Ae Af)))))) (Aa 3)))))))) Ci) (Am (Bs (Hi (J8 (Bm (Dm hr.units) (Aa 7) Ae (nomark _)) (Kv (Hi (Pu (Bm (Dm hr.units) (Ag Bu (Aa 8) Ae) Ae (nomark _)) (Ss (Bm Jr (Ag Bg (Aa 6) Ae) (Aa 4) (nomark _)))))))) (Ai (Bs (Bm M7 (Aa 7) Ae (nomark _)) (Am (An 6 K4.nd (Ag Bg (Ag Bg (Aa 6) Ae) (Ag Bu (Ag Dt (Aa 8) Ae) (Ag Hm (Ag Hm (Aa 4) (Aa 6)) Ae))))) Ci) (Am (Es (Hd PySem.F.slot_list_append PySem.F.type_list_append Hh (Aa 5) (Ac (Fi (Ac (Aa 6) (Ac (Aw (ZNs T) (hr.mono (by decide)) rfl T.Sd.m T.Sd.k T.Sd.b pass0 (Ac (Aa 9) (Ac (Aa 2) (Ac (Aa 3) Af)))) Af))) Af))))) Ci)))))) (Am (Bj (Ho Jo rfl T.Ir Im (Ac (Aa 5) Af))))))))
theorem ZPg (T:Txt K mg):FnO P w K mg base 5 "_law_basin" ZBC Vf:=by
 refine Cd T.Rm.F Kf λcdv A outer s H E hr=> ?_
 exact (Ai (An 5 Kf.nd (Cu (Aw (Tz T) (hr.mono (by decide)) rfl T.Ga.m T.Ga.k T.Ga.b pass0 (Ac (Aa 0) Af)))) (Ai (An 6 Kf.nd (Aw (Fd T) (hr.mono (by decide)) rfl T.Bb.m T.Bb.k T.Bb.b pass0 (Ac (Aa 0) (Ac (Ag Bg (Aa 1) Ae) Af)))) (Ai (An 7 Kf.nd (Q4 (Ig M7 (Cp Ef rfl T.Dz Ec (Ac (Aa 3) Af)) Ae (nomark _)) (Ny (Ig (Dm hr.units) (Ag Bu (Aa 6) Ae) Ae (nomark _))))) (Ai (An 8 Kf.nd (Aw (ZLj T) (hr.mono (by decide)) rfl T.Rf.m T.Rf.k T.Rf.b pass0 (Ac (Aa 0) (Ac (Aa 1) (Ac (Aa 5) (Ac (Aa 7) Af)))))) (Ai (An 9 Kf.nd Et) (Ai (Bs (Gu (Aa 7)) (Ai (An 10 Kf.nd (Ag Bg (Cp (ZMh rfl) rfl T.ZEq ZIn (Ac (Cu (Jh rfl (Fw (dn:=(Ax Yc).names) (N0:=ZAa) (N:= ["_law_season"]) (nt:=1) (caps:= [])) (Ft (Aa 8)) (λC s₀ H₀ ex=>(Bc 0 (show (["_law_season"]:List Str).Nodup by decide +kernel))) (Er (by decide)) (λC s₀ H₀ ex=>Gh) (λC s₀ H₀ ex=>(Aw (ZPS T) (hr.mono (by decide)) rfl T.Qo.m T.Qo.k T.Qo.b pass0 (Ac (Ak Al (Aa 0) Ae) Af))))) Af)) (Ag Ds (Aa 5) (Ag Bu (Ag Dt (Aa 6) Ae) Ae)))) (Ai (An 11 Kf.nd (Ak Al (Aa 3) (Ag Bu (Ag Bg (Ag Bg (Aa 2) Ae) (Ag Bu (Ag Dt (Aa 6) Ae) (Ag Hm (Cp Ef rfl T.Dz Ec (Ac (Aa 3) Af)) Ae))) (Cp Ef rfl T.Dz Ec (Ac (Aa 3) Af))))) (Am (An 9 Kf.nd (Fi (Ac (Aa 11) (Ac (Ag Bg Ae (Ag Bu (Ag Dt (Aa 6) Ae) Ae)) (Ac (Aa 10) Af)))))))) Ci) (Ai (An 12 Kf.nd (Aw (W0 T) (hr.mono (by decide)) rfl T.Hu.m T.Hu.k T.Hu.b pass0 (Ac (Aw (Fd T) (hr.mono (by decide)) rfl T.Bb.m T.Bb.k T.Bb.b pass0 (Ac (Aa 0) (Ac (Ag Bg (Aa 1) Ae) Af))) (Ac (Aa 5) Af)))) (Am (Bj (Fi (Ac Fy (Ac (Ak Al (Aa 3) (Aa 2)) (Ac (Ak Al (Aa 4) Ae) (Ac (Ak Al (Aa 4) Ae) (Ac (Aa 12) (Ac (Aa 8) (Ac (Aa 9) Af)))))))))))))))))
theorem ZRS (T:Txt K mg):FnO P w K mg base 1 "_law_name" ZBQ Xp:=by
 refine Cd T.R6.F ZCn λcdv A outer s H E hr=> ?_
 exact (Ai (An 3 ZCn.nd (Ak Al Fy (Ag Bu (Ag Dt (Aa 0) Ae) Ae))) (Ai (Bs (Hi (Pu (Bm (Dm hr.units) (Ag Bu (Aa 0) Ae) Ae (nomark _)) (Ss (Bm Jr (Aa 2) Ae (nomark _))))) (Am (Bj (Ag Ds (Aa 3) (Ag Bg (Aa 1) Ae)))) Ci) (Ai (An 4 ZCn.nd (Ak Al Fy (Ag Bu (Ag Bg (Ag Ds Ae (Aa 1)) (Ag Dt (Aa 0) Ae)) Ae))) (Ai (Bs (Bm (Dm hr.units) (Ag Bu (Aa 0) Ae) Ae (nomark _)) (Am (Bj (Ag Bg (Aa 4) (Ag Ds (Aa 3) (Ag Bu (Ag Dt (Aa 0) Ae) Ae))))) Ci) (Am (Bj (Ag Bg (Ag Bg (Ag Ds (Aa 3) (Ag Bu (Ag Dt (Aa 0) Ae) Ae)) (Aa 4)) (Ag Ds (Aa 3) (Ag Hm Ae (Ag Bu (Ag Dt (Aa 0) Ae) Ae))))))))))
theorem ZLs (T:Txt K mg):FnO P w K mg base 6 "_law_house" ZDk Z2:=by
 refine Cd T.R8.F Gj λcdv A outer s H E hr=> ?_
 exact (Ai (An 1 Gj.nd (Aw (Fd T) (hr.mono (by decide)) rfl T.Bb.m T.Bb.k T.Bb.b pass0 (Ac (Aa 0) (Ac Ae Af)))) (Ai (An 2 Gj.nd (Ag Bg (Ag Bg Ae (Ag Bu (Aa 1) Ae)) (Ho ZEb rfl T.Wk Vz (Ac (Aw (Tf T) (hr.mono (by decide)) rfl T.G9.m T.G9.k T.G9.b pass0 (Ac (Aa 0) Af)) Af)))) (Ai (Bs (Bm (Dm hr.units) (Ag Bu (Ag Dt (Aa 1) Ae) Ae) Ae (nomark _)) (Am (An 2 Gj.nd (Ag Bg Ae (Ag Bu (Ag Dt (Aa 1) Ae) Ae)))) Ci) (Ai (Sq (Og 3 rfl Gj.nd (Fw (dn:=(Ax Vr).names) (N0:=ZAD) (N:= ["_law_k","_law_script","_law_many"]) (nt:=1) (caps:= [0,2])) (I8 rfl T.Gm (Ac (Aa 2) Af)) (λC s₀ H₀ ex=>(Bc 0 (show (["_law_k","_law_script","_law_many"]:List Str).Nodup by decide +kernel))) (Er (by decide)) (λC s₀ H₀ ex=>Gh) (λC s₀ H₀ ex=>(Aw (ZRS T) (hr.mono (by decide)) rfl T.R6.m T.R6.k T.R6.b pass0 (Ac (Aw (Fd T) (hr.mono (by decide)) rfl T.Bb.m T.Bb.k T.Bb.b pass0 (Ac (Aa 1) (Ac Ae Af))) (Ac (Aa 0) (Ac (Aa 2) Af))))))) (Ai (An 5 Gj.nd (Fl (Ez Af))) (Ai (El PassesOwn.never rfl (I8 rfl T.Gm (Ac (Aa 2) Af)) (Bc 4 Gj.nd) (Ai (An 6 Gj.nd (Ag Bg Ae (Ag Ds Ae (Aa 4)))) (Ai (An 7 Gj.nd (Ag Bu (Aw (Fd T) (hr.mono (by decide)) rfl T.Bb.m T.Bb.k T.Bb.b pass0 (Ac (Aa 0) (Ac (Ag Bg (Aa 6) Ae) Af))) (Ag Hm (Aa 2) (Aa 4)))) (Ai (Bs (Hi (J8 (Bm (Dm hr.units) (Ag Bu (Ag Dt (Aa 1) Ae) Ae) Ae (nomark _)) (Kv (Gu (Aw (Tf T) (hr.mono (by decide)) rfl T.G9.m T.G9.k T.G9.b pass0 (Ac (Aa 0) Af)))))) (Am (An 7 Gj.nd (Cp (Z8 rfl) rfl T.Ux Tw (Ac Ae (Ac (Ag Hm (Ag Hm (Aa 2) Ae) (Aa 4)) Af))))) Ci) (Ai (An 8 Gj.nd (Aw (Fd T) (hr.mono (by decide)) rfl T.Bb.m T.Bb.k T.Bb.b pass0 (Ac (Aa 0) (Ac (Ag Bg (Aa 6) Ae) Af)))) (Ai (An 9 Gj.nd (Fi (Ac Fy (Ac (Ag Ds (Ag Bu (Aa 8) Ae) (Ag Bu (Ag Dt (Aa 8) Ae) Ae)) Af)))) (Ai (Bs (Bm M7 (Aa 7) Ae (nomark _)) (Am (An 9 Gj.nd (Fi (Ac (Ak Al (Aa 3) (Ag Bg (Aa 4) (Aa 7))) (Ac (Ak Al (Aa 9) Ae) Af))))) Ci) (Ai (An 10 Gj.nd (Ag Bu (Aw (Fd T) (hr.mono (by decide)) rfl T.Bb.m T.Bb.k T.Bb.b pass0 (Ac (Aa 0) (Ac (Aa 6) Af))) Ae)) (Ai (Bs (Gu (Aw (Tf T) (hr.mono (by decide)) rfl T.G9.m T.G9.k T.G9.b pass0 (Ac (Aa 0) Af))) (Am (An 10 Gj.nd (Ak Al (Cu (Ez (Ac Ae (Ac Ae (Ac Ae (Ac Ae (Ac Ae Af))))))) (Aa 10)))) Ci) (Ai (An 11 Gj.nd (Aw (W0 T) (hr.mono (by decide)) rfl T.Hu.m T.Hu.k T.Hu.b pass0 (Ac (Aw (Fd T) (hr.mono (by decide)) rfl T.Bb.m T.Bb.k T.Bb.b pass0 (Ac (Aa 0) (Ac (Ag Bg (Aa 6) Ae) Af))) (Ac (Cu (Aw (Tz T) (hr.mono (by decide)) rfl T.Ga.m T.Ga.k T.Ga.b pass0 (Ac (Aa 0) Af))) Af)))) (Ai (An 12 Gj.nd (Ag Bu (Aw (Fd T) (hr.mono (by decide)) rfl T.Bb.m T.Bb.k T.Bb.b pass0 (Ac (Aa 0) (Ac (Ag Bg (Aa 6) Ae) Af))) (Ak Al (Cu (Ez (Ac Ae (Ac (Ag Nk Ae Ae) Af)))) (Ag Ds (Ag Bu (Ag Dt (Aa 1) Ae) Ae) (Ho ZEb rfl T.Wk Vz (Ac (ZGx (Aw (Tf T) (hr.mono (by decide)) rfl T.G9.m T.G9.k T.G9.b pass0 (Ac (Aa 0) Af))) Af)))))) (Am (Bs (Bm Jr (Aa 10) Ae (nomark _)) (Am (Es (Hd PySem.F.slot_list_append PySem.F.type_list_append Hh (Aa 5) (Ac (Cu (Aw (ZPg T) (hr.mono (by decide)) rfl T.Rm.m T.Rm.k T.Rm.b pass0 (Ac (Aa 0) (Ac (Aa 6) (Ac (Aa 4) (Ac (Aa 3) (Ac (Aa 9) Af))))))) Af)))) (Am (Bs (Bm Jr (Aa 10) Ae (nomark _)) (Am (Es (Hd PySem.F.slot_list_append PySem.F.type_list_append Hh (Aa 5) (Ac (Fi (Ac Fy (Ac (Ak Al (Aa 3) (Aa 4)) (Ac (Ak Al (Aa 9) Ae) (Ac (Ak Al (Aa 9) Ae) (Ac (Aa 11) (Ac (Aa 12) Af))))))) Af)))) (Am (Es (Hd PySem.F.slot_list_append PySem.F.type_list_append Hh (Aa 5) (Ac (Fi (Ac Fy (Ac (Ak Al (Aa 3) (Aa 4)) (Ac (Ak Al (Aa 9) Ae) (Ac (Ak Al (Aa 9) Ae) (Ac (Aa 11) Af)))))) Af))))))))))))))))))) (Am (Bj (Fi (Ac (Aw (ZEY T) (hr.mono (by decide)) rfl T.M3.m T.M3.k T.M3.b pass0 (Ac (Aa 0) Af)) (Ac (Ho Jo rfl T.Ir Im (Ac (Aa 5) Af)) Af)))))))))))
theorem ZKU (T:Txt K mg):FnO P w K mg base 1 "_law_down" ZCT Vd:=by
 refine Cd T.S8.F ZHB λcdv A outer s H E hr=> ?_
 exact (Ai (El PassesOwn.never rfl (I8 rfl T.Gm (Ac (Cp Ef rfl T.Dz Ec (Ac (Ak Al (Aa 0) Ae) Af)) Af)) (Bc 2 ZHB.nd) (Am (Bs (Bm (Dm hr.units) (Ak Al (Ak Al (Ak Al (Aa 0) Ae) (Aa 2)) Ae) (Ak Al (Ak Al (Ak Al (Aa 0) Ae) (Aa 1)) Ae) (nomark _)) (Am (Bj (Aa 2))) Ci))) (Am (Bj Et)))
theorem ZIF (T:Txt K mg):FnO P w K mg base 2 "_law_next" ZDZ U8:=by
 refine Cd T.Lf.F ZFZ λcdv A outer s H E hr=> ?_
 exact (Ai (An 2 ZFZ.nd (Aw (ZKU T) (hr.mono (by decide)) rfl T.S8.m T.S8.k T.S8.b pass0 (Ac (Aa 0) (Ac (Aa 1) Af)))) (Ai (Bs (Hi (J8 (Bm Zi (Aa 2) Et (nomark _)) (J8 (Bm M7 (Ak Al (Ak Al (Ak Al (Aa 0) Ae) (Aa 1)) Ae) Ae (nomark _)) (Kv (Bm (Dm hr.units) (Ak Al (Ak Al (Ak Al (Aa 0) Ae) (Aa 2)) Ae) Fy (nomark _)))))) (Am (Bj Et)) Ci) (Am (Bj (Aa 2)))))
theorem ZRb (T:Txt K mg):FnO P w K mg base 3 "_law_above" ZDU Xa:=by
 refine Cd T.Q8.F ZDE λcdv A outer s H E hr=> ?_
 exact (Ai (An 2 ZDE.nd (Fl (Ez (Ac (Aa 1) Af)))) (Ai (El PassesOwn.never rfl (ZFN rfl T.Gm (Ac (Ag Hm (Aa 1) Ae) (Ac (U3 Tu Ae) (Ac (U3 Tu Ae) Af)))) (Bc 3 ZDE.nd) (Am (Bs (Hi (Pu (Bm (R9 hr.units) (Ak Al (Ak Al (Ak Al (Aa 0) Ae) (Aa 3)) Ae) Fy (nomark _)) (Ss (Bm o_in (Aw (ZIF T) (hr.mono (by decide)) rfl T.Lf.m T.Lf.k T.Lf.b pass0 (Ac (Aa 0) (Ac (Aa 3) Af))) (Aa 2) (by with_unfolding_all rfl))))) (Am (Es (Hd PySem.F.slot_list_append PySem.F.type_list_append Hh (Aa 2) (Ac (Aa 3) Af)))) Ci))) (Am (Bj (Aa 2)))))
theorem ZRi (T:Txt K mg):FnO P w K mg base 1 "_law_ahead" ZDQ Xh:=by
 refine Cd T.Ry.F ZAt λcdv A outer s H E hr=> ?_
 exact (Ai (An 3 ZAt.nd (Ak Al (Ak Al (Aa 0) Ae) (Aa 1))) (Ai (An 4 ZAt.nd (Ak Al (Ak Al (Aa 0) Ae) (Aa 2))) (Am (Bj (Q4 (Ig (Dm hr.units) (Ak Al (Aa 3) Ae) Fy (nomark _)) (Ny (ZIl (Ig Jr (Ak Al (Aa 3) Ae) (Ak Al (Aa 4) Ae) (nomark _)) (Ny (Q4 (Ig (Dm hr.units) (Ak Al (Aa 3) Ae) (Ak Al (Aa 4) Ae) (nomark _)) (Ny (Ig Jr (Aa 1) (Aa 2) (nomark _))))))))))))
theorem ZKD (T:Txt K mg):FnO P w K mg base 4 "_law_is_dry" ZBp Vo:=by
 refine Cd T.Qv.F ZEl λcdv A outer s H E hr=> ?_
 exact (Ai (El PassesOwn.never rfl (Ft (Cu (Aw (ZRb T) (hr.mono (by decide)) rfl T.Q8.m T.Q8.k T.Q8.b pass0 (Ac (Aa 0) (Ac (Aa 3) Af))))) (Bc 4 ZEl.nd) (Am (Bs (Hi (Pu (Bm (R9 hr.units) (Aa 4) (Aa 2) (nomark _)) (Pu (Bm M7 (Ak Al (Ak Al (Aa 1) (Aa 4)) Ae) Ae (nomark _)) (Ss (Mz (Gu (Aw (ZRi T) (hr.mono (by decide)) rfl T.Ry.m T.Ry.k T.Ry.b pass0 (Ac (Aa 0) (Ac (Aa 4) (Ac (Aa 2) Af)))))))))) (Am (Bj Nj)) Ci))) (Am (Bj (Ig (Dm hr.units) (Ak Al (Ak Al (Aa 1) (Aa 3)) Ae) Ae (nomark _)))))
theorem ZL7 (T:Txt K mg):FnO P w K mg base 1 "_law_need" ZCy Vw:=by
 refine Cd T.Rn.F ZPZ λcdv A outer s H E hr=> ?_
 exact (Ai (Bs (Bm (Dm hr.units) (Ak Al (Aa 0) Ae) Fy (nomark _)) (Am (Bj (Ak Al (Aa 0) Ae))) Ci) (Am (Bj Ae)))
theorem ZMT (T:Txt K mg):FnO P w K mg base 3 "_law_number" ZDL U5:=by
 refine Cd T.Q6.F ZJX λcdv A outer s H E hr=> ?_
 exact (Ai (An 1 ZJX.nd (Aw (Fd T) (hr.mono (by decide)) rfl T.Bb.m T.Bb.k T.Bb.b pass0 (Ac (Aa 0) (Ac Ae Af)))) (Am (Bj (Ag Bu (Ag Dt (Aa 1) Ae) (Ak Al (Cu (Ez (Ac Ae (Ac (Ag Nk Ae Ae) Af)))) (Ag Bu (Aa 1) Ae))))))
theorem ZNP (T:Txt K mg):FnO P w K mg base 1 "_law_whole" ZAb V8:=by
 refine Cd T.R3.F ZO6 λcdv A outer s H E hr=> ?_
 exact (Am (Bj (Q4 (Cp Oz rfl T.Ov Pb (Ac (Aa 0) (Ac (Od rfl T.Wk Vz) Af))) (Q4 (ZGx (Cp Oz rfl T.Ov Pb (Ac (Aa 0) (Ac (Od rfl T.ZFX ZFy) Af)))) (Ny (Ig o_ge (Aa 0) Ae (nomark _)))))))
theorem ZQD (T:Txt K mg):FnO P w K mg base 2 "_law_page" ZA6 Wa:=by
 refine Cd T.Su.F ZFu λcdv A outer s H E hr=> ?_
 exact (Ai (Bs (Hi (J8 (Mz (Gu (Cp Oz rfl T.Ov Pb (Ac (Aa 0) (Ac (Od rfl T.Ir Im) Af))))) (Kv (Bm (R9 hr.units) (Cp Ef rfl T.Dz Ec (Ac (Aa 0) Af)) (Aa 1) (nomark _))))) (Am (Bj Nj)) Ci) (Ai (El PassesOwn.never rfl (Ft (Aa 0)) (Bc 2 ZFu.nd) (Ai (Bs (Hi (J8 (Mz (Gu (Cp Oz rfl T.Ov Pb (Ac (Aa 2) (Ac (Od rfl T.Ir Im) Af))))) (Kv (Bm (R9 hr.units) (Cp Ef rfl T.Dz Ec (Ac (Aa 2) Af)) Ae (nomark _))))) (Am (Bj Nj)) Ci) (Am (Bs (Mz (Gu (Cp (ZKH rfl) rfl T.ZLJ ZNN (Ac (Cu (Jh rfl (Fw (dn:=(Ax Wy).names) (N0:=ZCW) (N:= ["_law_number_here"]) (nt:=1) (caps:= [])) (Ft (Aa 2)) (λC s₀ H₀ ex=>(Bc 0 (show (["_law_number_here"]:List Str).Nodup by decide +kernel))) (Er (by decide)) (λC s₀ H₀ ex=>Gh) (λC s₀ H₀ ex=>(Aw (ZNP T) (hr.mono (by decide)) rfl T.R3.m T.R3.k T.R3.b pass0 (Ac (Aa 0) Af))))) Af)))) (Am (Bj Nj)) Ci)))) (Am (Bj Nj))))
theorem ZM8 (T:Txt K mg):FnO P w K mg base 4 "_law_state" ZDb Z6:=by
 refine Cd T.Rv.F J0 λcdv A outer s H E hr=> ?_
 exact (Ai (An 2 J0.nd (Ak Al (Aa 1) Ae)) (Ai (An 3 J0.nd (Cu (Aw (Tz T) (hr.mono (by decide)) rfl T.Ga.m T.Ga.k T.Ga.b pass0 (Ac (Aa 0) Af)))) (Ai (An 4 J0.nd (Ag Bg Ae (Ag Ds Ae (Cp Ef rfl T.Dz Ec (Ac (Aa 2) Af))))) (Ai (An 5 J0.nd (Fl (Ez Af))) (Ai (An 6 J0.nd (Fl (Ez Af))) (Ai (El PassesOwn.never rfl (I8 rfl T.Gm (Ac (Cp Ef rfl T.Dz Ec (Ac (Aa 2) Af)) Af)) (Bc 7 J0.nd) (Ai (An 8 J0.nd Ae) (Ai (Bs (Bm (Dm hr.units) (Ak Al (Ak Al (Aa 2) (Aa 7)) Ae) Fy (nomark _)) (Am (An 8 J0.nd (Ag Bu (Aw (W0 T) (hr.mono (by decide)) rfl T.Hu.m T.Hu.k T.Hu.b pass0 (Ac (Aw (Fd T) (hr.mono (by decide)) rfl T.Bb.m T.Bb.k T.Bb.b pass0 (Ac (Aa 0) (Ac (Ag Bg (Aa 4) (Aa 7)) Af))) (Ac (Aa 3) Af))) (Ag Bg (Ak Al (Ak Al (Aa 2) (Aa 7)) Ae) Ae)))) Ci) (Ai (Es (Hd PySem.F.slot_list_append PySem.F.type_list_append Hh (Aa 5) (Ac (Aa 8) Af))) (Ai (An 9 J0.nd (Aw (Fd T) (hr.mono (by decide)) rfl T.Bb.m T.Bb.k T.Bb.b pass0 (Ac (Aa 0) (Ac (Ag Bg (Ag Bg (Aa 4) (Cp Ef rfl T.Dz Ec (Ac (Aa 2) Af))) (Aa 7)) Af)))) (Ai (An 10 J0.nd (Fl (Ez Af))) (Ai (El PassesOwn.never rfl (I8 rfl T.Gm (Ac Ae Af)) (Bc 11 J0.nd) (Ai (Es (Hd PySem.F.slot_list_append PySem.F.type_list_append Hh (Aa 10) (Ac (Ag Ds (Aa 3) (Ag Bu (Aa 9) Ae)) Af))) (Am (An 9 J0.nd (Ag Dt (Aa 9) Ae))))) (Am (Es (Hd PySem.F.slot_list_append PySem.F.type_list_append Hh (Aa 6) (Ac (Ho Jo rfl T.Ir Im (Ac (Aa 10) Af)) Af))))))))))) (Am (Bj (Fi (Ac (Ho Jo rfl T.Ir Im (Ac (Aa 5) Af)) (Ac (Ho Jo rfl T.Ir Im (Ac (Aa 6) Af)) Af)))))))))))
theorem ZEv (T:Txt K mg):MtO P w K mg base 1 "Course" "__init__" ZDn Nm:=by
 refine Cd T.Qs.F ZDP λcdv A outer s H E hr=> ?_
 exact (Ai (Pz (Aa 2) (Hc rfl (Dh (Bc 5 ZDP.nd) (Dh (Bc 6 ZDP.nd) Hb)))) (Ai (O2 T.Az.N T.Az.cl T.K6 (Aa 0) (Aa 1)) (Ai (O2 T.Az.N T.Az.cl T.Vk (Aa 0) (Aa 5)) (Ai (O2 T.Az.N T.Az.cl T.Xb (Aa 0) (Ag Bu (Aa 3) (Ak Al (Aa 1) (Cz (v:=(.int 0)) rfl T.ZCN ⟨_,rfl⟩ (λ_ _=>rfl))))) (Ai (O2 T.Az.N T.Az.cl T.Rg (Aa 0) (Jh rfl (Fw (dn:=(Ax Ub).names) (N0:=Zc) (N:= ["cubes","ahead"]) (nt:=2) (caps:= [])) (ZBY rfl T.Yn (Ac (Aa 4) (Ac (Aa 6) Af))) (λC s₀ H₀ ex=>(Hc rfl (Dh (Bc 0 (show (["cubes","ahead"]:List Str).Nodup by decide +kernel)) (Dh (Bc 1 (show (["cubes","ahead"]:List Str).Nodup by decide +kernel)) Hb)))) (Ur (Ka (Er (by decide)) (Ka (Er (by decide)) Tv))) (λC s₀ H₀ ex=>Gh) (λC s₀ H₀ ex=>(Ag Bg (Aa 0) (Ak Al (Aa 1) Ae))))) (Ai (O2 T.Az.N T.Az.cl T.V2 (Aa 0) (Jh rfl (Fw (dn:=(Ax Ub).names) (N0:=Zc) (N:= ["ahead"]) (nt:=1) (caps:= [])) (Ft (Aa 6)) (λC s₀ H₀ ex=>(Bc 0 (show (["ahead"]:List Str).Nodup by decide +kernel))) (Er (by decide)) (λC s₀ H₀ ex=>Gh) (λC s₀ H₀ ex=>(Fl (Ag Bg (Cu (Ho (ZER rfl) rfl T.Vx Yj (Ac (Cu (ZMD (Aa 0) (ZKV Ae) ZPd)) Af))) (Cu (Ez (Ac Ae Af)))))))) (Ai (O2 T.Az.N T.Az.cl T.Ot (Aa 0) (Fl (Ag ZAr (Ez (Ac Et Af)) (Cp Ef rfl T.Dz Ec (Ac (Aa 5) Af))))) (Am (O2 T.Az.N T.Az.cl T.V7 (Aa 0) (Fl (Ez Af)))))))))))
theorem ZF9 (T:Txt K mg):MtO P w K mg base 1 "Course" "send" ZDM Vi:=by
 refine Cd T.Nq.F ZLP λcdv A outer s H E hr=> ?_
 exact (Am (Bs (Bm (Dm hr.units) (Aa 2) Ae (nomark _)) (Am (Xf (Fg T.Az.N T.Az.cl T.Rg (Aa 0)) (Aa 1) (Aa 3) U6)) (Am (Xf (Ak Al (Fg T.Az.N T.Az.cl T.V2 (Aa 0)) (Aa 1)) (Ag Hm (Aa 2) Ae) (Aa 3) U6))))
theorem ZJk (T:Txt K mg):FnO P w K mg base 1 "number_of" ZAE T8:=by
 refine Cd T.La.F ZBw λcdv A outer s H E hr=> ?_
 exact (Ai (El PassesOwn.never rfl (Uk rfl T.Tq (Ac (Ak Al (Aa 0) (Cz (v:=(.int 1)) rfl T.J9 ⟨_,rfl⟩ (λ_ _=>rfl))) Af)) (Hc rfl (Dh (Bc 2 ZBw.nd) (Dh (Bc 3 ZBw.nd) Hb))) (Am (Bs (Bm (Dm hr.units) (Ak Al (Aa 3) (Cz (v:=(.int 1)) rfl T.ZCS ⟨_,rfl⟩ (λ_ _=>rfl))) (Aa 1) (nomark _)) (Am (Bj (Aa 2))) Ci))) (Am ZO7))
theorem ZHM (T:Txt K mg):FnO P w K mg base 2 "down_of" ZCl V9:=by
 refine Cd T.Le.F ZEr λcdv A outer s H E hr=> ?_
 exact (Ai (An 2 ZEr.nd (Ak Al (Ak Al (Ak Al (Aa 0) (Cz (v:=(.int 1)) rfl T.J9 ⟨_,rfl⟩ (λ_ _=>rfl))) (Aa 1)) (Cz (v:=(.int 2)) rfl T.ZDJ ⟨_,rfl⟩ (λ_ _=>rfl)))) (Ai (Bs (Bm (Dm hr.units) (Aa 2) (Cz (v:=(.str "sea")) rfl T.ZDW ⟨_,rfl⟩ (λ_ _=>rfl)) (nomark _)) (Am (Bj Et)) Ci) (Am (Bj (Aw (ZJk T) (hr.mono (by decide)) rfl T.La.m T.La.k T.La.b pass0 (Ac (Aa 0) (Ac (Aa 2) Af)))))))
theorem ZE9 (T:Txt K mg):MtO P w K mg base 3 "Course" "send_down" ZCZ Ua:=by
 refine Cd T.Nv.F ZJf λcdv A outer s H E hr=> ?_
 exact (Ai (An 3 ZJf.nd (Aw (ZHM T) (hr.mono (by decide)) rfl T.Le.m T.Le.k T.Le.b pass0 (Ac (Fg T.Az.N T.Az.cl T.K6 (Aa 0)) (Ac (Aa 1) Af)))) (Am (Bs (Bm Pg (Aa 3) Et (nomark _)) (Am (Es (Ra T.Az.N T.Az.cl T.Nq.me (ZF9 T) (hr.mono (by decide)) T.Nq.b pass0 (Aa 0) (Ac (Aa 3) (Ac (Ak Al (Ak Al (Ak Al (Fg T.Az.N T.Az.cl T.K6 (Aa 0)) (Cz (v:=(.int 1)) rfl T.J9 ⟨_,rfl⟩ (λ_ _=>rfl))) (Aa 1)) (Cz (v:=(.int 3)) rfl T.Z4 ⟨_,rfl⟩ (λ_ _=>rfl))) (Ac (Aa 2) Af)))))) Ci)))
theorem ZK4 (T:Txt K mg):FnO P w K mg base 1 "opened" ZAp Wv:=by
 refine Cd T.Qm.F Lx λcdv A outer s H E hr=> ?_
 exact (Ai (An 2 Lx.nd Ae) (Ai (An 3 Lx.nd Ae) (Ai (El PassesOwn.never rfl (Ft (Aa 0)) (Hc rfl (Dh (Bc 4 Lx.nd) (Dh (Bc 5 Lx.nd) (Dh (Bc 6 Lx.nd) Hb)))) (Ai (An 7 Lx.nd (Cp (ZNv rfl) rfl T.ZEq ZIn (Ac Ae (Ac (Cp (Z8 rfl) rfl T.Ux Tw (Ac (Aa 5) (Ac (Ag Hm (Aa 1) (Aa 4)) Af))) Af)))) (Am (Bs (Bm (Dm hr.units) (Aa 6) Fy (nomark _)) (Am (ZFU 2 Lx.nd (Aa 7) U6)) (Am (ZFU 3 Lx.nd (Aa 7) U6)))))) (Am (Bj (Fi (Ac (Aa 2) (Ac (Aa 3) (Ac (Ag Hm (Ag Hm (Aa 1) (Aa 2)) (Aa 3)) Af)))))))))
theorem ZKF (T:Txt K mg):FnO P w K mg base 1 "stairs_at" ZB7 Wc:=by
 refine Cd T.R1.F Ui λcdv A outer s H E hr=> ?_
 exact (Ai (An 2 Ui.nd (Fi Af)) (Ai (El PassesOwn.never rfl (Ft (Aa 0)) (Hc rfl (Dh (Bc 3 Ui.nd) (Dh (Bc 4 Ui.nd) Hb))) (Am (Bs (Bm o_le (Aa 3) (Aa 1) (nomark _)) (Am (An 2 Ui.nd (Aa 4))) Ci))) (Am (Bj (Aa 2)))))
theorem ZQ7 (T:Txt K mg):MtO P w K mg base 4 "Course" "go_basin" ZCb We:=by
 refine Cd T.V6.F Nf λcdv A outer s H E hr=> ?_
 exact (Ai (An 2 Nf.nd (Ak Al (Ak Al (Fg T.Az.N T.Az.cl T.K6 (Aa 0)) (Cz (v:=(.int 1)) rfl T.J9 ⟨_,rfl⟩ (λ_ _=>rfl))) (Aa 1))) (Ai (An 3 Nf.nd (Ak Al (Fg T.Az.N T.Az.cl T.Rg (Aa 0)) (Aa 1))) (Ai (Pz (Aw (ZK4 T) (hr.mono (by decide)) rfl T.Qm.m T.Qm.k T.Qm.b pass0 (Ac (Aw (ZKF T) (hr.mono (by decide)) rfl T.R1.m T.R1.k T.R1.b pass0 (Ac (Ak Al (Aa 2) (Cz (v:=(.int 5)) rfl T.ZBO ⟨_,rfl⟩ (λ_ _=>rfl))) (Ac (Fg T.Az.N T.Az.cl T.Xb (Aa 0)) Af))) (Ac (Ag Bg (Ak Al (Fg T.Az.N T.Az.cl T.Vk (Aa 0)) (Aa 1)) (Aa 3)) Af))) (Hc rfl (Dh (Bc 4 Nf.nd) (Dh (Bc 5 Nf.nd) (Dh (Bc 6 Nf.nd) Hb))))) (Ai (An 7 Nf.nd (Cp (Z8 rfl) rfl T.Ux Tw (Ac (Aa 6) (Ac (Ak Al (Aa 2) (Cz (v:=(.int 4)) rfl T.ZBx ⟨_,rfl⟩ (λ_ _=>rfl))) Af)))) (Ai (An 8 Nf.nd (Ag Hm (Aa 6) (Aa 7))) (Ai (Pz (Fi (Ac (Aa 3) (Ac Ae (Ac (Aa 8) (Ac (Aa 4) (Ac (Aa 5) (Ac (Aa 7) Af))))))) (Vb (Fg T.Az.N T.Az.cl T.Ot (Aa 0)) (Aa 1))) (Ai (Es (Ra T.Az.N T.Az.cl T.Nv.me (ZE9 T) (hr.mono (by decide)) T.Nv.b pass0 (Aa 0) (Ac (Aa 1) (Ac (Ag Bg (Aa 4) (Aa 8)) Af)))) (Am (Bs (Bm Pg (Ak Al (Aa 2) (Cz (v:=(.int 6)) rfl T.T4 ⟨_,rfl⟩ (λ_ _=>rfl))) Et (nomark _)) (Am (Es (Ra T.Az.N T.Az.cl T.Nq.me (ZF9 T) (hr.mono (by decide)) T.Nq.b pass0 (Aa 0) (Ac (Aw (ZJk T) (hr.mono (by decide)) rfl T.La.m T.La.k T.La.b pass0 (Ac (Fg T.Az.N T.Az.cl T.K6 (Aa 0)) (Ac (Ak Al (Ak Al (Aa 2) (Cz (v:=(.int 6)) rfl T.T4 ⟨_,rfl⟩ (λ_ _=>rfl))) (Cz (v:=(.int 0)) rfl T.ZAU ⟨_,rfl⟩ (λ_ _=>rfl))) Af))) (Ac (Ak Al (Ak Al (Aa 2) (Cz (v:=(.int 6)) rfl T.T4 ⟨_,rfl⟩ (λ_ _=>rfl))) (Cz (v:=(.int 1)) rfl T.ZBV ⟨_,rfl⟩ (λ_ _=>rfl))) (Ac (Aa 5) Af)))))) Ci)))))))))
theorem ZCD (T:Txt K mg):FnO P w K mg base 1 "passed" ZB3 N7:=by
 refine Cd T.Je.F W7 λcdv A outer s H E hr=> ?_
 exact (Ai (Og 2 rfl W7.nd (Fw (dn:=(Ax Vs).names) (N0:=ZDf) (N:= ["row","take"]) (nt:=2) (caps:= [])) (ZBY rfl T.Yn (Ac (Aa 0) (Ac (Aa 1) Af))) (λC s₀ H₀ ex=>(Hc rfl (Dh (Bc 0 (show (["row","take"]:List Str).Nodup by decide +kernel)) (Dh (Bc 1 (show (["row","take"]:List Str).Nodup by decide +kernel)) Hb)))) (Ur (Ka (Er (by decide)) (Ka (Er (by decide)) Tv))) (λC s₀ H₀ ex=>Gh) (λC s₀ H₀ ex=>(Ag Hm (Ak Al (Aa 0) (Cz (v:=(.int 1)) rfl T.ZAJ ⟨_,rfl⟩ (λ_ _=>rfl))) (Aa 1)))) (Ai (El PassesOwn.never rfl (Uk rfl T.Tq (Ac (Aa 0) Af)) (Hc rfl (Dh (Bc 4 W7.nd) (Dh (Bc 3 W7.nd) Hb))) (Am (Bs (Bm Pg (Ak Al (Aa 3) (Cz (v:=(.int 0)) rfl T.Qd ⟨_,rfl⟩ (λ_ _=>rfl))) Et (nomark _)) (Am (Xf (Aa 2) (Ak Al (Aa 3) (Cz (v:=(.int 0)) rfl T.Qd ⟨_,rfl⟩ (λ_ _=>rfl))) (Ak Al (Aa 2) (Aa 4)) U6)) Ci))) (Am (Bj (Aa 2)))))
theorem ZII (T:Txt K mg):FnO P w K mg base 3 "down_in_reach" ZBv Uv:=by
 refine Cd T.Kz.F ZCd λcdv A outer s H E hr=> ?_
 exact (Ai (An 2 ZCd.nd (Ak Al (Aa 0) (Cz (v:=(.int 1)) rfl T.J9 ⟨_,rfl⟩ (λ_ _=>rfl)))) (Ai (An 3 ZCd.nd (Aw (ZHM T) (hr.mono (by decide)) rfl T.Le.m T.Le.k T.Le.b pass0 (Ac (Aa 0) (Ac (Aa 1) Af)))) (Ai (Bs (Hi (J8 (Bm Zi (Aa 3) Et (nomark _)) (Kv (Bm M7 (Ak Al (Ak Al (Aa 2) (Aa 1)) (Cz (v:=(.int 3)) rfl T.Z4 ⟨_,rfl⟩ (λ_ _=>rfl))) Ae (nomark _))))) (Am (Bj Et)) Ci) (Ai (Bs (Hi (J8 (Bm (Dm hr.units) (Ak Al (Ak Al (Aa 2) (Aa 1)) (Cz (v:=(.int 0)) rfl T.S9 ⟨_,rfl⟩ (λ_ _=>rfl))) Fy (nomark _)) (Kv (Bm (Dm hr.units) (Ak Al (Ak Al (Aa 2) (Aa 3)) (Cz (v:=(.int 0)) rfl T.S9 ⟨_,rfl⟩ (λ_ _=>rfl))) Fy (nomark _))))) (Am (Bj Et)) Ci) (Am (Bj (Aa 3)))))))
theorem ZPY (T:Txt K mg):FnO P w K mg base 4 "reach_rows" ZCM W8:=by
 refine Cd T.Rx.F Rw λcdv A outer s H E hr=> ?_
 exact (Ai (An 3 Rw.nd (Fl (Ez Af))) (Ai (El PassesOwn.never rfl (Ft (Aa 1)) (Bc 4 Rw.nd) (Ai (An 5 Rw.nd (Ak Al (Ak Al (Aa 0) (Cz (v:=(.int 1)) rfl T.J9 ⟨_,rfl⟩ (λ_ _=>rfl))) (Aa 4))) (Ai (An 6 Rw.nd (Aw (ZII T) (hr.mono (by decide)) rfl T.Kz.m T.Kz.k T.Kz.b pass0 (Ac (Aa 0) (Ac (Aa 4) Af)))) (Ai (An 7 Rw.nd (ZOY (Bm Zi (Aa 6) Et (nomark _)) Et (Hd PySem.F.slot_list_index PySem.F.type_list_index ZMy (Aa 1) (Ac (Aa 6) Af)))) (Am (Bs (Bm (Dm hr.units) (Ak Al (Aa 5) (Cz (v:=(.int 0)) rfl T.S9 ⟨_,rfl⟩ (λ_ _=>rfl))) Fy (nomark _)) (Am (Es (Hd PySem.F.slot_list_append PySem.F.type_list_append Hh (Aa 3) (Ac (Fi (Ac (Aa 7) (Ac (Ak Al (Aa 2) (Aa 4)) (Ac (Ak Al (Aa 5) (Cz (v:=(.int 4)) rfl T.ZCa ⟨_,rfl⟩ (λ_ _=>rfl))) (Ac (Ak Al (Aa 5) (Cz (v:=(.int 5)) rfl T.ZAn ⟨_,rfl⟩ (λ_ _=>rfl))) Af))))) Af)))) (Am (Es (Hd PySem.F.slot_list_append PySem.F.type_list_append Hh (Aa 3) (Ac (Fi (Ac (Aa 7) (Ac (Ak Al (Aa 2) (Aa 4)) (Ac Ae (Ac Ae Af))))) Af)))))))))) (Am (Bj (Aa 3)))))
theorem ZOu (T:Txt K mg):FnO P w K mg base 1 "served" ZBm Ww:=by
 refine Cd T.Ru.F ZFf λcdv A outer s H E hr=> ?_
 exact (Ai (An 1 ZFf.nd (Cu (Cp ZPi rfl T.ZMo ZN9 (Ac (Cu (Jh rfl (Fw (dn:=(Ax Th).names) (N0:=Ze) (N:= ["number","row"]) (nt:=2) (caps:= [])) (Uk rfl T.Tq (Ac (Aa 0) Af)) (λC s₀ H₀ ex=>(Hc rfl (Dh (Bc 0 (show (["number","row"]:List Str).Nodup by decide +kernel)) (Dh (Bc 1 (show (["number","row"]:List Str).Nodup by decide +kernel)) Hb)))) (Ur (Ka (Er (by decide)) (Ka (Er (by decide)) Tv))) (λC s₀ H₀ ex=>Gh) (λC s₀ H₀ ex=>(Fi (Ac (Ak Al (Aa 1) (Cz (v:=(.int 3)) rfl T.ZCU ⟨_,rfl⟩ (λ_ _=>rfl))) (Ac (Aa 0) Af)))))) Af)))) (Am (Bj (Jh rfl (Fw (dn:=(Ax Th).names) (N0:=Ze) (N:= ["rank","number"]) (nt:=2) (caps:= [])) (Ft (Aa 1)) (λC s₀ H₀ ex=>(Hc rfl (Dh (Bc 0 (show (["rank","number"]:List Str).Nodup by decide +kernel)) (Dh (Bc 1 (show (["rank","number"]:List Str).Nodup by decide +kernel)) Hb)))) (Ur (Ka (Er (by decide)) (Ka (Er (by decide)) Tv))) (λC s₀ H₀ ex=>Gh) (λC s₀ H₀ ex=>(Aa 1))))))
theorem ZG5 (T:Txt K mg):FnO P w K mg base 1 "way_down" ZCj Uy:=by
 refine Cd T.Ky.F Wn λcdv A outer s H E hr=> ?_
 exact (Ai (An 2 Wn.nd (Fl (Ez (Ac (Aa 1) Af)))) (Ai (An 3 Wn.nd (Ak Al (Ak Al (Aa 0) (Aa 1)) (Cz (v:=(.int 0)) rfl T.Qd ⟨_,rfl⟩ (λ_ _=>rfl)))) (Ai (ZJr fuel PassesOwn.never (Bm Pg (Aa 3) Et (nomark _)) (Ai (Es (Hd PySem.F.slot_list_append PySem.F.type_list_append Hh (Aa 2) (Ac (Aa 3) Af))) (Am (An 3 Wn.nd (Ak Al (Ak Al (Aa 0) (Aa 3)) (Cz (v:=(.int 0)) rfl T.Qd ⟨_,rfl⟩ (λ_ _=>rfl))))))) (Am (Bj (Aa 2))))))
theorem ZIz (T:Txt K mg):FnO P w K mg base 2 "shares" ZBh Uu:=by
 refine Cd T.Ks.F Pr λcdv A outer s H E hr=> ?_
 exact (Ai (An 1 Pr.nd (Fl (Ag ZAr (Ez (Ac Ae Af)) (Cp Ef rfl T.Dz Ec (Ac (Aa 0) Af))))) (Ai (An 2 Pr.nd (Fl (Aw (ZCD T) (hr.mono (by decide)) rfl T.Je.m T.Je.k T.Je.b pass0 (Ac (Aa 0) (Ac (Aa 1) Af))))) (Ai (El PassesOwn.never rfl (Ft (Cu (Aw (ZOu T) (hr.mono (by decide)) rfl T.Ru.m T.Ru.k T.Ru.b pass0 (Ac (Aa 0) Af)))) (Bc 3 Pr.nd) (Ai (An 4 Pr.nd (Cu (Aw (ZG5 T) (hr.mono (by decide)) rfl T.Ky.m T.Ky.k T.Ky.b pass0 (Ac (Aa 0) (Ac (Aa 3) Af))))) (Ai (An 5 Pr.nd (Cp (Z8 rfl) rfl T.Ux Tw (Ac (Ak Al (Ak Al (Aa 0) (Aa 3)) (Cz (v:=(.int 2)) rfl T.Vu ⟨_,rfl⟩ (λ_ _=>rfl))) (Ac (Cp (ZOf rfl) rfl T.Ux Tw (Ac (Cu (Jh rfl (Fw (dn:=(Ax Xl).names) (N0:=ZAK) (N:= ["below","passing"]) (nt:=1) (caps:= [2])) (Ft (Aa 4)) (λC s₀ H₀ ex=>(Bc 0 (show (["below","passing"]:List Str).Nodup by decide +kernel))) (Er (by decide)) (λC s₀ H₀ ex=>Gh) (λC s₀ H₀ ex=>(Ak Al (Aa 1) (Aa 0))))) Af)) Af)))) (Ai (Pz (Aa 5) (Vb (Aa 1) (Aa 3))) (Am (El PassesOwn.never rfl (Ft (Aa 4)) (Bc 6 Pr.nd) (Am (Xf (Aa 2) (Aa 6) (Aa 5) ZMw)))))))) (Am (Bj (Aa 1))))))
theorem ZMN (T:Txt K mg):MtO P w K mg base 5 "Course" "go_reach" ZDO Wu:=by
 refine Cd T.T5.F Rh λcdv A outer s H E hr=> ?_
 exact (Ai (An 2 Rh.nd (Cu (Aw (ZPY T) (hr.mono (by decide)) rfl T.Rx.m T.Rx.k T.Rx.b pass0 (Ac (Fg T.Az.N T.Az.cl T.K6 (Aa 0)) (Ac (Aa 1) (Ac (Fg T.Az.N T.Az.cl T.Rg (Aa 0)) Af)))))) (Ai (An 3 Rh.nd (Cu (Aw (ZIz T) (hr.mono (by decide)) rfl T.Ks.m T.Ks.k T.Ks.b pass0 (Ac (Aa 2) Af)))) (Ai (El PassesOwn.never rfl (ZRU rfl T.Yn (Ac (Aa 1) (Ac (Aa 3) (Ac (Cu (Aw (ZCD T) (hr.mono (by decide)) rfl T.Je.m T.Je.k T.Je.b pass0 (Ac (Aa 2) (Ac (Aa 3) Af)))) Af)))) (Hc rfl (Dh (Bc 4 Rh.nd) (Dh (Bc 5 Rh.nd) (Dh (Bc 6 Rh.nd) Hb)))) (Ai (Pz (Fi (Ac (Ag Bg (Aa 5) (Aa 6)) (Ac (Aa 5) (Ac Ae (Ac (Aa 6) (Ac Ae (Ac Ae Af))))))) (Vb (Fg T.Az.N T.Az.cl T.Ot (Aa 0)) (Aa 4))) (Am (Bs (Bm (Dm hr.units) (Aa 4) (Ak Al (Aa 1) (U3 Tu Ae)) (nomark _)) (Am (Es (Ra T.Az.N T.Az.cl T.Nv.me (ZE9 T) (hr.mono (by decide)) T.Nv.b pass0 (Aa 0) (Ac (Aa 4) (Ac (Aa 6) Af))))) Ci)))) (Am (Es (Hd PySem.F.slot_list_append PySem.F.type_list_append Hh (Fg T.Az.N T.Az.cl T.V7 (Aa 0)) (Ac (Fl (Fi (Ac (Aa 1) (Ac (Aa 2) Af)))) Af)))))))
theorem ZNi (T:Txt K mg):FnO P w K mg base 4 "lasts_of_reaches" ZCY Y6:=by
 refine Cd T.Qz.F Za λcdv A outer s H E hr=> ?_
 exact (Ai (An 1 Za.nd (Fl (ZKB rfl rfl T.Vx rfl T.Gm (Ac (Cp Ef rfl T.Dz Ec (Ac (Ak Al (Aa 0) (Cz (v:=(.int 1)) rfl T.J9 ⟨_,rfl⟩ (λ_ _=>rfl))) Af)) Af)))) (Ai (El PassesOwn.never rfl (ZFN rfl T.Gm (Ac (Ag Hm (Cp Ef rfl T.Dz Ec (Ac (Ak Al (Aa 0) (Cz (v:=(.int 1)) rfl T.J9 ⟨_,rfl⟩ (λ_ _=>rfl))) Af)) Ae) (Ac (U3 Tu Ae) (Ac (U3 Tu Ae) Af)))) (Bc 2 Za.nd) (Ai (An 3 Za.nd (Aw (ZII T) (hr.mono (by decide)) rfl T.Kz.m T.Kz.k T.Kz.b pass0 (Ac (Aa 0) (Ac (Aa 2) Af)))) (Am (Bs (Bm Pg (Aa 3) Et (nomark _)) (Am (Pz (Ak Al (Aa 1) (Aa 3)) (Vb (Aa 1) (Aa 2)))) Ci)))) (Am (Bj (Aa 1)))))
theorem ZFl (T:Txt K mg):MtO P w K mg base 6 "Course" "go" ZDK Ug:=by
 refine Cd T.O6.F Xo λcdv A outer s H E hr=> ?_
 exact (Ai (An 1 Xo.nd (Cu (Aw (ZNi T) (hr.mono (by decide)) rfl T.Qz.m T.Qz.k T.Qz.b pass0 (Ac (Fg T.Az.N T.Az.cl T.K6 (Aa 0)) Af)))) (Am (El PassesOwn.never rfl (Uk rfl T.Tq (Ac (Aa 1) Af)) (Hc rfl (Dh (Bc 2 Xo.nd) (Dh (Bc 3 Xo.nd) Hb))) (Am (Bs (Bm (Dm hr.units) (Ak Al (Ak Al (Ak Al (Fg T.Az.N T.Az.cl T.K6 (Aa 0)) (Cz (v:=(.int 1)) rfl T.J9 ⟨_,rfl⟩ (λ_ _=>rfl))) (Aa 2)) (Cz (v:=(.int 0)) rfl T.S9 ⟨_,rfl⟩ (λ_ _=>rfl))) Fy (nomark _)) (Am (Es (Ra T.Az.N T.Az.cl T.V6.me (ZQ7 T) (hr.mono (by decide)) T.V6.b pass0 (Aa 0) (Ac (Aa 2) Af)))) (Am (Bs (Bm (Dm hr.units) (Aa 3) (Aa 2) (nomark _)) (Am (Es (Ra T.Az.N T.Az.cl T.T5.me (ZMN T) (hr.mono (by decide)) T.T5.b pass0 (Aa 0) (Ac (Cu (Jh rfl (Fw (dn:=(Ax W2).names) (N0:=ZAz) (N:= ["member","end","number"]) (nt:=2) (caps:= [2])) (Uk rfl T.Tq (Ac (Aa 1) Af)) (λC s₀ H₀ ex=>(Hc rfl (Dh (Bc 0 (show (["member","end","number"]:List Str).Nodup by decide +kernel)) (Dh (Bc 1 (show (["member","end","number"]:List Str).Nodup by decide +kernel)) Hb)))) (Ur (Ka (Er (by decide)) (Ka (Er (by decide)) Tv))) (λC s₀ H₀ ex=>(ZHe (Bm (Dm hr.units) (Aa 1) (Aa 2) (nomark _)))) (λC s₀ H₀ ex=>(Aa 0)))) Af)))) Ci)))))))
theorem ZMY (T:Txt K mg):FnO P w K mg base 2 "dry_place" ZBK Wi:=by
 refine Cd T.R7.F ZQ2 λcdv A outer s H E hr=> ?_
 exact (Ai (Bs (Bm (Dm hr.units) (Ak Al (Aa 2) (Aa 1)) (Ak Al (Ak Al (Aa 0) (Aa 1)) (Cz (v:=(.int 2)) rfl T.Vu ⟨_,rfl⟩ (λ_ _=>rfl))) (nomark _)) (Am (Bj Et)) Ci) (Am (Bj (Ak Al (Cu (Jh rfl (Fw (dn:=(Ax Wm).names) (N0:=ZCo) (N:= ["below","passing"]) (nt:=1) (caps:= [3])) (Ft (Cu (Aw (ZG5 T) (hr.mono (by decide)) rfl T.Ky.m T.Ky.k T.Ky.b pass0 (Ac (Aa 0) (Ac (Aa 1) Af))))) (λC s₀ H₀ ex=>(Bc 0 (show (["below","passing"]:List Str).Nodup by decide +kernel))) (Er (by decide)) (λC s₀ H₀ ex=>(ZHe (Bm (Dm hr.units) (Ak Al (Aa 1) (Aa 0)) Ae (nomark _)))) (λC s₀ H₀ ex=>(Aa 0)))) Ae))))
theorem ZPe (T:Txt K mg):FnO P w K mg base 3 "dry" ZC8 Ue:=by
 refine Cd T.R0.F ZCI λcdv A outer s H E hr=> ?_
 exact (Ai (An 1 ZCI.nd (Cu (Aw (ZIz T) (hr.mono (by decide)) rfl T.Ks.m T.Ks.k T.Ks.b pass0 (Ac (Aa 0) Af)))) (Ai (An 2 ZCI.nd (Cu (Aw (ZCD T) (hr.mono (by decide)) rfl T.Je.m T.Je.k T.Je.b pass0 (Ac (Aa 0) (Ac (Aa 1) Af))))) (Am (Bj (Jh rfl (Fw (dn:=(Ax Zv).names) (N0:=ZDY) (N:= ["number","rows","takes","passing"]) (nt:=1) (caps:= [0,1,2])) (I8 rfl T.Gm (Ac (Cp Ef rfl T.Dz Ec (Ac (Aa 0) Af)) Af)) (λC s₀ H₀ ex=>(Bc 0 (show (["number","rows","takes","passing"]:List Str).Nodup by decide +kernel))) (Er (by decide)) (λC s₀ H₀ ex=>Gh) (λC s₀ H₀ ex=>(Cu (Aw (ZMY T) (hr.mono (by decide)) rfl T.R7.m T.R7.k T.R7.b pass0 (Ac (Aa 1) (Ac (Aa 0) (Ac (Aa 2) (Ac (Aa 3) Af))))))))))))
theorem ZDv (T:Txt K mg):FnO P w K mg base 7 "rights" ZC3 Py:=by
 refine Cd T.Jc.F Pk λcdv A outer s H E hr=> ?_
 exact (Ai (An 4 Pk.nd (ZED T.Az.N T.Az.mK (ZEv T) (hr.mono (by decide)) rfl T.Az.g T.Qs.b pass0 (Ac (Aa 0) (Ac (Aa 1) (Ac (Aa 2) (Ac (Aa 3) Af)))))) (Ai (Es (ZCB T.Az.N T.Az.cl T.O6.me (ZFl T) (hr.mono (by decide)) T.O6.b pass0 (Aa 4))) (Ai (An 5 Pk.nd (Fl (Ag ZAr (Ez (Ac Et Af)) (Cp Ef rfl T.Dz Ec (Ac (Ak Al (Aa 0) (Cz (v:=(.int 1)) rfl T.J9 ⟨_,rfl⟩ (λ_ _=>rfl))) Af))))) (Ai (El PassesOwn.never rfl (Ft (Fg T.Az.N T.Az.cl T.V7 (Aa 4))) (Hc rfl (Dh (Bc 6 Pk.nd) (Dh (Bc 7 Pk.nd) Hb))) (Am (El PassesOwn.never rfl (ZBY rfl T.Yn (Ac (Aa 6) (Ac (Cu (Aw (ZPe T) (hr.mono (by decide)) rfl T.R0.m T.R0.k T.R0.b pass0 (Ac (Aa 7) Af))) Af))) (Hc rfl (Dh (Bc 8 Pk.nd) (Dh (Bc 9 Pk.nd) Hb))) (Am (Bs (Bm Pg (Aa 9) Et (nomark _)) (Am (Pz (Ak Al (Aa 6) (Aa 9)) (Vb (Aa 5) (Aa 8)))) Ci))))) (Am (Bj (Aa 5)))))))
theorem ZN4 (T:Txt K mg):MtO P w K mg base 1 "Course" "state_behind" ZBH Yb:=by
 refine Cd T.Ul.F ZPJ λcdv A outer s H E hr=> ?_
 exact (Am (Bj (Fi (Ac (Ho Jo rfl T.Ir Im (Ac (Cu (Jh rfl (Fw (dn:=(Ax Up).names) (N0:=Yt) (N:= ["row"]) (nt:=1) (caps:= [])) (Ft (Fg T.Az.N T.Az.cl T.Ot (Aa 0))) (λC s₀ H₀ ex=>(Bc 0 (show (["row"]:List Str).Nodup by decide +kernel))) (Er (by decide)) (λC s₀ H₀ ex=>Gh) (λC s₀ H₀ ex=>(Ak Al (Aa 0) (Cz (v:=(.int 5)) rfl T.ZBG ⟨_,rfl⟩ (λ_ _=>rfl)))))) Af)) (Ac (Ho Jo rfl T.Ir Im (Ac (Cu (Jh rfl (Fw (dn:=(Ax Up).names) (N0:=Yt) (N:= ["ahead"]) (nt:=1) (caps:= [])) (Ft (Fg T.Az.N T.Az.cl T.V2 (Aa 0))) (λC s₀ H₀ ex=>(Bc 0 (show (["ahead"]:List Str).Nodup by decide +kernel))) (Er (by decide)) (λC s₀ H₀ ex=>Gh) (λC s₀ H₀ ex=>(Ho Jo rfl T.Ir Im (Ac (Aa 0) Af))))) Af)) Af)))))
theorem ZQk (T:Txt K mg):FnO P w K mg base 7 "turn" ZBJ Xj:=by
 refine Cd T.Sh.F ZGN λcdv A outer s H E hr=> ?_
 exact (Ai (An 4 ZGN.nd (ZED T.Az.N T.Az.mK (ZEv T) (hr.mono (by decide)) rfl T.Az.g T.Qs.b pass0 (Ac (Aa 0) (Ac (Aa 1) (Ac (Aa 2) (Ac (Aa 3) Af)))))) (Ai (Es (ZCB T.Az.N T.Az.cl T.O6.me (ZFl T) (hr.mono (by decide)) T.O6.b pass0 (Aa 4))) (Am (Bj (Fi (Ac (Ho Jo rfl T.Ir Im (Ac (Fg T.Az.N T.Az.cl T.Ot (Aa 4)) Af)) (Ac (ZCB T.Az.N T.Az.cl T.Ul.me (ZN4 T) (hr.mono (by decide)) T.Ul.b pass0 (Aa 4)) Af)))))))
theorem ZM4 (T:Txt K mg):FnO P w K mg base 8 "law" ZB6 Ol:=by
 refine Cd T.Tc.F Io λcdv A outer s H E hr=> ?_
 exact (Ai (An 1 Io.nd (Aw (ZLs T) (hr.mono (by decide)) rfl T.R8.m T.R8.k T.R8.b pass0 (Ac (Aa 0) Af))) (Ai (An 2 Io.nd (Aw (ZM8 T) (hr.mono (by decide)) rfl T.Rv.m T.Rv.k T.Rv.b pass0 (Ac (Aa 0) (Ac (Aa 1) Af)))) (Ai (An 3 Io.nd (Aw (ZMT T) (hr.mono (by decide)) rfl T.Q6.m T.Q6.k T.Q6.b pass0 (Ac (Aa 0) Af))) (Ai (An 4 Io.nd (Ak Al (Cu (Aw (ZK8 T) (hr.mono (by decide)) rfl T.S6.m T.S6.k T.S6.b pass0 (Ac (Aa 0) (Ac (Aa 1) (Ac Ae Af))))) Ae)) (Ai (An 5 Io.nd (Fl (Aw (ZDv T) (hr.mono (by decide)) rfl T.Jc.m T.Jc.k T.Jc.b pass0 (Ac (Aa 1) (Ac (Aa 2) (Ac (Aa 3) (Ac (Aa 4) Af))))))) (Ai (An 6 Io.nd (Ak Al (Aw (ZQk T) (hr.mono (by decide)) rfl T.Sh.m T.Sh.k T.Sh.b pass0 (Ac (Aa 1) (Ac (Aa 2) (Ac (Aa 3) (Ac (Aa 4) Af))))) Ae)) (Ai (Bs (Bm (Dm hr.units) (Ag Bu (Aw (Fd T) (hr.mono (by decide)) rfl T.Bb.m T.Bb.k T.Bb.b pass0 (Ac (Aa 0) (Ac Ae Af))) Ae) Ae (nomark _)) (Am (An 5 Io.nd (Fl (Aw (ZDv T) (hr.mono (by decide)) rfl T.Jc.m T.Jc.k T.Jc.b pass0 (Ac (Aa 1) (Ac (Aa 2) (Ac (Aa 3) (Ac (Aa 4) Af)))))))) Ci) (Ai (Bs (Hi (J8 (Mz (Gu (Aw (ZQD T) (hr.mono (by decide)) rfl T.Su.m T.Su.k T.Su.b pass0 (Ac (Aa 6) (Ac (Cp Ef rfl T.Dz Ec (Ac (Aa 4) Af)) Af))))) (J8 (Mz (Gu (Cp Oz rfl T.Ov Pb (Ac (Aa 5) (Ac (Od rfl T.Vx Yj) Af))))) (Kv (Bm (R9 hr.units) (Cp Ef rfl T.Dz Ec (Ac (Aa 5) Af)) (Cp Ef rfl T.Dz Ec (Ac (Aa 4) Af)) (nomark _)))))) (Am (Bj Nj)) Ci) (Ai (El PassesOwn.never rfl (I8 rfl T.Gm (Ac (Cp Ef rfl T.Dz Ec (Ac (Aa 4) Af)) Af)) (Bc 7 Io.nd) (Ai (An 8 Io.nd Et) (Ai (Bs (Bm Jr (Ak Al (Ak Al (Aa 6) (Aa 7)) Ae) (Aw (ZL7 T) (hr.mono (by decide)) rfl T.Rn.m T.Rn.k T.Rn.b pass0 (Ac (Ak Al (Ak Al (Aa 1) Ae) (Aa 7)) Af)) (nomark _)) (Ai (An 8 Io.nd (Aa 7)) (Ai (ZJr fuel PassesOwn.never (Hi (Pu (Bm Pg (Aa 8) Et (nomark _)) (Ss (Mz (Gu (Aw (ZKD T) (hr.mono (by decide)) rfl T.Qv.m T.Qv.k T.Qv.b pass0 (Ac (Aa 1) (Ac (Aa 6) (Ac (Aa 7) (Ac (Aa 8) Af)))))))))) (Am (An 8 Io.nd (Aw (ZIF T) (hr.mono (by decide)) rfl T.Lf.m T.Lf.k T.Lf.b pass0 (Ac (Aa 1) (Ac (Aa 8) Af)))))) (Am (Bs (Hi (J8 (Bm Zi (Aa 8) Et (nomark _)) (J8 (Mz (Gu (Cp Oz rfl T.Ov Pb (Ac (Ak Al (Aa 5) (Aa 7)) (Ac (Od rfl T.Wk Vz) Af))))) (Kv (Gu (Cp Oz rfl T.Ov Pb (Ac (Ak Al (Aa 5) (Aa 7)) (Ac (Od rfl T.ZFX ZFy) Af)))))))) (Am (Bj Nj)) Ci)))) Ci) (Am (Bs (Bm (R9 hr.units) (Ak Al (Aa 5) (Aa 7)) (Aa 8) (nomark _)) (Am (Bj Nj)) Ci))))) (Ai (An 9 Io.nd (Cu (Ho (ZER rfl) rfl T.Vx Yj (Ac (Aa 5) Af)))) (Ai (Es (Hd PySem.F.slot_list_append PySem.F.type_list_append Hh (Aa 5) (Ac Ae Af))) (Am (Bj (Ig (Dm hr.units) (Cu (Aw (ZDv T) (hr.mono (by decide)) rfl T.Jc.m T.Jc.k T.Jc.b pass0 (Ac (Aa 1) (Ac (Aa 2) (Ac (Aa 3) (Ac (Aa 4) Af)))))) (Aa 9) (nomark _)))))))))))))))
end
noncomputable def asks:List Ask:= [.cl "Course",.fn "_law_off" ZBf,.fn "_law_tape" ZBF,.fn "_law_cell_at" ZBM,.fn "_law_amount" ZB2,.fn "_law_dense" ZD5,.fn "_law_unit" ZDD,.fn "_law_floods" Qc,.fn "_law_pumped" ZB1,.fn "_law_steps" ZAg,.fn "_law_year" ZA4,.fn "_law_rule" Uc,.fn "_law_basin" Yc,.fn "_law_name" ZBt,.fn "_law_house" Vr,.fn "_law_down" ZCg,.fn "_law_next" ZCG,.fn "_law_above" ZD1,.fn "_law_ahead" ZBr,.fn "_law_is_dry" ZBb,.fn "_law_need" ZA3,.fn "_law_number" ZBj,.fn "_law_whole" ZAd,.fn "_law_page" Wy,.fn "_law_state" ZBd,.mt "Course" "__init__" "Course.__init__" Ub,.mt "Course" "send" "Course.send" ZCF,.fn "number_of" ZBA,.fn "down_of" ZCh,.mt "Course" "send_down" "Course.send_down" ZDC,.fn "opened" Zy,.fn "stairs_at" ZBk,.mt "Course" "go_basin" "Course.go_basin" ZBc,.fn "passed" Vs,.fn "down_in_reach" ZCk,.fn "reach_rows" ZA5,.fn "served" Th,.fn "way_down" ZCA,.fn "shares" Xl,.mt "Course" "go_reach" "Course.go_reach" ZDz,.fn "lasts_of_reaches" ZAB,.mt "Course" "go" "Course.go" W2,.fn "dry_place" Wm,.fn "dry" Zv,.fn "rights" ZC0,.mt "Course" "state_behind" "Course.state_behind" Up,.fn "turn" ZD2,.fn "law" Ji,.no "Course" "came",.no "Course" "coming",.no "Course" "house",.no "Course" "levels",.no "Course" "page",.no "Course" "reaches",.no "Course" "year_turn",.z "all",.z "bool",.z "enumerate",.z "int",.z "isinstance",.z "len",.z "list",.z "max",.z "min",.z "range",.z "sorted",.z "tuple",.z "zip",.gi "BRIM" 4,.gi "DELAY" 3,.gi "DOWN" 2,.gi "KIND" 0,.gi "LIES" 5,.gi "NAME" 1,.gi "NEED" 4,.gi "PLACES" 1,.gi "PUMP" 6,.gi "PUMP_DELAY" 1,.gi "PUMP_TO" 0,.gi "RANK" 5,.gi "ROW_DOWN" 0,.gi "ROW_NEED" 2,.gi "ROW_RANK" 3,.gi "ROW_WATER" 1,.gi "RULE" 5,.gs "SEA" "sea",.gi "YEAR" 0]
theorem all_mk {l:PySem.W.OpenLaw} {w:xj} {K:PySem.W.Frag} {h:Heap} {mg:Str->Option xz} {fa:xQ} (X:K.In h) (G:h.Ns xP mg) (hfa:mg "law"=some (.ref fa)) (S:AllSaid K asks):
  ∃fd:xX,(∀(s:xY) (v:xz),BindsTo s fd ⟨[v],[]⟩ [("_law_script",v)])/\∀base:Heap,K.In base->base.Ns xP mg->FnOk l.prog w K mg base CX0 8 fa fd ["_law_script"] (lF K Ol):=by
 obtain ⟨Az,Qn,Lq,Bb,Hu,G9,Ga,S6,Qo,Sd,M3,Rf,Rm,R6,R8,S8,Lf,Q8,Ry,Qv,Rn,Q6,R3,Su,Rv,Qs,Nq,La,Le,Nv,Qm,R1,V6,Je,Kz,Rx,Ru,Ky,Ks,T5,Qz,O6,R7,R0,Jc,Ul,Sh,Tc,Rg,V2,K6,Vk,Ot,V7,Xb,ZRq,ZRr,ZRs,ZRt,ZRu,ZRv,ZRw,ZRx,ZRy,ZRz,ZR0,ZR1,ZR2,ZBx,Z4,ZDJ,S9,ZBG,ZCS,ZCa,J9,T4,ZBV,ZAU,ZAn,Qd,Vu,ZCU,ZAJ,ZBO,ZDW,ZCN,_⟩:=S
 have T:Txt K mg:=⟨Cr X G Qn (λ_ _ _ _ _ _ us hl=>match us,hl with | [_,_],_=>rfl),
  Cr X G Lq (λ_ _ _ _ _ _ us hl=>match us,hl with | [_],_=>rfl),
  Cr X G Bb (λ_ _ _ _ _ _ us hl=>match us,hl with | [_,_],_=>rfl),
  Cr X G Hu (λ_ _ _ _ _ _ us hl=>match us,hl with | [_,_],_=>rfl),
  Cr X G G9 (λ_ _ _ _ _ _ us hl=>match us,hl with | [_],_=>rfl),
  Cr X G Ga (λ_ _ _ _ _ _ us hl=>match us,hl with | [_],_=>rfl),
  Cr X G S6 (λ_ _ _ _ _ _ us hl=>match us,hl with | [_,_,_],_=>rfl),
  Cr X G Qo (λ_ _ _ _ _ _ us hl=>match us,hl with | [_],_=>rfl),
  Cr X G Sd (λ_ _ _ _ _ _ us hl=>match us,hl with | [_,_,_],_=>rfl),
  Cr X G M3 (λ_ _ _ _ _ _ us hl=>match us,hl with | [_],_=>rfl),
  Cr X G Rf (λ_ _ _ _ _ _ us hl=>match us,hl with | [_,_,_,_],_=>rfl),
  Cr X G Rm (λ_ _ _ _ _ _ us hl=>match us,hl with | [_,_,_,_,_],_=>rfl),
  Cr X G R6 (λ_ _ _ _ _ _ us hl=>match us,hl with | [_,_,_],_=>rfl),
  Cr X G R8 (λ_ _ _ _ _ _ us hl=>match us,hl with | [_],_=>rfl),
  Cr X G S8 (λ_ _ _ _ _ _ us hl=>match us,hl with | [_,_],_=>rfl),
  Cr X G Lf (λ_ _ _ _ _ _ us hl=>match us,hl with | [_,_],_=>rfl),
  Cr X G Q8 (λ_ _ _ _ _ _ us hl=>match us,hl with | [_,_],_=>rfl),
  Cr X G Ry (λ_ _ _ _ _ _ us hl=>match us,hl with | [_,_,_],_=>rfl),
  Cr X G Qv (λ_ _ _ _ _ _ us hl=>match us,hl with | [_,_,_,_],_=>rfl),
  Cr X G Rn (λ_ _ _ _ _ _ us hl=>match us,hl with | [_],_=>rfl),
  Cr X G Q6 (λ_ _ _ _ _ _ us hl=>match us,hl with | [_],_=>rfl),
  Cr X G R3 (λ_ _ _ _ _ _ us hl=>match us,hl with | [_],_=>rfl),
  Cr X G Su (λ_ _ _ _ _ _ us hl=>match us,hl with | [_,_],_=>rfl),
  Cr X G Rv (λ_ _ _ _ _ _ us hl=>match us,hl with | [_,_],_=>rfl),
  Oe Qs (λ_ _ _ _ _ _ us hl=>match us,hl with | [_,_,_,_,_],_=>rfl),
  Oe Nq (λ_ _ _ _ _ _ us hl=>match us,hl with | [_,_,_,_],_=>rfl),
  Cr X G La (λ_ _ _ _ _ _ us hl=>match us,hl with | [_,_],_=>rfl),
  Cr X G Le (λ_ _ _ _ _ _ us hl=>match us,hl with | [_,_],_=>rfl),
  Oe Nv (λ_ _ _ _ _ _ us hl=>match us,hl with | [_,_,_],_=>rfl),
  Cr X G Qm (λ_ _ _ _ _ _ us hl=>match us,hl with | [_,_],_=>rfl),
  Cr X G R1 (λ_ _ _ _ _ _ us hl=>match us,hl with | [_,_],_=>rfl),
  Oe V6 (λ_ _ _ _ _ _ us hl=>match us,hl with | [_,_],_=>rfl),
  Cr X G Je (λ_ _ _ _ _ _ us hl=>match us,hl with | [_,_],_=>rfl),
  Cr X G Kz (λ_ _ _ _ _ _ us hl=>match us,hl with | [_,_],_=>rfl),
  Cr X G Rx (λ_ _ _ _ _ _ us hl=>match us,hl with | [_,_,_],_=>rfl),
  Cr X G Ru (λ_ _ _ _ _ _ us hl=>match us,hl with | [_],_=>rfl),
  Cr X G Ky (λ_ _ _ _ _ _ us hl=>match us,hl with | [_,_],_=>rfl),
  Cr X G Ks (λ_ _ _ _ _ _ us hl=>match us,hl with | [_],_=>rfl),
  Oe T5 (λ_ _ _ _ _ _ us hl=>match us,hl with | [_,_],_=>rfl),
  Cr X G Qz (λ_ _ _ _ _ _ us hl=>match us,hl with | [_],_=>rfl),
  Oe O6 (λ_ _ _ _ _ _ us hl=>match us,hl with | [_],_=>rfl),
  Cr X G R7 (λ_ _ _ _ _ _ us hl=>match us,hl with | [_,_,_,_],_=>rfl),
  Cr X G R0 (λ_ _ _ _ _ _ us hl=>match us,hl with | [_],_=>rfl),
  Cr X G Jc (λ_ _ _ _ _ _ us hl=>match us,hl with | [_,_,_,_],_=>rfl),
  Oe Ul (λ_ _ _ _ _ _ us hl=>match us,hl with | [_],_=>rfl),
  Cr X G Sh (λ_ _ _ _ _ _ us hl=>match us,hl with | [_,_,_,_],_=>rfl),
  Cr X G Tc (λ_ _ _ _ _ _ us hl=>match us,hl with | [_],_=>rfl),
  ZPV X G Az Qs,
  Rg,
  V2,
  K6,
  Vk,
  Ot,
  V7,
  Xb,
  PySem.W.mg_none_of X G ZRq,
  PySem.W.mg_none_of X G ZRr,
  PySem.W.mg_none_of X G ZRs,
  PySem.W.mg_none_of X G ZRt,
  PySem.W.mg_none_of X G ZRu,
  PySem.W.mg_none_of X G ZRv,
  PySem.W.mg_none_of X G ZRw,
  PySem.W.mg_none_of X G ZRx,
  PySem.W.mg_none_of X G ZRy,
  PySem.W.mg_none_of X G ZRz,
  PySem.W.mg_none_of X G ZR0,
  PySem.W.mg_none_of X G ZR1,
  PySem.W.mg_none_of X G ZR2,
  PySem.W.mg_of X G ZBx,
  PySem.W.mg_of X G Z4,
  PySem.W.mg_of X G ZDJ,
  PySem.W.mg_of X G S9,
  PySem.W.mg_of X G ZBG,
  PySem.W.mg_of X G ZCS,
  PySem.W.mg_of X G ZCa,
  PySem.W.mg_of X G J9,
  PySem.W.mg_of X G T4,
  PySem.W.mg_of X G ZBV,
  PySem.W.mg_of X G ZAU,
  PySem.W.mg_of X G ZAn,
  PySem.W.mg_of X G Qd,
  PySem.W.mg_of X G Vu,
  PySem.W.mg_of X G ZCU,
  PySem.W.mg_of X G ZAJ,
  PySem.W.mg_of X G ZBO,
  PySem.W.mg_of X G ZDW,
  PySem.W.mg_of X G ZCN⟩
 have eL:mg "law"=some (.ref (Bq K "law")):=PySem.W.mg_of X G Tc.1;obtain rfl:fa=Bq K "law":=by rw [hfa] at eL;cases eL;rfl
 exact ⟨_,λs v=>ZQi (T6 Tc.2),λbase _ _=>ZM4 T⟩
theorem walk {l:PySem.W.OpenLaw} {q:xW} {loose:List Str} {XP:(Str->Option xz)->Heap->Prop} {YP:xj->Heap->Prop} {d:DefRec} {K:xj->PySem.W.Frag} (hn:l.most=some 63) (hdf:d.params.defaults= []) (HH:Holds)
  (hY:∀(w:xj) (h:Heap),YP w h->(K w).In h)
  (F:∀(w:xj) (mg:Str->Option xz) (fa:xQ) (h:Heap),(K w).In h->h.Ns xP mg->mg d.name=some (.ref fa)->
   ∃fd:xX,(∀(s:xY) (u:xz),BindsTo s fd ⟨[u],[]⟩ [("_law_script",u)])/\∀base:Heap,(K w).In base->base.Ns xP mg->FnOk l.prog w (K w) mg base CX0 8 fa fd ["_law_script"] (lF (K w) Ol)):
  PySem.W.WalkO q loose XP YP l.row.toRowW d [] (λf vs=>PySem.call f vs):=
 L2.ZRc (n:=63) (k:=8) (x:="_law_script") (CX:=λ_=>CX0) (sp:=λw=>lF (K w) Ol) hn (by decide) hdf ⟨rfl,by decide,by decide⟩ hY F
  (λw H a ns hl hO hS=>by
   obtain ⟨G,hG⟩:=HH ns hl;refine ⟨⟨K w,0,λ_=>0,H⟩,[],[.fl (ns.map D.int)],rfl,rfl,⟨rfl,λi j h=>absurd h (Nat.not_lt_zero _),λi o h=>by simp at h,λi h=>absurd h (Nat.not_lt_zero _)⟩,Reps.cons ⟨a,ns.map V.int,rfl,?_,Reps.ints ns⟩ Reps.nil,?_⟩
   ·rcases hS with (hS | hS) | hS
    ·rcases hO a with z | ⟨o,xs,z⟩
     ·rw [z] at hS;cases hS
     ·rw [z] at hS;cases hS
    ·exact .inl hS
    ·exact .inr hS
   ·rw [hG];exact λb v _ _ r=>r) λ_ _ _ _ _ z=>z
end Law
set_option maxRecDepth 100000
namespace Law
open PySem PySem.W L2 DL
abbrev rw_:OpenLaw:=PySem.Challenge.rw_sluiceway_k35_rights_of_a_turn
abbrev pw:xW:=OpenLaw.prog PySem.Challenge.rw_sluiceway_k35_rights_of_a_turn
def vw:xW:=view pw (zj 69)
theorem ZMc:∀w os,(ZDa pw w os).map (λs=>(ZDy pw w s.abs,PySem.W.Fast.tw4187177175401517315 vw [] (PySem.W.Fast.tw5923862056798008813 pw.main.body) (XtOf rw_ vw) true s.abs,ZCc asks s.abs.heap))=some (true,openGood vw [],ZDs asks):=λw os=>by kernel_rfl
theorem ZEc:∀w,(openEnds vZ pw w 100000).map (λs=>(openSeen vw [] (xE pw.main.body) (XtOf rw_ vw) true s,ZCc asks s.heap))=some (openGood vw [],ZDs asks):=ZLk (by kernel_rfl) (λs=>rfl) ZMc
theorem well:rw_.wellSaid=true:=ZPA (by kernel_rfl)
theorem hdef:defOf vw rw_.row.name=some (dOf Ji,[]):=by kernel_rfl
theorem hp:rw_.row.prog.theDef rw_.row.name=some ((dOf Ji).params,(dOf Ji).body,(dOf Ji).scope):=by kernel_rfl
theorem hk:kwWritten? (dOf Ji).params.kwonlyargs (dOf Ji).params.kw_defaults=some []:=by kernel_rfl
theorem hok:(chainsOk vw && opensWell rw_.row.prog && (frees rw_.row.toRowW && rw_.row.within.isEmpty))=true:=by kernel_rfl
theorem hdf:(dOf Ji).params.defaults= []:=by kernel_rfl
theorem hbare:rw_.row.prog.bare:=⟨rfl,rfl,rfl,rfl,rfl,by decide +kernel⟩
theorem hw:rw_.row.toRowW.promised:=by w_witness2
theorem walked:WalkO vw [] (XL vw []) (Stays rw_.prog 100000) rw_.row.toRowW (dOf Ji) [] λf vs=>PySem.call f vs:=
 walk (l:=rw_) (K:=λw=>T7 (Lg pw 100000 w)) rfl hdf holds (λw h Y=>Y.in) λw mg fa h KX G hmg=>all_mk KX G (show mg "law"=_ from hmg) (ZHZ (ZOk ZEc w))
end Law
open PySem PySem.W PyProof.Rows DL
theorem PySem.Challenge.cw_sluiceway_k35_rights_of_a_turn_holds : PySem.Challenge.rw_sluiceway_k35_rights_of_a_turn.Holds := by
 refine holds_top (l:=Law.rw_) (q:=Law.vw) (loose:= []) (N:=100000) (see:=ZCc Law.asks) (val:=ZDs Law.asks) (d:=dOf Law.Ji) ?_ ?_ ?_ ?_ ?_ ?_ ?_ ?_ ?_ ?_
 ·exact Law.well
 ·exact Law.ZEc
 ·exact Law.hdef
 ·exact Law.hp
 ·exact Law.hk
 ·rfl
 ·exact Law.hok
 ·exact Law.hbare
 ·exact Law.hw
 ·exact Law.walked
