import PyProof.Rows.All
import Wide.All
import OpenK.AllK
import Wide.FinOn
import Lean
import PyProof.EqAt
import PyProof.EqKinds
import PyProof.TupleCall
import PyProof.NeKinds
import PyProof.IsInstanceH
import PyProof.SumWalkG
import PyProof.ConsumeWalk
import PyProof.IsiNone
import PyProof.WalksMore
import PyProof.PlainList
import PyProof.CompFree
import KE.KIntText
import PySem.Challenge.RW_sluiceway_k43_whole_books
set_option Elab.async false
set_option linter.all false
set_option maxRecDepth 100000
open List renaming getElem?_eq_getElem→zQ,mem_cons_of_mem→zZ,range→zX,mem_cons_self→zV,map_cons→zW,size_toArray→zY,getD_eq_getElem?_getD→zj,mem_cons→zx,getElem?_map→zk,getElem?_eq_none→z0,replicate→zC,getElem?_eq_some_iff→zE,mem_map→zF,length_map→zG,getElem?_append_right→zH,getElem?_range→zL,getElem_mem→zM,drop_eq_getElem_cons→zN,mem_append_right→zO,length_cons→zP,drop_of_length_le→zR,map_map→zS,getElem?_append_left→zT,length_append→qQ,filterMap_map→qZ,map_congr_left→qJ,mem_range→qX,ext_getElem→qK,filterMap_eq_map'→qY,idxOf_lt_length_of_mem→qq,filterMap_cons→qz,all_eq_true→qj,append_assoc→qx,replicate_succ→qw,append_nil→q8,set→q9,getElem_of_mem→qB,pairwise_iff_getElem→qC,nodup_cons→qD,mem_singleton→qE,mem_of_mem_drop→qF,mem_of_mem_take→qG,range'→qH,flatten_cons→qI,nil_append→qN,range_succ_eq_map→qO,getElem?_eq_none_iff→qR,getElem?_set_ne→qU,getElem?_replicate→jZ,map_nil→jJ,all_cons→jX,getElem?_set_self→jV,lookup_cons→jW,map_append→jY,getElem?_set→jq,sum_cons→jz,getLast?_eq_getElem?→jx,getElem?_take_of_lt→jk,lookup→jy,length_take→j0,length_drop→j1,getElem?_cons_succ→j2,getElem_idxOf→j3,length_pos_of_mem→j4,length_singleton→j6,ext_getElem?→j7,length_filter_le→j8,take_append_drop→j9,take_length→jA,mem_filter→jB,mem_append→jC,length_set→jD,sum_append→jE,length_nil→jF,getElem?_cons_zero→jG,length_range→jH,take_of_length_le→jI,length_replicate→jM,set_append_right→jO,zipIdx_cons→jP,getElem_map→jS,mem_append_left→jT,foldl_cons→jU,forIn_cons→xZ,drop_zero→xV
open Nat renaming le_refl→zK,lt_of_lt_of_le→zq,le_trans→zB,ne_of_lt→zD,lt_irrefl→zU,lt_succ_self→qW,lt_succ_of_lt→qL,ne_of_gt→qP,lt_or_ge→jK,le_succ→j5,zero_le→jL,le_add_right→jR,not_lt_zero→xQ
open Int renaming le_refl→qV,emod_nonneg→qA,emod_lt_of_pos→qT
open Option renaming map_eq_some_iff→zI,isSome_iff_exists→jv,map_some→xJ
open Bool renaming false_ne_true→zy,and_eq_true→zA,and_eq_true_iff→jQ,or_eq_true→xX
open Array renaming length_toList→qM,getElem?_toList→qS
open PySem.Heap renaming get?_push_of_some→zJ,lt_size→zw,get?_push_size→z9,size_push→qk,SameBut→qy,get?_update_self→jN
open PySem renaming Addr→xW,Around→xK,Expr→xY,FuncData→xq,NameKind→xz,Program→xj,Scope→xw,Shared→xk,Stmt→xy,Value→x9,World→xA,assignEach→xB,attributeBase→xC,backTo→xD,backToKw→xE,behindInMarks→xF,binaryOp→xG,bootBuiltins→xH,call_isinstance→xI,checkBuiltinCall→xL,codeAny_mono→xM,compareOp→xN,importedModules→xO,isSubtype→xP,isinstance_false_int→xR,isinstance_false_list→xS,isinstance_false_none→xT,isinstance_false_str→xU,isinstance_false_tuple→vQ,keywordEach→vZ,letOwnedTupleGo→vJ,mainGlobals→vX,model→vV,rawInt→vW,sizeLine_eq→vK,sliceBounds→vY,starEach→vq,treeTable→vz,wpAny→vj,wpAny_Call_Name_kw→vx,wpAny_bind→vv,wpAny_callSpecial?_slot→vk,wpAny_call_entry→v4,wpAny_field→v5,wpAny_holding→v6,wpAny_mono→v7,wpAny_newObj_type→v8,wpAny_passesOwn→v9,wpAny_pure→vA,wpAny_setField_rec→vB,wpAny_truthy_bool→vC
open PySem.W renaming Frag→vD,boot_heap→vE,kas_rev→vF
set_option maxHeartbeats 0
noncomputable section
namespace L2
open PySem PySem.Spec PyProof.Rows
variable {us:List x9} {u:x9} {a b C:xW} {P:xj} {w:xA} {h base:Heap} {t' i k:Nat} {ch fp:List xW} {x:Str} {Q:Unit->xk->Prop} {e c tg:xY} {A:xK} {E:x9->xk->Prop} {s:xk} {vG:List (xW×Obj)} {K:PySem.W.Frag} {body:List xy} {f:x9->x9->Sem x9} {op:CmpOp} {kw:List (Str×x9)} {mg:Str->Option x9} {kindOf:Str->Option xz}
abbrev Key:=Sum Int Str
noncomputable def ZHp:Key->x9->Bool
 | .inl k,v=>Value.isInt k v
 | .inr x,v=>Value.isStrOf x v
def keyH (w:xA):Key->Int
 | .inl k=>hashInt k
 | .inr x=>hashStr w x
theorem Lz:∀{k:Key} {v:x9},ZHp k v=true->(∃i t,k=Sum.inl i/\v=Value.int i t)∨(∃x t,k=Sum.inr x/\v=Value.str x t)
 | .inl i,v,h=>by obtain ⟨t,e⟩:=Value.isInt_shape (k:=i) (v:=v) h;exact .inl ⟨i,t,rfl,e⟩
 | .inr x,v,h=>by obtain ⟨t,e⟩:=Value.isStrOf_shape (x:=x) (v:=v) h;exact .inr ⟨x,t,rfl,e⟩
theorem ZOc (a b:Int):decide ((Sum.inl a:Key)=Sum.inl b)=(a == b):=by
 by_cases e:a=b
 ·subst e;simp
 ·have h:¬(Sum.inl a:Key)=Sum.inl b:=λq=>e (Sum.inl.inj q)
  rw [decide_eq_false h];exact (beq_eq_false_iff_ne.mpr e).symm
theorem ZKi (a b:Str):decide ((Sum.inr a:Key)=Sum.inr b)=decide (a=b):=by
 by_cases e:a=b
 ·subst e;simp
 ·have h:¬(Sum.inr a:Key)=Sum.inr b:=λq=>e (Sum.inr.inj q)
  rw [decide_eq_false h,decide_eq_false e]
theorem ZM9 (a:Int) (b:Str):decide ((Sum.inl a:Key)=Sum.inr b)=false:=decide_eq_false (λq=>nomatch q)
theorem ZRG (a:Str) (b:Int):decide ((Sum.inr a:Key)=Sum.inl b)=false:=decide_eq_false (λq=>nomatch q)
noncomputable def ZG7 (prog:xj) (w:xA):PySem.KeyKind prog w Key where
 is:=ZHp
 hash:=keyH w
 inj:=λv a b ha hb=>by
  rcases Lz ha with ⟨i,t,rfl,rfl⟩ | ⟨x,t,rfl,rfl⟩
  ·rcases Lz hb with ⟨j,u,rfl,e⟩ | ⟨y,u,rfl,e⟩
   ·injection e with e1 _;rw [e1]
   ·exact nomatch e
  ·rcases Lz hb with ⟨j,u,rfl,e⟩ | ⟨y,u,rfl,e⟩
   ·exact nomatch e
   ·injection e with e1 _;rw [e1]
 byValue:=λk v h=>by rcases Lz h with ⟨i,t,rfl,rfl⟩ | ⟨x,t,rfl,rfl⟩ <;> rfl
 pyHash:=λhv h=>by
  rcases Lz hv with ⟨i,t,rfl,rfl⟩ | ⟨x,t,rfl,rfl⟩
  ·exact wpAny_pyHash_int h
  ·exact wpAny_pyHash_str h
 eqBool:=λhu hv h=>by
  rcases Lz hu with ⟨i,t,rfl,rfl⟩ | ⟨x,t,rfl,rfl⟩
  ·rcases Lz hv with ⟨j,u,rfl,rfl⟩ | ⟨y,u,rfl,rfl⟩
   ·rw [ZOc] at h;exact wpAny_eqBool_int h
   ·rw [ZM9] at h;exact SeqAt.EqAt.int_str i t y u _ _ _ _ h
  ·rcases Lz hv with ⟨j,u,rfl,rfl⟩ | ⟨y,u,rfl,rfl⟩
   ·rw [ZRG] at h;exact SeqAt.EqAt.str_int x t j u _ _ _ _ h
   ·rw [ZKi] at h;exact wpAny_eqBool_str h
 «strs»:=λk x t v h=>by
  rcases Lz h with ⟨i,u,rfl,e⟩ | ⟨y,u,rfl,e⟩
  ·exact nomatch e
  ·injection e with e1 _
   subst e1
   cases v <;> rfl
inductive V where
 | non | bl (b:Bool) | int (i:Int) | str (x:Str) | byt (b:Array UInt8) | flt (b:UInt64) | ref (a:xW) | ty (n:String)
 deriving DecidableEq
variable {v y:V} {vs:List V}
noncomputable def RelV:V->x9->Prop
 | .non,u=>u=Value.none
 | .bl b,u=>u=Value.bool b
 | .int i,u=>∃t,u=Value.int i t
 | .str x,u=>∃t,u=Value.str x t
 | .byt b,u=>∃t,u=Value.bytes b t
 | .flt b,u=>∃t,u=Value.float b t
 | .ref a,u=>u=Value.ref a
 | .ty n,u=>u=Value.type n
abbrev Vals:List V->List x9->Prop:=Paired RelV
theorem Vals.length {xs:List V} (r:Vals xs us):xs.length=us.length:=Paired.length r
theorem Vals.get:∀{xs:List V} {us:List x9} {i:Nat} {x:V},Vals xs us->xs[i]? =some x->∃u,us[i]? =some u/\RelV x u
 | _,_,_,_,.nil,e=>by simp at e
 | _,_,0,_,.cons r _,e=>by simp at e;subst e;exact ⟨_,rfl,r⟩
 | _,_,i + 1,x,.cons _ t,e=>by obtain ⟨u,h1,h2⟩:=Vals.get (i:=i) (x:=x) t (by simpa using e);exact ⟨u,by simpa using h1,h2⟩
theorem Vals.set {x:V} (r:RelV x u):∀{xs:List V} {us:List x9} (i:Nat),Vals xs us->Vals (xs.set i x) (us.set i u)
 | _,_,_,.nil=>.nil
 | _,_,0,.cons _ t=>.cons r t
 | _,_,i + 1,.cons q t=>.cons q (Vals.set r i t)
theorem Vals.append:∀{xs ys:List V} {us ws:List x9},Vals xs us->Vals ys ws->Vals (xs++ys) (us++ws)
 | _,_,_,_,.nil,s=>s
 | _,_,_,_,.cons r t,s=>.cons r (Vals.append t s)
theorem Vals.take:∀{xs:List V} {us:List x9} (n:Nat),Vals xs us->Vals (xs.take n) (us.take n)
 | _,_,0,_=>.nil
 | _,_,_ + 1,.nil=>.nil
 | _,_,n + 1,.cons r t=>.cons r (Vals.take n t)
theorem Vals.drop:∀{xs:List V} {us:List x9} (n:Nat),Vals xs us->Vals (xs.drop n) (us.drop n)
 | _,_,0,r=>r
 | _,_,_ + 1,.nil=>.nil
 | _,_,n + 1,.cons _ t=>Vals.drop n t
noncomputable def RelO:Option V->Option x9->Prop
 | some v,some u=>RelV v u
 | none,none=>True
 | _,_=>False
noncomputable def KV {κ:Type}:List (κ×V)->List (κ×x9)->Prop:=Paired λ(p:κ×V) (q:κ×x9)=>p.1=q.1/\RelV p.2 q.2
def kV:Key->V
 | .inl i=>.int i
 | .inr x=>.str x
inductive HO where
 | lst (xs:List V)
 | tup (xs:List V)
 | dK (kvs:List (Key×V)) | dT (kvs:List (List Key×V))
 | set (S:Int->Bool) (n:Nat)
 | ins (C dx:xW) (fs:List (Str×V))
 | own (x:xW)
 | xd (fs:List (Str×V))
 | met (f x:xW)
 | rng (lo hi:Int)
 | frz (o:Obj) (u:HO)
 | tbl (ps:Array x9)
 | ext (φ:Heap->Prop)
variable {o:HO}
abbrev Hp:=xW->Option HO
variable {H:Hp}
def upd (H:Hp) (a:xW) (o:HO):Hp:=λb=>if b=a then some o else H b
theorem Gh:upd H a o a=some o:=by unfold upd;rw [if_pos rfl]
theorem Bh (h:b≠a):upd H a o b=H b:=by unfold upd;rw [if_neg h]
theorem Ij (h:H a=some o) (h':H b=none):a≠b:=by intro e;subst e;rw [h] at h';cases h'
section
variable (P:xj) (w:xA)
noncomputable def ObjOk (H:Hp) (h:Heap) (a:xW):HO->Prop
 | .lst xs=>xs.length<=sizeLine/\∃(its:List x9) (n:Nat),Vals xs its/\h.get? a=some {cls:=.type "list",data:=.seq its.toArray n}
 | .tup xs=>xs.length<=sizeLine/\∃its:List x9,Vals xs its/\IsTup h a its.toArray
 | .dK kvs=>kvs.length<=sizeLine/\(a == sysModules)=false/\∃vs,KV kvs vs/\h.DictOf (ZG7 P w) a vs
 | .dT kvs=>kvs.length<=sizeLine/\(a == sysModules)=false/\∃xs:List (List Key×xW×x9),
   Paired (λ(p:List Key×V) (q:List Key×xW×x9)=>p.1=q.1/\H q.2.1=some (.tup (p.1.map kV))/\RelV p.2 q.2.2) kvs xs/\
   ∃o es ep,h.get? a=some o/\o.ExactDict/\o.data=.dict es ep/\es.toList=xs.map (entryOfKey (tupleKind (ZG7 P w)))/\(xs.map (·.1)).Nodup
 | .set S n=>h.SetOf (intKind P w) a S n
 | .ins C dx fs=>H dx=some (.own a)/\fs.length<=1000/\dx≠a/\h.get? a=some (PySem.W.instObj C dx)/\
   ∃mA,h.Ns1 dx mA/\(∀f,RelO (fs.lookup f) (mA f))/\PySem.Within mA (fs.map (·.1))
 | .own _=>∃o,h.get? a=some o
 | .xd fs=>∃mA,h.Ns1 a mA/\∀f,RelO (fs.lookup f) (mA f)
 | .rng lo hi=>∃t u v,h.get? a=some {cls:=.type "range",data:=.fields #[.int lo t,.int hi u,.int 1 v]}
 | .frz o u=>h.get? a=some o/\ObjOk H h a u
 | .tbl ps=>h.get? a=some {cls:=.none,data:=.fields ps}
 | .met f x=>h.get? a=some (PySem.W.methodObj (.ref f) (.ref x))
 | .ext φ=>φ h/\(∃o,h.get? a=some o)/\∀h1 h2:Heap,φ h1->(∀o,h1.get? a=some o->h2.get? a=some o)->φ h2
def HOk (H:Hp) (h:Heap):Prop:=∀a o,H a=some o->ObjOk P w H h a o
end
section
variable {P:xj} {w:xA} {H H':Hp} {h h':Heap} {a:xW} {o:HO}
theorem ObjOk.lt (x:ObjOk P w H h a o):a < h.objs.size:=by
 cases o with
 | lst xs=>obtain ⟨_,_,_,_,e⟩:=x;exact zw e
 | tup xs=>obtain ⟨_,_,_,p⟩:=x;exact p.lt
 | dK kvs=>obtain ⟨_,_,_,_,o,_,_,e,_⟩:=x;exact zw e
 | dT kvs=>obtain ⟨_,_,_,_,o,_,_,e,_⟩:=x;exact zw e
 | set S n=>obtain ⟨o,_,_,_,e,_⟩:=x;exact zw e
 | ins C dx fs=>obtain ⟨_,_,_,e,_⟩:=x;exact zw e
 | own y=>obtain ⟨_,e⟩:=x;exact zw e
 | xd fs=>obtain ⟨_,⟨_,_,_,e,_⟩,_⟩:=x;exact zw e
 | rng lo hi=>obtain ⟨_,_,_,e⟩:=x;exact zw e
 | frz ob u=>obtain ⟨e,_⟩:=x;exact zw e
 | tbl ps=>exact zw (show h.get? a=some _ from x)
 | met f y=>exact zw (show h.get? a=some _ from x)
 | ext φ=>obtain ⟨_,⟨_,e⟩,_⟩:=x;exact zw e
theorem Paired.mapP {α β:Type} {F G:α->β->Prop}:∀{l₁:List α} {l₂:List β},Paired F l₁ l₂->(∀a b,F a b->G a b)->Paired G l₁ l₂
 | _,_,.nil,_=>.nil
 | _,_,.cons r t,f=>.cons (f _ _ r) (Paired.mapP t f)
theorem ObjOk.stay (x:ObjOk P w H h a o) (k:∀b u,(b=a∨H b=some (.own a))->h.get? b=some u->h'.get? b=some u)
  (ho:∀b,H b=some (.own a)->H' b=some (.own a)) (ht:∀b xs,H b=some (.tup xs)->H' b=some (.tup xs)):ObjOk P w H' h' a o:=by
 induction o with
 | lst xs=>obtain ⟨z,its,n,r,e⟩:=x;exact ⟨z,its,n,r,k _ _ (.inl rfl) e⟩
 | tup xs=>obtain ⟨z,its,r,ob,e,c⟩:=x;exact ⟨z,its,r,ob,k _ _ (.inl rfl) e,c⟩
 | dK kvs=>obtain ⟨z,y,vs,r,ob,es,ep,e,c⟩:=x;exact ⟨z,y,vs,r,ob,es,ep,k _ _ (.inl rfl) e,c⟩
 | dT kvs=>
  obtain ⟨z,y,xs,r,ob,es,ep,e,c⟩:=x;exact ⟨z,y,xs,Paired.mapP r λp q z=>⟨z.1,ht _ _ z.2.1,z.2.2⟩,ob,es,ep,k _ _ (.inl rfl) e,c⟩
 | set S n=>obtain ⟨ob,es,ep,t,e,c⟩:=x;exact ⟨ob,es,ep,t,k _ _ (.inl rfl) e,c⟩
 | ins C dx fs=>
  obtain ⟨d,z,ne,e,mA,⟨od,es,ep,e2,c⟩,r⟩:=x;exact ⟨ho _ d,z,ne,k _ _ (.inl rfl) e,mA,⟨od,es,ep,k _ _ (.inr d) e2,c⟩,r⟩
 | own y=>obtain ⟨ob,e⟩:=x;exact ⟨ob,k _ _ (.inl rfl) e⟩
 | xd fs=>obtain ⟨mA,⟨od,es,ep,e,c⟩,r⟩:=x;exact ⟨mA,⟨od,es,ep,k _ _ (.inl rfl) e,c⟩,r⟩
 | rng lo hi=>obtain ⟨t,u,v,e⟩:=x;exact ⟨t,u,v,k _ _ (.inl rfl) e⟩
 | frz ob u ih=>obtain ⟨e,q⟩:=x;exact ⟨k _ _ (.inl rfl) e,ih q⟩
 | tbl ps=>
  have e:h.get? a=some {cls:=.none,data:=.fields ps}:=x;show h'.get? a=some {cls:=.none,data:=.fields ps};exact k a _ (.inl rfl) e
 | met f y=>
  have e:h.get? a=some (PySem.W.methodObj (.ref f) (.ref y)):=x;show h'.get? a=some (PySem.W.methodObj (.ref f) (.ref y));exact k a _ (.inl rfl) e
 | ext φ=>obtain ⟨p,⟨o,e⟩,st⟩:=x;exact ⟨st _ _ p λo q=>k _ _ (.inl rfl) q,⟨o,k _ _ (.inl rfl) e⟩,st⟩
theorem HOk.lt (x:HOk P w H h) (e:H a=some o):a < h.objs.size:=(x a o e).lt
theorem HOk.fresh (x:HOk P w H h) (e:h.objs.size<=a):H a=none:=by
 cases q:H a with
 | none=>rfl
 | some u=>exact absurd (zq (x.lt q) e) (zU _)
theorem HOk.kept (x:HOk P w H h) (k:∀b u,h.get? b=some u->h'.get? b=some u):HOk P w H h':=λa o e=>
 (x a o e).stay (λb u _ q=>k b u q) (λ_ q=>q) λ_ _ q=>q
theorem HOk.laid (x:HOk P w H h) (k:∀b u,h.get? b=some u->h'.get? b=some u) (hp:h.objs.size<=a) (new:ObjOk P w (upd H a o) h' a o):HOk P w (upd H a o) h':=λb u e=>by
 have hn:=x.fresh hp;by_cases hb:b=a
 ·subst hb;rw [Gh] at e;cases e;exact new
 ·rw [Bh hb] at e;exact (x b u e).stay (λc v _ q=>k c v q) (λc q=>by rw [Bh (Ij q hn)];exact q) λc xs q=>by rw [Bh (Ij q hn)];exact q
end
def Rd (H:Hp) (a:xW) (u:HO):Prop:=H a=some u∨∃o,H a=some (.frz o u)
theorem Rd.ok {u:HO} (r:Rd H a u) (x:HOk P w H h):ObjOk P w H h a u:=by
 rcases r with r | ⟨o,r⟩
 ·exact x a u r
 ·obtain ⟨_,q⟩:=x a _ r;exact q
noncomputable def Mut:Option HO->Prop
 | some (.lst _)=>True
 | some (.dK _)=>True
 | some (.dT _)=>True
 | some (.set _ _)=>True
 | some (.ins _ _ _)=>True
 | some (.ext _)=>True
 | _=>False
section
variable {P:xj} {w:xA} {H:Hp} {h h':Heap} {x e:xW} {o':HO}
theorem HOk.write (ok:HOk P w H h) (mu:Mut (H x)) (he:e=x∨H e=some (.own x)) (k:∀b u,b≠e->h.get? b=some u->h'.get? b=some u) (heo:∃u,h'.get? e=some u)
  (new:ObjOk P w (upd H x o') h' x o'):HOk P w (upd H x o') h':=λb u q=>by
 have nown:∀c y,H c=some (.own y)->c≠x:=λc y r z=>by subst z;rw [r] at mu;exact mu
 have ntup:∀c xs,H c=some (.tup xs)->c≠x:=λc xs r z=>by subst z;rw [r] at mu;exact mu
 by_cases hb:b=x
 ·subst hb;rw [Gh] at q;cases q;exact new
 ·rw [Bh hb] at q;by_cases hbe:b=e
  ·have q':H b=some (.own x):=by
    rcases he with z | z
    ·exact absurd (hbe.trans z) hb
    ·rw [hbe];exact z
   rw [q] at q';cases q';obtain ⟨v,hv⟩:=heo;exact ⟨v,by rw [hbe];exact hv⟩
  ·refine (ok b u q).stay (λc v hc r=>k c v ?_ r) (λc r=>by rw [Bh (nown c b r)];exact r) λc xs r=>by rw [Bh (ntup c xs r)];exact r
   rcases hc with rfl | hc
   ·exact hbe
   ·rintro rfl;rcases he with z | z
    ·exact nown c b hc z
    ·rw [hc] at z;cases z;exact hb rfl
end
structure Un (fs ex:List xW) (H H':Hp) (h h':Heap):Prop where
 keep:∀b o,h.get? b=some o->H b=none->b ∉ fs->b ∉ ex->h'.get? b=some o
 slot:∀b o,h.get? b=some o->H b=none->b∈fs->b ∉ ex->∃sl,h'.get? b=some {o with slots:=sl}
 free:∀b o,h.get? b=some o->H b=none->b ∉ ex->H' b=none
 there:∀b o,h.get? b=some o->b ∉ ex->∃o',h'.get? b=some o'
 tups:∀b xs,H b=some (.tup xs)->H' b=some (.tup xs)
 frzs:∀b o u,H b=some (.frz o u)->H' b=some (.frz o u)
 tbls:∀b ps,H b=some (.tbl ps)->∃more,H' b=some (.tbl (ps++more))
section
variable {fs fs' ex ex':List xW} {H H1 H2:Hp} {h h1 h2 h':Heap} {a x e:xW} {o:HO}
theorem Un.any (u:Un fs ex H H1 h h1) {ob:Obj} (q:h.get? b=some ob) (n:H b=none) (hx:b ∉ ex):∃sl,h1.get? b=some {ob with slots:=sl}:=by
 by_cases hb:b∈fs
 ·exact u.slot b ob q n hb hx
 ·exact ⟨ob.slots,u.keep b ob q n hb hx⟩
theorem Un.kept (k:∀b u,h.get? b=some u->h'.get? b=some u):Un fs ex H H h h':=
 ⟨λb ob q _ _ _=>k b ob q,λb ob q _ _ _=>⟨ob.slots,k b ob q⟩,λ_ _ _ n _=>n,λb ob q _=>⟨ob,k b ob q⟩,λ_ _ q=>q,λ_ _ _ q=>q,λ_ ps q=>⟨#[],by rw [q];simp⟩⟩
theorem Un.refl:Un fs ex H H h h:=Un.kept λ_ _ q=>q
theorem Un.laid (k:∀b u,h.get? b=some u->h'.get? b=some u) (hp:h.objs.size<=a) (hn:H a=none):Un fs ex H (upd H a o) h h' where
 keep:=λb u q _ _ _=>k b u q
 slot:=λb u q _ _ _=>⟨u.slots,k b u q⟩
 free:=λb u q n _=>by rw [Bh (zD (zq (zw q) hp))];exact n
 there:=λb u q _=>⟨u,k b u q⟩
 tups:=λb xs q=>by rw [Bh (Ij q hn)];exact q
 frzs:=λb u xs q=>by rw [Bh (Ij q hn)];exact q
 tbls:=λb ps q=>⟨#[],by rw [Bh (Ij q hn),q];simp⟩
theorem Un.write (mu:Mut (H x)) (he:e=x∨H e=some (.own x)) (k:∀b u,b≠e->h.get? b=some u->h'.get? b=some u) (heo:∃u,h'.get? e=some u):Un fs ex H (upd H x o) h h':=by
 have hx:∀b,H b=none->b≠x:=λb n z=>by subst z;rw [n] at mu;exact mu
 have hb:∀b,H b=none->b≠e:=λb n z=>by
  subst z;rcases he with r | r
  ·exact hx b n r
  ·rw [n] at r;cases r
 have hm:∀b u,H b=some u->¬Mut (some u)->b≠x:=λb u q nm z=>by subst z;rw [q] at mu;exact nm mu
 refine ⟨λb u q n _ _=>k b u (hb b n) q,λb u q n _ _=>⟨u.slots,k b u (hb b n) q⟩,λb u q n _=>by rw [Bh (hx b n)];exact n,λb u q _=> ?_,
  λb xs q=>by rw [Bh (hm b _ q λz=>z)];exact q,λb u xs q=>by rw [Bh (hm b _ q λz=>z)];exact q,λb ps q=>⟨#[],by rw [Bh (hm b _ q λz=>z),q];simp⟩⟩
 by_cases hbe:b=e
 ·subst hbe;exact heo
 ·exact ⟨u,k b u hbe q⟩
end
noncomputable def trk (h:Heap) (H:Hp):List xW:=(zX h.objs.size).filter λa=>(H a).isSome
def Km (h:Heap) (H:Hp):Heap:=PySem.W.hideAll h (trk h H)
theorem ZNX (h:Heap) (H:Hp):(Km h H).objs.size=h.objs.size:=PySem.W.hideAll_size _ _
theorem ZNe {o:Obj} (e:h.get? b=some o) (n:H b=none):(Km h H).get? b=some o:=
 PySem.W.hideAll_get _ e λhm=>by have q:(H b).isSome=true:=(jB.mp hm).2;rw [n] at q;simp at q
theorem ZNC {o:Obj} (e:(Km h H).get? b=some o):h.get? b=some o/\H b=none:=by
 have e':h.get? b=some o:=PySem.W.of_hideAll (trk h H) e;refine ⟨e',?_⟩;cases q:H b with
 | none=>rfl
 | some x=>
  have hm:b∈trk h H:=jB.mpr ⟨qX.mpr (zw e'),by simp [q]⟩;have z:(Km h H).get? b=none:=PySem.W.hideAll_none (trk h H) hm;rw [z] at e;cases e
noncomputable def ZPT (g h:Heap) (L:xW):List (xW×Obj):=(zX h.objs.size).filterMap λa=>if a=L∨(g.get? a).isSome=true then none else (h.get? a).map λo=>(a,o)
noncomputable def rest (g h:Heap) (L d:xW):List (xW×Obj):=(ZPT g h L).filter λp=>decide (p.1≠d)
structure Mod (K:PySem.W.Frag) (mg:Str->Option x9) (base:Heap):Prop where
 kin:K.In base
 glob:base.Ns vX mg
 blt:∃mb,base.Ns builtinsNs mb/\∀x:Str,x≠"__name__"->mb x=xH x
 nolimit:base.NoLimit
structure Cx where
 prog:xj
 w:xA
 K:PySem.W.Frag
 mg:Str->Option x9
 base:Heap
 A:xK
 N:List Str
 s₀:xk
 H₀:Hp
 env:Env
 outer:List Env
 stack:List Env
 ex:List xW
 fn:Str->Bool
 calm:Bool
 pn:List (xW×Obj)
 xe:x9->xk->Prop
variable {X:Cx}
def frs (l:List Env):List xW:=l.filterMap (·.frame)
abbrev Cx.fs (X:Cx):List xW:=frs X.outer
noncomputable def Vis (sc:xw) (x:Str):Prop:=sc.names.lookup x=some .local∨sc.names.lookup x=some .cell∨sc.names.lookup x=some .free
noncomputable def Loc (sc:xw) (x:Str):Prop:=sc.names.lookup x=some .local∨sc.names.lookup x=some .cell
noncomputable def Look (env:Env) (h:Heap) (m:Str->Option x9) (x:Str) (u:x9):Prop:=
 (env.kindOf x=some .local/\m x=some u)∨((env.kindOf x=some .cell∨env.kindOf x=some .free)/\∃c,env.cells.lookup x=some c/\h.IsCell c (some u))
structure Cx.Ok (X:Cx):Prop where
 mod:Mod X.K X.mg X.base
 kind:X.env.scope.kind=.function
 glob:X.env.globals=vX
 blt:X.env.builtins=builtinsNs
 above:X.s₀.heap.objs.size<=X.env.locals
 inj:∀x y c,X.env.cells.lookup x=some c->X.env.cells.lookup y=some c->x=y
 has:∀x,(X.env.kindOf x=some .cell∨X.env.kindOf x=some .free)->∃c,X.env.cells.lookup x=some c
 cab:∀x c,X.fn x=true->X.env.cells.lookup x=some c->X.s₀.heap.objs.size<=c
 hd:X.calm=true->X.A.handled=none
 frames:X.A.frames=some X.stack
 stk:X.stack=X.outer∨(X.stack=X.env::X.outer/\X.env.frame=some X.env.locals)
 exf:∀b∈X.ex,b≠X.env.locals/\∀x c,X.env.cells.lookup x=some c->c≠b
 bs:∀b o,X.base.get? b=some o->X.s₀.heap.get? b=some o/\X.H₀ b=none
 bsz:X.base.objs.size<=X.s₀.heap.objs.size
 noex:∀b o,X.base.get? b=some o->b ∉ X.ex
 exfs:∀b∈X.ex,b ∉ X.fs
 funs:X.s₀.heap.FunFrames X.base X.outer
 frf:∀b∈X.fs,X.H₀ b=none
structure Inv (X:Cx) (vG:List (xW×Obj)) (σ:List (Option V)) (H:Hp) (s:xk):Prop where
 ok:X.Ok
 os:s.os=X.s₀.os
 bare:AllBare s.gens
 base:Un X.fs X.ex X.H₀ H X.s₀.heap s.heap
 loc:∃m,s.heap.Ns X.env.locals m/\∀(i:Nat) (x:Str) (v:V),X.N[i]? =some x->σ[i]? =some (some v)->Vis X.env.scope x->∃u,RelV v u/\Look X.env s.heap m x u
 cell:∀x c,X.env.cells.lookup x=some c->∃v,s.heap.IsCell c v
 free:H X.env.locals=none
 Jq:∀x c,X.env.cells.lookup x=some c->H c=none
 pin:∀p∈X.pn++vG,s.heap.get? p.1=some p.2/\H p.1=none/\p.1≠X.env.locals/\p.1 ∉ X.fs/\∀v,p.2.data≠ .cell v
 hok:HOk X.prog X.w H s.heap
 len:σ.length=X.N.length
section
variable {X:Cx} {vG:List (xW×Obj)} {σ:List (Option V)} {H H':Hp} {s:xk} {h':Heap}
theorem Cx.Ok.nofr (ok:X.Ok) {o:Obj} (e:X.base.get? b=some o):b ∉ X.fs:=λhb=>by have:=(ok.funs.mem hb).1;rw [e] at this;cases this
theorem Inv.bs (I:Inv X vG σ H s):∀b o,X.base.get? b=some o->s.heap.get? b=some o/\H b=none:=λb o e=>
 ⟨I.base.keep b o (I.ok.bs b o e).1 (I.ok.bs b o e).2 (I.ok.nofr e) (I.ok.noex b o e),I.base.free b o (I.ok.bs b o e).1 (I.ok.bs b o e).2 (I.ok.noex b o e)⟩
theorem Inv.bk (I:Inv X vG σ H s):∀b o,X.base.get? b=some o->s.heap.get? b=some o:=λb o e=>(I.bs b o e).1
theorem Inv.mod (I:Inv X vG σ H s):Mod X.K X.mg X.base:=I.ok.mod
theorem Inv.kIn (I:Inv X vG σ H s):X.K.In s.heap:=I.ok.mod.kin.keeps I.bk
theorem Inv.lt (I:Inv X vG σ H s):X.env.locals < s.heap.objs.size:=let ⟨_,hn,_⟩:=I.loc;hn.lt
theorem Inv.sz (I:Inv X vG σ H s):X.s₀.heap.objs.size<=s.heap.objs.size:=zB I.ok.above (Nat.le_of_lt I.lt)
theorem Inv.nofs (I:Inv X vG σ H s) (h:s.heap.objs.size<=a):a ∉ X.fs:=λhb=>by obtain ⟨_,o,ho,_⟩:=I.ok.funs.mem hb;exact absurd (zq (zw ho) (zB I.sz h)) (zU _)
theorem Inv.cne (I:Inv X vG σ H s):∀x c,X.env.cells.lookup x=some c->c≠X.env.locals:=λx c e z=>by obtain ⟨v,o,ho,hd⟩:=I.cell x c e;obtain ⟨m,⟨o',es,ep,ho',hd',_⟩,_⟩:=I.loc;rw [z,ho'] at ho;cases ho;rw [hd'] at hd;cases hd
theorem Inv.funs (I:Inv X vG σ H s):s.heap.FunFrames X.base X.outer:=by
 have all:∀(l:List Env),(∀b∈frs l,b∈X.fs)->X.s₀.heap.FunFrames X.base l->s.heap.FunFrames X.base l:=by
  intro l
  induction l with
  | nil=>intro _ _;trivial
  | cons env r ih=>
   intro hs hl;obtain ⟨hk,⟨L,o,hf,hn,ho,hd⟩,hr⟩:=hl;have hL:L∈X.fs:=hs L (by unfold frs;rw [qz,hf];exact zV);obtain ⟨sl,e⟩:=I.base.slot L o ho (I.ok.frf L hL) hL λz=>I.ok.exfs L z hL
   exact ⟨hk,⟨L,_,hf,hn,e,hd⟩,ih (λb hb=>hs b (by unfold frs;rw [qz,hf];exact zZ _ hb)) hr⟩
 exact all X.outer (λ_ hb=>hb) I.ok.funs
theorem Inv.stack (I:Inv X vG σ H s):s.heap.FunFrames X.base X.stack:=by
 rcases I.ok.stk with e | ⟨e,hf⟩
 ·rw [e];exact I.funs
 ·rw [e];obtain ⟨m,hn,_⟩:=I.loc;refine .cons (by rw [I.ok.kind];decide) hf hn ?_ I.funs;exact Heap.get?_none_of_le (zB I.ok.bsz I.ok.above)
theorem Inv.Vm (I:Inv X vG σ H s):∀b∈frs X.stack,b∈X.env.locals::X.fs:=λb hb=>by
 rcases I.ok.stk with e | ⟨e,hf⟩
 ·rw [e] at hb;exact zZ _ hb
 ·rw [e] at hb;unfold frs at hb;rw [qz,hf] at hb;exact hb
theorem Inv.ZGs (I:Inv X vG σ H s):∀b∈frs X.stack,H b=none:=λb hb=>by
 rcases zx.mp (I.Vm b hb) with e | hb
 ·rw [e];exact I.free
 ·obtain ⟨_,o,ho,_⟩:=I.ok.funs.mem hb;exact I.base.free b o ho (I.ok.frf b hb) λz=>I.ok.exfs b z hb
theorem Inv.step {g':Array GenState} {d':Drawn} (I:Inv X vG σ H s)
  (hch:∀b∈ch,(b∈X.ex∨X.s₀.heap.objs.size<=b)/\b≠X.env.locals/\(∀x c,X.env.cells.lookup x=some c->c≠b)/\∀p∈X.pn++vG,p.1≠b)
  (keep:∀b o,b≠X.env.locals->b ∉ X.fs->b ∉ ch->s.heap.get? b=some o->H b=none->h'.get? b=some o)
  (slot:∀b o,b≠X.env.locals->b∈X.fs->b ∉ ch->s.heap.get? b=some o->H b=none->∃sl,h'.get? b=some {o with slots:=sl}) (free:∀b o,b ∉ ch->s.heap.get? b=some o->H b=none->H' b=none)
  (there:∀b o,b ∉ ch->s.heap.get? b=some o->∃o',h'.get? b=some o')
  (tups:∀b xs,H b=some (.tup xs)->H' b=some (.tup xs)) (frzs:∀b o u,H b=some (.frz o u)->H' b=some (.frz o u)) (tbls:∀b ps,H b=some (.tbl ps)->∃more,H' b=some (.tbl (ps++more)))
  (ns:∀m,s.heap.Ns X.env.locals m->h'.Ns X.env.locals m) (hok:HOk X.prog X.w H' h') (hg:AllBare g'):
  Inv X vG σ H' {s with heap:=h',gens:=g',drawn:=d',toks:=t'}:=by
 have neL:∀b o,X.s₀.heap.get? b=some o->b≠X.env.locals:=λb o e=>zD (zq (zw e) I.ok.above)
 have neC:∀b o,X.s₀.heap.get? b=some o->b ∉ X.ex->b ∉ ch:=λb o e hx hb=>by
  rcases (hch b hb).1 with z | z
  ·exact hx z
  ·exact absurd (zq (zw e) z) (zU _)
 have cellK:∀x c,X.env.cells.lookup x=some c->∀v,s.heap.IsCell c v->h'.IsCell c v:=λx c e v ⟨o,ho,hd⟩=>by
  have nch:c ∉ ch:=λz=>(hch c z).2.2.1 x c e rfl
  by_cases hc:c∈X.fs
  ·obtain ⟨sl,q⟩:=slot c o (I.cne x c e) hc nch ho (I.Jq x c e);exact ⟨_,q,hd⟩
  ·exact ⟨o,keep c o (I.cne x c e) hc nch ho (I.Jq x c e),hd⟩
 refine ⟨I.ok,I.os,hg,⟨λb o e n hb hx=> ?_,λb o e n hb hx=> ?_,λb o e n hx=> ?_,λb o e hx=> ?_,λb xs e=>tups b xs (I.base.tups b xs e),λb o xs e=>frzs b o xs (I.base.frzs b o xs e),λb ps e=> ?_⟩,?_,λx c e=> ?_,?_,λx c e=> ?_,λp hp=> ?_,hok,I.len⟩
 ·exact keep b o (neL b o e) hb (neC b o e hx) (I.base.keep b o e n hb hx) (I.base.free b o e n hx)
 ·obtain ⟨sl,e1⟩:=I.base.slot b o e n hb hx;obtain ⟨sl',e2⟩:=slot b _ (neL b o e) hb (neC b o e hx) e1 (I.base.free b o e n hx);exact ⟨sl',e2⟩
 ·obtain ⟨o',e1⟩:=I.base.there b o e hx;exact free b o' (neC b o e hx) e1 (I.base.free b o e n hx)
 ·obtain ⟨o',e1⟩:=I.base.there b o e hx;exact there b o' (neC b o e hx) e1
 ·obtain ⟨m1,e1⟩:=I.base.tbls b ps e;obtain ⟨m2,e2⟩:=tbls b _ e1;exact ⟨m1++m2,by rw [e2,Array.append_assoc]⟩
 ·obtain ⟨m,hn,hl⟩:=I.loc;refine ⟨m,ns m hn,λi x v e1 e2 e3=> ?_⟩;obtain ⟨u,r,l⟩:=hl i x v e1 e2 e3;refine ⟨u,r,?_⟩;rcases l with l | ⟨k,c,e,z⟩
  ·exact .inl l
  ·exact .inr ⟨k,c,e,cellK x c e _ z⟩
 ·obtain ⟨v,z⟩:=I.cell x c e;exact ⟨v,cellK x c e v z⟩
 ·obtain ⟨m,⟨o,_,_,ho,_⟩,_⟩:=I.loc;exact free _ o (λz=>(hch _ z).2.1 rfl) ho I.free
 ·obtain ⟨v,o,ho,hd⟩:=I.cell x c e;exact free c o (λz=>(hch c z).2.2.1 x c e rfl) ho (I.Jq x c e)
 ·obtain ⟨e,n,ne,nf,d⟩:=I.pin p hp;have nch:p.1 ∉ ch:=λz=>(hch p.1 z).2.2.2 p hp rfl
  exact ⟨keep p.1 p.2 ne nf nch e n,free p.1 p.2 nch e n,ne,nf,d⟩
theorem Inv.un (I:Inv X vG σ H s) (u:Un X.fs [] H H' s.heap h') (hok:HOk X.prog X.w H' h'):Inv X vG σ H' {s with heap:=h',toks:=t'}:=by
 obtain ⟨m,⟨o,es,ep,ho,r⟩,_⟩:=id I.loc;obtain ⟨sl,hL⟩:=u.any ho I.free (by simp)
 exact I.step (g':=s.gens) (d':=s.drawn) (ch:= []) (λ_ z=>nomatch z) (λb o _ hb _ e n=>u.keep b o e n hb (by simp)) (λb o _ hb _ e n=>u.slot b o e n hb (by simp)) (λb o _ e n=>u.free b o e n (by simp)) (λb o _ e=>u.there b o e (by simp)) u.tups u.frzs u.tbls (λm' hm=>by obtain ⟨o',es',ep',ho',r'⟩:=hm;rw [ho] at ho';cases ho';exact ⟨_,es',ep',hL,r'⟩) hok I.bare
theorem Inv.call {g':Array GenState} {d':Drawn} (I:Inv X vG σ H s) (u:Un (frs X.stack) ch H H' s.heap h') (hok:HOk X.prog X.w H' h') (hg:AllBare g')
  (hch:∀b∈ch,(b∈X.ex∨X.s₀.heap.objs.size<=b)/\b≠X.env.locals/\(∀x c,X.env.cells.lookup x=some c->c≠b)/\∀p∈X.pn++vG,p.1≠b):
  Inv X vG σ H' {s with heap:=h',gens:=g',drawn:=d',toks:=t'}:=by
 obtain ⟨m,⟨o,es,ep,ho,r⟩,_⟩:=id I.loc;obtain ⟨sl,hL⟩:=u.any ho I.free λz=>(hch _ z).2.1 rfl
 exact I.step (ch:=ch) hch (λb o hL hb hc e n=>u.keep b o e n (λz=>(zx.mp (I.Vm b z)).elim hL hb) hc) (λb o _ _ hc e n=>u.any e n hc) (λb o hc e n=>u.free b o e n hc) (λb o hc e=>u.there b o e hc) u.tups u.frzs u.tbls (λm' hm=>by obtain ⟨o',es',ep',ho',r'⟩:=hm;rw [ho] at ho';cases ho';exact ⟨_,es',ep',hL,r'⟩) hok hg
theorem Inv.turned {it:xW} (I:Inv X vG σ H s) (k:∀b o,b≠it->s.heap.get? b=some o->h'.get? b=some o) (hn:H it=none) (hL:it≠X.env.locals)
  (h1:it∈X.ex∨X.s₀.heap.objs.size<=it) (h2:∀x c,X.env.cells.lookup x=some c->c≠it) (h3:∀p∈X.pn++vG,p.1≠it):Inv X vG σ H {s with heap:=h',toks:=t'}:=by
 have nit:∀b u,H b=some u->b≠it:=λb u e z=>by rw [z,hn] at e;cases e
 refine I.step (g':=s.gens) (d':=s.drawn) (ch:= [it]) (λb hb=> ?_) (λb o _ _ hc e _=>k b o (λz=>hc (by simp [z])) e) (λb o _ _ hc e _=>⟨o.slots,k b o (λz=>hc (by simp [z])) e⟩) (λ_ _ _ _ n=>n)
  (λb o hc e=>⟨o,k b o (λz=>hc (by simp [z])) e⟩) (λ_ _ e=>e) (λ_ _ _ e=>e) (λb ps e=>⟨#[],by rw [e];simp⟩) (λm hm=> ?_) (λb u e=> ?_) I.bare
 ·have e:b=it:=by simpa using hb
  subst e;exact ⟨h1,hL,h2,h3⟩
 ·obtain ⟨o,es,ep,ho,r⟩:=hm;exact ⟨o,es,ep,k _ o (Ne.symm hL) ho,r⟩
 ·refine (I.hok b u e).stay (λc v hc q=>k c v ?_ q) (λ_ q=>q) λ_ _ q=>q
  rcases hc with z | z
  ·rw [z];exact nit b u e
  ·exact nit c _ z
theorem Inv.tok (I:Inv X vG σ H s) (t:Nat):Inv X vG σ H {s with toks:=t}:=I.un (h':=s.heap) (t':=t) Un.refl I.hok
theorem Inv.kept (I:Inv X vG σ H s) (k:∀b u,s.heap.get? b=some u->h'.get? b=some u):Inv X vG σ H {s with heap:=h',toks:=t'}:=I.un (Un.kept k) (I.hok.kept k)
theorem Inv.laid (I:Inv X vG σ H s) (k:∀b u,s.heap.get? b=some u->h'.get? b=some u) (hp:s.heap.objs.size<=a) (new:ObjOk X.prog X.w (upd H a o) h' a o):
  Inv X vG σ (upd H a o) {s with heap:=h',toks:=t'}:=I.un (Un.laid k hp (I.hok.fresh hp)) (I.hok.laid k hp new)
theorem Inv.write {x e:xW} (I:Inv X vG σ H s) (mu:Mut (H x)) (he:e=x∨H e=some (.own x)) (k:∀b u,b≠e->s.heap.get? b=some u->h'.get? b=some u) (heo:∃u,h'.get? e=some u)
  (new:ObjOk X.prog X.w (upd H x o) h' x o):Inv X vG σ (upd H x o) {s with heap:=h',toks:=t'}:=I.un (Un.write mu he k heo) (I.hok.write mu he k heo new)
theorem Inv.N5 {pins':List (xW×Obj)} (I:Inv X vG σ H s) (h:∀p∈pins',s.heap.get? p.1=some p.2/\H p.1=none/\p.1≠X.env.locals/\p.1 ∉ X.fs/\∀v,p.2.data≠ .cell v):Inv X pins' σ H s:=
 ⟨I.ok,I.os,I.bare,I.base,I.loc,I.cell,I.free,I.Jq,λp hp=>(jC.mp hp).elim (λz=>I.pin p (jT _ z)) (h p),I.hok,I.len⟩
theorem ZGK {N:List Str} (hN:N.Nodup) {j:Nat} (a:N[i]? =some x) (b:N[j]? =some x):i=j:=by obtain ⟨h1,e1⟩:=zE.mp a;obtain ⟨h2,e2⟩:=zE.mp b;exact (List.getElem_inj hN).mp (e1.trans e2.symm)
theorem ZHa {M:Model} {A:xK} {E:x9->xk->Prop} (I:Inv X vG σ H s) (hN:X.N.Nodup) (hi:X.N[i]? =some x) (hx:Loc X.env.scope x) (r:RelV v u)
  (h:∀s',Inv X vG (σ.set i (some v)) H s'->(∃a,qy a s.heap s'.heap/\(a=X.env.locals∨X.env.cells.lookup x=some a))->Q () s') (hf:X.fn x=true∨X.env.scope.names.lookup x=some .local:=by first | exact .inl rfl | exact .inr rfl | assumption):vj M A (storeName X.env x u) Q E s:=by
 obtain ⟨m,hn,hl⟩:=id I.loc;have hcls:(X.env.scope.kind == .class || (X.env.scope.kind == .module && X.env.locals != X.env.globals))=false:=by rw [I.ok.kind];rfl
 have hiσ:i < σ.length:=by rw [I.len];exact (zE.mp hi).1
 have cne:=I.cne;have tracked:∀{a:xW} {h':Heap},(∃o,s.heap.get? a=some o/\H a=none)->qy a s.heap h'->HOk X.prog X.w H h':=λ{a h'} ha hs b ob e=>by
  obtain ⟨_,_,hfree⟩:=ha;refine (I.hok b ob e).stay (λc w' hc q=>(hs.2 c ?_).trans q) (λ_ q=>q) λ_ _ q=>q
  rintro rfl;rcases hc with rfl | hc
  ·rw [hfree] at e;cases e
  ·rw [hfree] at hc;cases hc
 rcases hx with hk | hk
 ·refine wpAny_storeName_local hk hn (λh' hn' hs=> ?_) hcls;obtain ⟨oL,_,_,hoL,_⟩:=id hn;refine h _ ⟨I.ok,I.os,I.bare,⟨λb o e n hb hx=> ?_,λb o e n hb hx=> ?_,I.base.free,λb o e hx=> ?_,I.base.tups,I.base.frzs,I.base.tbls⟩,⟨_,hn',λj y v' e1 e2 e3=> ?_⟩,λy c e=> ?_,I.free,I.Jq,λp hp=> ?_,tracked ⟨oL,hoL,I.free⟩ hs,by simpa using I.len⟩ ⟨_,hs,.inl rfl⟩
  ·exact (hs.2 b (zD (zq (zw e) I.ok.above))).trans (I.base.keep b o e n hb hx)
  ·obtain ⟨sl,e1⟩:=I.base.slot b o e n hb hx;exact ⟨sl,(hs.2 b (zD (zq (zw e) I.ok.above))).trans e1⟩
  ·obtain ⟨o',e1⟩:=I.base.there b o e hx;exact ⟨o',(hs.2 b (zD (zq (zw e) I.ok.above))).trans e1⟩
  ·by_cases hj:j=i
   ·subst hj;rw [hi] at e1;cases e1;rw [jV hiσ] at e2;cases e2;exact ⟨u,r,.inl ⟨hk,by simp⟩⟩
   ·rw [qU (Ne.symm hj)] at e2;obtain ⟨u',r',q⟩:=hl j y v' e1 e2 e3;refine ⟨u',r',?_⟩;rcases q with ⟨k,e⟩ | ⟨k,c,e,z⟩
    ·refine .inl ⟨k,?_⟩;have:y≠x:=λe=>hj (ZGK hN e1 (e ▸ hi))
     simp [this,e]
    ·exact .inr ⟨k,c,e,z.sameBut hs (cne y c e)⟩
  ·obtain ⟨w',z⟩:=I.cell y c e;exact ⟨w',z.sameBut hs (cne y c e)⟩
  ·obtain ⟨e,n,ne,nf,d⟩:=I.pin p hp;exact ⟨(hs.2 p.1 ne).trans e,n,ne,nf,d⟩
 ·have hfn:X.fn x=true:=by
   rcases hf with z | z
   ·exact z
   ·rw [z] at hk;cases hk
  obtain ⟨c,hc⟩:=I.ok.has x (.inl hk);obtain ⟨w',z⟩:=I.cell x c hc;refine wpAny_storeName_cell I.ok.kind hk hc z (λh' hc' hs=> ?_);obtain ⟨oc,hoc,hocd⟩:=id z;refine h {s with heap:=h'} ⟨I.ok,I.os,I.bare,⟨λb o e n hb hx=> ?_,λb o e n hb hx=> ?_,I.base.free,λb o e hx=> ?_,I.base.tups,I.base.frzs,I.base.tbls⟩,⟨m,hn.sameBut hs (Ne.symm (cne x c hc)),λj y v' e1 e2 e3=> ?_⟩,λy c' e=> ?_,I.free,I.Jq,λp hp=> ?_,tracked ⟨oc,hoc,I.Jq x c hc⟩ hs,by simpa using I.len⟩ ⟨c,hs,.inr hc⟩
  ·exact (hs.2 b (zD (zq (zw e) (I.ok.cab x c hfn hc)))).trans (I.base.keep b o e n hb hx)
  ·obtain ⟨sl,e1⟩:=I.base.slot b o e n hb hx;exact ⟨sl,(hs.2 b (zD (zq (zw e) (I.ok.cab x c hfn hc)))).trans e1⟩
  ·obtain ⟨o',e1⟩:=I.base.there b o e hx;exact ⟨o',(hs.2 b (zD (zq (zw e) (I.ok.cab x c hfn hc)))).trans e1⟩
  ·by_cases hj:j=i
   ·subst hj;rw [hi] at e1;cases e1;rw [jV hiσ] at e2;cases e2;exact ⟨u,r,.inr ⟨.inl hk,c,hc,hc'⟩⟩
   ·rw [qU (Ne.symm hj)] at e2;obtain ⟨u',r',q⟩:=hl j y v' e1 e2 e3;refine ⟨u',r',?_⟩;rcases q with q | ⟨k,c',e,z'⟩
    ·exact .inl q
    ·refine .inr ⟨k,c',e,z'.sameBut hs ?_⟩;rintro rfl;exact hj (ZGK hN e1 (I.ok.inj _ _ _ e hc ▸ hi))
  ·by_cases hcc:c'=c
   ·subst hcc;exact ⟨_,hc'⟩
   ·obtain ⟨w2,z2⟩:=I.cell y c' e;exact ⟨w2,z2.sameBut hs hcc⟩
  ·obtain ⟨e,n,ne,nf,d⟩:=I.pin p hp;refine ⟨(hs.2 p.1 ?_).trans e,n,ne,nf,d⟩;intro q;rw [q,hoc] at e;have q':oc=p.2:=Option.some.inj e;exact d w' (by rw [<-q'];exact hocd)
theorem ZD4 {M:Model} {A:xK} {E:x9->xk->Prop} (I:Inv X vG σ H s) (hN:X.N.Nodup) (hi:X.N[i]? =some x) (hx:Loc X.env.scope x) (r:RelV v u)
  (h:∀s',Inv X vG (σ.set i (some v)) H s'->Q () s') (hf:X.fn x=true∨X.env.scope.names.lookup x=some .local:=by first | exact .inl rfl | exact .inr rfl | assumption):vj M A (storeName X.env x u) Q E s:=
 ZHa I hN hi hx r (λs' I' _=>h s' I') hf
theorem Inv.call' {s':xk} (I:Inv X vG σ H s) (ho:s'.os=s.os) (u:Un (frs X.stack) ch H H' s.heap s'.heap) (hok:HOk X.prog X.w H' s'.heap) (hg:AllBare s'.gens)
  (hch:∀b∈ch,(b∈X.ex∨X.s₀.heap.objs.size<=b)/\b≠X.env.locals/\(∀x c,X.env.cells.lookup x=some c->c≠b)/\∀p∈X.pn++vG,p.1≠b):Inv X vG σ H' s':=by
 obtain ⟨h',g',d',t',o'⟩:=s';have e:o'=s.os:=ho;subst e;exact I.call (g':=g') (t':=t') (d':=d') u hok hg hch
end
abbrev XK:=x9->Option xW->Hp->Prop
abbrev St:=List (Option V)
variable {σ:St}
abbrev VK:=V->Hp->Prop
abbrev TE:=St->Hp->VK->Prop
variable {te:TE}
abbrev TT:=St->Hp->(Bool->Hp->Prop)->Prop
abbrev TA:=St->Hp->(List V->Hp->Prop)->Prop
structure Ends where
 nx:St->Hp->Prop
 rt:VK
 bk:St->Hp->Prop:=λ_ _=>False
 ct:St->Hp->Prop:=λ_ _=>False
abbrev TS:=Ends->St->Hp->Prop
noncomputable def EP (X:Cx) (vG:List (xW×Obj)) (σ:St) (Q:VK) (u:x9) (s':xk):Prop:=∃v H',Inv X vG σ H' s'/\RelV v u/\Q v H'
noncomputable def TP (X:Cx) (vG:List (xW×Obj)) (σ:St) (Q:Bool->Hp->Prop) (b:Bool) (s':xk):Prop:=∃H',Inv X vG σ H' s'/\Q b H'
noncomputable def AP (X:Cx) (vG:List (xW×Obj)) (σ:St) (Q:List V->Hp->Prop) (us:List x9) (s':xk):Prop:=∃vs H',Inv X vG σ H' s'/\Vals vs us/\Q vs H'
noncomputable def SP (X:Cx) (vG:List (xW×Obj)) (D:Ends) (f:Flow) (s':xk):Prop:=
 match f with
 | .next=>∃σ' H',Inv X vG σ' H' s'/\D.nx σ' H'
 | .brk=>∃σ' H',Inv X vG σ' H' s'/\D.bk σ' H'
 | .cont=>∃σ' H',Inv X vG σ' H' s'/\D.ct σ' H'
 | .ret u=>∃v σ' H',Inv X vG σ' H' s'/\RelV v u/\D.rt v H'
noncomputable def PE (X:Cx) (e:xY) (t:TE):Prop:=
 ∀(vG:List (xW×Obj)) (s:xk) (σ:St) (H:Hp) (Q:VK),Inv X vG σ H s->t σ H Q->vj (vV X.prog X.w) X.A (eval e X.env) (EP X vG σ Q) X.xe s
noncomputable def PT (X:Cx) (e:xY) (t:TT):Prop:=
 ∀(vG:List (xW×Obj)) (s:xk) (σ:St) (H:Hp) (Q:Bool->Hp->Prop),Inv X vG σ H s->t σ H Q->vj (vV X.prog X.w) X.A (isTrue e X.env (eval e X.env)) (TP X vG σ Q) X.xe s
noncomputable def PW (X:Cx) (e:xY) (t:TT):Prop:=
 ∀(whole:Sem x9) (vG:List (xW×Obj)) (s:xk) (σ:St) (H:Hp) (Q:Bool->Hp->Prop),Inv X vG σ H s->t σ H Q->vj (vV X.prog X.w) X.A (isTrue e X.env whole) (TP X vG σ Q) X.xe s
theorem PW.pt {t:TT} (h:PW X e t):PT X e t:=h _
noncomputable def PA (X:Cx) (es:List xY) (t:TA):Prop:=
 ∀(pos:Pos) (vG:List (xW×Obj)) (s:xk) (σ:St) (H:Hp) (Q:List V->Hp->Prop),Inv X vG σ H s->t σ H Q->vj (vV X.prog X.w) X.A (spliced (xD pos (vq es X.env))) (AP X vG σ Q) X.xe s
noncomputable def PS (X:Cx) (st:xy) (t:TS):Prop:=
 ∀(vG:List (xW×Obj)) (s:xk) (σ:St) (H:Hp) (D:Ends),Inv X vG σ H s->t D σ H->vj (vV X.prog X.w) X.A (exec st X.env) (SP X vG D) X.xe s
noncomputable def PSs (X:Cx) (st:List xy) (t:TS):Prop:=
 ∀(vG:List (xW×Obj)) (s:xk) (σ:St) (H:Hp) (D:Ends),Inv X vG σ H s->t D σ H->vj (vV X.prog X.w) X.A (execs st X.env) (SP X vG D) X.xe s
theorem thn {α:Type} {t:Sem α} {Q Q':α->xk->Prop} {M:Model} (h:vj M A t Q E s) (hQ:∀a s,Q a s->Q' a s):vj M A t Q' E s:=v7 h hQ λ_ _ x=>x
section
variable {X:Cx}
def tVar (i:Nat):TE:=λσ H Q=>∃v,σ[i]? =some (some v)/\Q v H
def tC (v:V):TE:=λ_ H Q=>Q v H
theorem ZNk {pos:Pos} (hN:X.N[i]? =some x) (hv:Vis X.env.scope x) (hd:(x == ("__debug__":Str))=false:=by decide) (hcd:(x == ("__classdict__":Str))=false:=by decide):PE X (.Name x pos) (tVar i):=by
 intro vG s σ H Q I h;obtain ⟨v,e,h⟩:=h;obtain ⟨m,hn,hl⟩:=I.loc;obtain ⟨u,r,l⟩:=hl i x v hN e hv;have fin:EP X vG σ Q u s:=⟨v,H,I,r,h⟩;rcases l with ⟨hk,hm⟩ | ⟨hk,c,hc,hcell⟩
 ·exact wpAny_Name (wpAny_loadName_local I.ok.kind hk hn hm fin) hd
 ·rcases hk with hk | hk
  ·exact wpAny_Name (wpAny_loadName_cell I.ok.kind hk hc hcell fin) hd
  ·exact wpAny_Name (wpAny_loadName_free I.ok.kind hk hc hcell fin hcd) hd
theorem ZO1 {i j pos}:PE X (.Constant (.int i) j pos) (tC (.int i)):=λ_ _ _ H _ I h=>wpAny_Constant_int ⟨.int i,H,I.tok _,⟨_,rfl⟩,h⟩
theorem ZKD {b j pos}:PE X (.Constant (.bool b) j pos) (tC (.bl b)):=λ_ _ _ H _ I h=>Constant_bool ⟨.bl b,H,I,rfl,h⟩
theorem ZOU {j pos}:PE X (.Constant .none j pos) (tC .non):=λ_ _ _ H _ I h=>Constant_none ⟨.non,H,I,rfl,h⟩
theorem ZNn {x j pos}:PE X (.Constant (.str x) j pos) (tC (.str x)):=λ_ _ _ H _ I h=>Calls.Constant_str ⟨.str x,H,I.tok _,⟨_,rfl⟩,h⟩
def Gl (X:Cx) (x:Str):Prop:=X.env.kindOf x=some .globalImplicit
theorem ZD9 {E:x9->xk->Prop} {pos:Pos} {Q:x9->xk->Prop} (I:Inv X vG σ H s) (hg:Gl X x) (hm:X.mg x=some u) (h:Q u s)
  (hd:(x == ("__debug__":Str))=false:=by decide):vj (vV X.prog X.w) X.A (eval (.Name x pos) X.env) Q E s:=
 Calls.Name_function_global I.ok.kind hg (Calls.loadGlobal_global (by rw [I.ok.glob];exact I.mod.glob.keeps I.bk) hm h) hd
theorem J9 {E:x9->xk->Prop} {pos:Pos} {Q:x9->xk->Prop} (I:Inv X vG σ H s) (hg:Gl X x) (hm:X.mg x=none) (hv:xH x=some u) (h:Q u s)
  (hn:x≠"__name__":=by decide) (hd:(x == ("__debug__":Str))=false:=by decide):vj (vV X.prog X.w) X.A (eval (.Name x pos) X.env) Q E s:=by
 obtain ⟨mb,h1,h2⟩:=I.mod.blt;exact Calls.Name_function_global I.ok.kind hg (Calls.loadGlobal_builtin (by rw [I.ok.glob];exact I.mod.glob.keeps I.bk) hm (by rw [I.ok.blt];exact h1.keeps I.bk) ((h2 x hn).trans hv) h) hd
theorem ZPS {pos:Pos} (hg:Gl X x) (hm:X.mg x=some u) (r:RelV v u) (hd:(x == ("__debug__":Str))=false:=by decide):PE X (.Name x pos) (tC v):=
 λ_ _ _ H _ I h=>ZD9 I hg hm ⟨v,H,I,r,h⟩ hd
theorem ZLc {pos:Pos} (hg:Gl X x) (hm:X.mg x=none) (hv:xH x=some u) (r:RelV v u) (hn:x≠"__name__":=by decide) (hd:(x == ("__debug__":Str))=false:=by decide):PE X (.Name x pos) (tC v):=
 λ_ _ _ H _ I h=>J9 I hg hm hv ⟨v,H,I,r,h⟩ hn hd
variable {a b:xY} {ta tb:TE} {pos:Pos}
def tB (t:TE):TT:=λσ H Q=>t σ H λx H1=>∃c,x=.bl c/\Q c H1
theorem ZRF {t:TE} (h:PE X e t) (he:∀whole,isTrue e X.env whole=(do let v<-whole;standAt e.pos;holding [v] (truthy v)):=by intro _;rfl):PT X e (tB t):=by intro vG s σ H Q I hw;refine isTrue_plain (thn (h vG s σ H _ I hw) λv s1 ⟨x,H1,I1,r1,q1⟩=> ?_) (he _);obtain ⟨d,rfl,q⟩:=q1;cases r1;exact vC ⟨H1,I1,q⟩
variable {tA tB':TT} {rest:List xY}
noncomputable def tAnd (t u:TT):TT:=λσ H Q=>t σ H λc H1=>if c=true then u σ H1 Q else Q false H1
noncomputable def tOr (t u:TT):TT:=λσ H Q=>t σ H λc H1=>if c=true then Q true H1 else u σ H1 Q
def tNot (t:TT):TT:=λσ H Q=>t σ H λc H1=>Q (!c) H1
theorem pw_and1 (ha:PT X a tA):PW X (.BoolOp .And [a] pos) tA:=by
 intro wh vG s σ H Q I h;refine isTrue_and (thn (ha vG s σ H Q I h) λc s1 e=> ?_);cases c with
 | true=>exact isTrue_and_nil e
 | false=>exact e
theorem pw_or1 (ha:PT X a tA):PW X (.BoolOp .Or [a] pos) tA:=by
 intro wh vG s σ H Q I h;refine isTrue_or (thn (ha vG s σ H Q I h) λc s1 e=> ?_);cases c with
 | false=>exact isTrue_or_nil e
 | true=>exact e
theorem pw_and (ha:PT X a tA) (hb:PW X (.BoolOp .And (b::rest) pos) tB'):PW X (.BoolOp .And (a::b::rest) pos) (tAnd tA tB'):=by
 intro wh vG s σ H Q I h;refine isTrue_and (thn (ha vG s σ H _ I h) λc s1 ⟨H1,I1,q1⟩=> ?_);cases c with
 | true=>exact hb wh vG s1 σ H1 Q I1 q1
 | false=>exact ⟨H1,I1,q1⟩
theorem pw_or (ha:PT X a tA) (hb:PW X (.BoolOp .Or (b::rest) pos) tB'):PW X (.BoolOp .Or (a::b::rest) pos) (tOr tA tB'):=by
 intro wh vG s σ H Q I h;refine isTrue_or (thn (ha vG s σ H _ I h) λc s1 ⟨H1,I1,q1⟩=> ?_);cases c with
 | true=>exact ⟨H1,I1,q1⟩
 | false=>exact hb wh vG s1 σ H1 Q I1 q1
theorem ZOu (ha:PT X a tA):PT X (.UnaryOp .Not a pos) (tNot tA):=by intro vG s σ H Q I h;exact isTrue_not (ha vG s σ H (λc H1=>Q (!c) H1) I h)
noncomputable def ZNL (ta tb:TE):TE:=λσ H Q=>ta σ H λx H1=>∃c,x=.bl c/\if c=true then tb σ H1 Q else Q (.bl false) H1
def ZMc (ta:TE):TE:=λσ H Q=>ta σ H λx H1=>∃c,x=.bl c/\Q (.bl (!c)) H1
theorem ZLJ {op} {t:TE} (h:PE X a t):PE X (.BoolOp op [a] pos) t:=λvG s σ H Q I hw=>BoolOp_one (h vG s σ H Q I hw)
theorem ZQL (ha:PE X a ta) (hb:PE X (.BoolOp .And (b::rest) pos) tb):PE X (.BoolOp .And (a::b::rest) pos) (ZNL ta tb):=by
 intro vG s σ H Q I h;refine BoolOp_and (thn (ha vG s σ H _ I h) λv s1 ⟨x,H1,I1,r1,q1⟩=> ?_);obtain ⟨c,rfl,q1⟩:=q1;cases r1;refine vC ?_;cases c with
 | true=>exact hb vG s1 σ H1 Q I1 q1
 | false=>exact ⟨.bl false,H1,I1,rfl,q1⟩
theorem ZNA (ha:PE X a ta):PE X (.UnaryOp .Not a pos) (ZMc ta):=by intro vG s σ H Q I h;refine UnaryOp_ (thn (ha vG s σ H _ I h) λv s1 ⟨x,H1,I1,r1,q1⟩=> ?_);obtain ⟨c,rfl,q1⟩:=q1;cases r1;exact not_of (vC ⟨.bl (!c),H1,I1,rfl,q1⟩)
noncomputable def tIf (t:TT) (ta tb:TE):TE:=λσ H Q=>t σ H λc H1=>if c=true then ta σ H1 Q else tb σ H1 Q
theorem ZLj (hc:PT X c tA) (ha:PE X a ta) (hb:PE X b tb):PE X (.IfExp c a b pos) (tIf tA ta tb):=by
 intro vG s σ H Q I h;refine wpAny_IfExp (thn (hc vG s σ H _ I h) λd s1 ⟨H1,I1,q1⟩=> ?_);cases d with
 | true=>exact ha vG s1 σ H1 Q I1 q1
 | false=>exact hb vG s1 σ H1 Q I1 q1
end
noncomputable def SqL (K:PySem.W.Frag) (H:Hp) (a:xW) (xs:List V):Prop:=
 Rd H a (.lst xs)∨
  ∃(o:Obj) (its:Array x9) (n:Nat),K.lookup a=some o/\o.cls=.type "list"/\o.dict=none/\o.data=.seq its n/\its.size<=sizeLine/\Vals xs its.toList
noncomputable def SqT (K:PySem.W.Frag) (H:Hp) (a:xW) (xs:List V):Prop:=
 Rd H a (.tup xs)∨
  ∃(o:Obj) (its:Array x9) (n:Nat),K.lookup a=some o/\o.cls=.type "tuple"/\o.data=.seq its n/\its.size<=sizeLine/\Vals xs its.toList
noncomputable def absV:x9->Option V
 | .none=>some .non
 | .bool b=>some (.bl b)
 | .int i _=>some (.int i)
 | .str x _=>some (.str x)
 | .bytes b _=>some (.byt b)
 | .float b _=>some (.flt b)
 | .ref a=>some (.ref a)
 | .type n=>some (.ty n)
 | _=>none
theorem RelV.abs {x:V} (r:RelV x u):absV u=some x:=by
 cases x with
 | non=>cases r;rfl
 | bl _=>cases r;rfl
 | int _=>obtain ⟨t,rfl⟩:=r;rfl
 | str _=>obtain ⟨t,rfl⟩:=r;rfl
 | byt _=>obtain ⟨t,rfl⟩:=r;rfl
 | flt _=>obtain ⟨t,rfl⟩:=r;rfl
 | ref _=>cases r;rfl
 | ty _=>cases r;rfl
theorem RelV.inj {x:V} (r:RelV x u) (q:RelV y u):x=y:=Option.some.inj (r.abs.symm.trans q.abs)
theorem Vals.inj:∀{xs ys:List V} {us:List x9},Vals xs us->Vals ys us->xs=ys
 | _,_,_,.nil,.nil=>rfl
 | _,_,_,.cons r t,.cons r' t'=>by rw [r.inj r',Vals.inj t t']
section
variable {X:Cx} {vG:List (xW×Obj)} {σ:St} {H:Hp} {s:xk} {a:xW} {xs ys:List V}
theorem SqL.of (h:H a=some (.lst xs)):SqL K H a xs:=.inl (.inl h)
theorem SqT.of (h:H a=some (.tup xs)):SqT K H a xs:=.inl (.inl h)
theorem Inv.list (I:Inv X vG σ H s) (h:SqL X.K H a xs):∃its:List x9,Vals xs its/\PlainL s.heap a its.toArray/\xs.length<=sizeLine:=by
 rcases h with h | ⟨o,its,n,hk,hc,hd,hs,hz,r⟩
 ·obtain ⟨z,its,n,r,e⟩:=h.ok I.hok;exact ⟨its,r,⟨_,n,e,rfl,rfl,rfl⟩,z⟩
 ·refine ⟨its.toList,r,⟨o,n,I.kIn a o hk,hc,hd,by simpa using hs⟩,?_⟩;have e:=r.length;simp only [qM] at e;lia
theorem Inv.tuple (I:Inv X vG σ H s) (h:SqT X.K H a xs):∃its:List x9,Vals xs its/\IsTup s.heap a its.toArray/\xs.length<=sizeLine:=by
 rcases h with h | ⟨o,its,n,hk,hc,hs,hz,r⟩
 ·obtain ⟨z,its,r,p⟩:=h.ok I.hok;exact ⟨its,r,p,z⟩
 ·refine ⟨its.toList,r,⟨o,I.kIn a o hk,hc,n,by simpa using hs⟩,?_⟩;have e:=r.length;simp only [qM] at e;lia
theorem Inv.ZCg (I:Inv X vG σ H s) (h:SqL X.K H a xs) (h':SqL X.K H a ys):xs=ys:=by
 obtain ⟨its,r,⟨o,n,e,_,_,d⟩,_⟩:=I.list h;obtain ⟨its',r',⟨o',n',e',_,_,d'⟩,_⟩:=I.list h';rw [e] at e';cases e';rw [d] at d';injection d' with d1 _
 have:its=its':=by simpa using congrArg Array.toList d1
 subst this;exact r.inj r'
theorem Inv.ZBS (I:Inv X vG σ H s) (h:SqT X.K H a xs) (h':SqT X.K H a ys):xs=ys:=by
 obtain ⟨its,r,⟨o,e,_,n,d⟩,_⟩:=I.tuple h;obtain ⟨its',r',⟨o',e',_,n',d'⟩,_⟩:=I.tuple h';rw [e] at e';cases e';rw [d] at d';injection d' with d1 _
 have:its=its':=by simpa using congrArg Array.toList d1
 subst this;exact r.inj r'
end
abbrev Cx.wish (X:Cx) (E:x9->xk->Prop):Cx:={X with xe:=E}
abbrev Cx.nox (X:Cx):Cx:=X.wish λ_ _=>False
theorem Cx.Ok.wish (ok:X.Ok) (E:x9->xk->Prop):(X.wish E).Ok:=
 ⟨ok.mod,ok.kind,ok.glob,ok.blt,ok.above,ok.inj,ok.has,ok.cab,ok.hd,ok.frames,ok.stk,ok.exf,ok.bs,ok.bsz,ok.noex,ok.exfs,ok.funs,ok.frf⟩
theorem Cx.Ok.unwish (ok:(X.wish E).Ok):X.Ok:=
 ⟨ok.mod,ok.kind,ok.glob,ok.blt,ok.above,ok.inj,ok.has,ok.cab,ok.hd,ok.frames,ok.stk,ok.exf,ok.bs,ok.bsz,ok.noex,ok.exfs,ok.funs,ok.frf⟩
section
variable {X:Cx} {vG:List (xW×Obj)} {σ:St} {H:Hp} {s:xk} {E:x9->xk->Prop}
theorem Inv.wish (I:Inv X vG σ H s) (E:x9->xk->Prop):Inv (X.wish E) vG σ H s:=⟨I.ok.wish E,I.os,I.bare,I.base,I.loc,I.cell,I.free,I.Jq,I.pin,I.hok,I.len⟩
theorem Inv.unwish (I:Inv (X.wish E) vG σ H s):Inv X vG σ H s:=⟨I.ok.unwish,I.os,I.bare,I.base,I.loc,I.cell,I.free,I.Jq,I.pin,I.hok,I.len⟩
theorem SP.unwish {D:Ends} {f:Flow} {s':xk} (h:SP (X.wish E) vG D f s'):SP X vG D f s':=by
 cases f with
 | next=>obtain ⟨σ',H',I,q⟩:=h;exact ⟨σ',H',I.unwish,q⟩
 | brk=>obtain ⟨σ',H',I,q⟩:=h;exact ⟨σ',H',I.unwish,q⟩
 | cont=>obtain ⟨σ',H',I,q⟩:=h;exact ⟨σ',H',I.unwish,q⟩
 | ret u=>obtain ⟨v,σ',H',I,r,q⟩:=h;exact ⟨v,σ',H',I.unwish,r,q⟩
theorem PSs.nox {st:List xy} {t:TS} (h:PSs X.nox st t):PSs X st t:=λvG s σ H D I hw=>
 v7 (h vG s σ H D (I.wish _) hw) (λ_ _ q=>q.unwish) λ_ _ z=>False.elim z
end
section
variable {X:Cx} {st:xy} {rest:List xy} {t u:TS} {e:xY} {te:TE} {pos:Pos}
def ZPG:TS:=λD σ H=>D.nx σ H
def tSeq (t u:TS):TS:=λD σ H=>t {D with nx:=u D} σ H
theorem ZPD:PSs X [] ZPG:=λ_ _ σ H _ I h=>wpAny_execs_nil ⟨σ,H,I,h⟩
theorem ZOB (h1:PS X st t) (h2:PSs X rest u):PSs X (st::rest) (tSeq t u):=by
 intro vG s σ H D I h;refine wpAny_execs_cons (thn (h1 vG s σ H {D with nx:=u D} I h) λf s1 q=> ?_);cases f with
 | next=>
  obtain ⟨σ',H',I',q⟩:=q;exact h2 vG s1 σ' H' D I' q
 | ret v=>exact q
 | brk=>exact q
 | cont=>exact q
theorem ZRT (h1:PS X st t):PSs X [st] t:=by
 intro vG s σ H D I h;refine wpAny_execs_cons (thn (h1 vG s σ H D I h) λf s1 q=> ?_);cases f with
 | next=>exact wpAny_execs_nil q
 | ret v=>exact q
 | brk=>exact q
 | cont=>exact q
theorem Inv.quiet (I:Inv X vG σ H s):interactive X.env=false:=by simp [interactive,I.ok.kind]
def ZQz (te:TE):TS:=λD σ H=>te σ H λ_ H1=>D.nx σ H1
theorem ZPH (he:PE X e te) (hs:swapsWith e none pos.line X.env=pure false:=by rfl):PS X (.Expr e pos) (ZQz te):=by intro vG s σ H D I h;exact wpAny_Expr_any (thn (he vG s σ H _ I h) λv s1 ⟨x,H1,I1,r1,q1⟩=>⟨σ,H1,I1,q1⟩) I.quiet hs
def tRet (te:TE):TS:=λD σ H=>te σ H D.rt
theorem ZN2 (he:PE X e te):PS X (.Return (some e) pos) (tRet te):=by intro vG s σ H D I h;exact wpAny_Return_some (thn (he vG s σ H _ I h) λv s1 ⟨x,H1,I1,r1,q1⟩=>⟨x,σ,H1,I1,r1,q1⟩)
noncomputable def tIfS (c:TT) (t u:TS):TS:=λD σ H=>c σ H λb H1=>if b=true then t D σ H1 else u D σ H1
theorem ZQV {a b:List xy} {tc:TT} (hc:PT X c tc) (ha:PSs X a t) (hb:PSs X b u):PS X (.If c a b pos) (tIfS tc t u):=by
 intro vG s σ H D I h;refine wpAny_If (thn (hc vG s σ H _ I h) λd s1 ⟨H1,I1,q1⟩=> ?_);cases d with
 | true=>exact ha vG s1 σ H1 D I1 q1
 | false=>exact hb vG s1 σ H1 D I1 q1
end
abbrev TG:=V->St->Hp->(St->Hp->Prop)->Prop
abbrev TGs:=List V->St->Hp->(St->Hp->Prop)->Prop
noncomputable def PG (X:Cx) (target:xY) (t:TG):Prop:=
 ∀(vG:List (xW×Obj)) (s:xk) (σ:St) (H:Hp) (v:V) (u:x9) (Q:St->Hp->Prop),Inv X vG σ H s->RelV v u->t v σ H Q->
  vj (vV X.prog X.w) X.A (assign target X.env u) (λ_ s'=>∃σ' H',Inv X vG σ' H' s'/\Q σ' H') X.xe s
noncomputable def PGs (X:Cx) (ts:List xY) (t:TGs):Prop:=
 ∀(vG:List (xW×Obj)) (s:xk) (σ:St) (H:Hp) (vs:List V) (us:List x9) (Q:St->Hp->Prop),Inv X vG σ H s->Vals vs us->t vs σ H Q->
  vj (vV X.prog X.w) X.A (assignInOrder ((xB ts X.env).map (·.2)) us) (λ_ s'=>∃σ' H',Inv X vG σ' H' s'/\Q σ' H') X.xe s
abbrev TSet:=V->V->V->Hp->(Hp->Prop)->Prop
noncomputable def PSet (X:Cx) (t:TSet):Prop:=
 ∀(vG:List (xW×Obj)) (s:xk) (σ:St) (H:Hp) (o i v:V) (ov iv u:x9) (Q:Hp->Prop),Inv X vG σ H s->RelV o ov->RelV i iv->RelV v u->t o i v H Q->
  vj (vV X.prog X.w) X.A (setItem ov iv u) (λ_ s'=>∃H',Inv X vG σ H' s'/\Q H') X.xe s
abbrev TIp:=V->V->Hp->VK->Prop
noncomputable def PIp (X:Cx) (op:Operator) (t:TIp):Prop:=
 ∀(vG:List (xW×Obj)) (s:xk) (σ:St) (H:Hp) (x y:V) (v u:x9) (Q:VK),Inv X vG σ H s->RelV x v->RelV y u->t x y H Q->
  vj (vV X.prog X.w) X.A (inplaceOp op v u) (EP X vG σ Q) X.xe s
section
variable {X:Cx} {pos:Pos}
def ZHJ (i:Nat):TG:=λv σ H Q=>Q (σ.set i (some v)) H
theorem ZPg (hN:X.N.Nodup) (hi:X.N[i]? =some x) (hx:Loc X.env.scope x) (hf:X.fn x=true∨X.env.scope.names.lookup x=some .local:=by first | exact .inl rfl | exact .inr rfl | assumption):PG X (.Name x pos) (ZHJ i):=by intro vG s σ H v u Q I r h;exact wpAny_assign_Name (ZD4 I hN hi hx r (λs' I'=>⟨_,H,I',h⟩) hf)
def gNil:TGs:=λvs σ H Q=>vs= []/\Q σ H
noncomputable def ZRM (t:TG) (u:TGs):TGs:=λvs σ H Q=>∃v r,vs=v::r/\t v σ H λσ' H'=>u r σ' H' Q
theorem ZQB:PGs X [] gNil:=by intro vG s σ H vs us Q I r h;obtain ⟨e,h⟩:=h;subst e;cases r;exact assignInOrder_nil ⟨σ,H,I,h⟩
theorem ZLr {es:List xY} {t:TG} {u:TGs} (h1:PG X e t) (h2:PGs X es u)
  (hs:(xB (e::es) X.env).map (·.2)=assign e X.env::(xB es X.env).map (·.2):=by rfl):PGs X (e::es) (ZRM t u):=by
 intro vG s σ H vs us Q I r h;obtain ⟨v,vr,e1,h⟩:=h;subst e1;cases r with
 | cons r rr=>
  rw [hs];refine assignInOrder_cons (thn (h1 vG s σ H _ _ _ I r h) λ_ s1 ⟨σ1,H1,I1,q1⟩=> ?_);exact h2 vG s1 σ1 H1 _ _ Q I1 rr q1
noncomputable def gTup (K:PySem.W.Frag) (n:Nat) (t:TGs):TG:=λv σ H Q=>∃a xs,v=.ref a/\SqT K H a xs/\xs.length=n/\t xs σ H Q
theorem ZKN {es:List xY} {k:Nat} {t:TGs} {n:Nat} (hc:X.calm=true) (h:PGs X es t)
  (hn:(xB es X.env).length=n:=by rfl) (hst:(xB es X.env).findIdx? (·.1)=none:=by rfl):PG X (.Tuple es k pos) (gTup X.K n t):=by
 intro vG s σ H v u Q I r hw;obtain ⟨a,xs,e1,hq,hl,hw⟩:=hw;subst e1;cases r;obtain ⟨its,rv,ht,hz⟩:=I.tuple hq;refine assign_Tuple_tuple (I.ok.hd hc) ht (by simp [hn,<-hl,rv.length]) hst λh' hx=> ?_
 have I1:Inv X vG σ H {s with heap:=h'}:=I.kept (t':=s.toks) λb o e=>hx b o (zD (zw e)) e
 exact h vG _ σ H xs _ Q I1 (by simpa using rv) hw
noncomputable def gSub (to ti:TE) (t:TSet):TG:=λv σ H Q=>to σ H λo H1=>ti σ H1 λi H2=>t o i v H2 λH3=>Q σ H3
theorem ZOz {o i:xY} {to ti:TE} {t:TSet} (ho:PE X o to) (hi:PE X i ti) (hs:PSet X t)
  (ha:∀v,assign (.Subscript o i pos) X.env v=(do
   let ov<-holding [v] (eval o X.env);let iv<-holding [v,ov] (eval i X.env)
   standAt pos
   holding [v,ov,iv] (setItem ov iv v)
   release [v,ov,iv] []):=by intro _;rfl):PG X (.Subscript o i pos) (gSub to ti t):=by
 intro vG s σ H v u Q I r h;rw [ha];refine vv (v6 (thn (ho vG s σ H _ I h) λov s1 ⟨x,H1,I1,r1,q1⟩=> ?_));refine vv (v6 (thn (hi vG s1 σ H1 _ I1 q1) λiv s2 ⟨y,H2,I2,r2,q2⟩=> ?_));refine vv (wpAny_standAt (vv (v6 (thn (hs vG s2 σ H2 x y v ov iv u _ I2 r1 r2 r q2) λ_ s3 ⟨H3,I3,q3⟩=> ?_))));exact wpAny_release ⟨σ,H3,I3,q3⟩
def ZCM (te:TE) (g:TG):TS:=λD σ H=>te σ H λx H1=>g x σ H1 D.nx
theorem ZOl {g:TG} (he:PE X e te) (hg:PG X tg g) (hs:swapsWithSole [tg] e pos.line X.env=pure false:=by rfl) (hw:swappedStores [tg] e X.env=pure none:=by rfl)
  (h1:(xB [tg] X.env).map (·.2)= [assign tg X.env]:=by rfl):PS X (.Assign [tg] e pos) (ZCM te g):=by
 intro vG s σ H D I h;refine wpAny_Assign_stores (thn (he vG s σ H _ I h) λv s1 ⟨x,H1,I1,r1,q1⟩=> ?_) hs hw;rw [h1];exact thn (hg vG s1 σ H1 x v _ I1 r1 q1) λ_ s2 q=>q
theorem ZR6 {pos':Pos} (hN:X.N.Nodup) (hi:X.N[i]? =some x) (hx:Loc X.env.scope x) (he:PE X e te) (hs:swapsWith e (some (.Name x pos')) pos.line X.env=pure false:=by rfl) (hf:X.fn x=true∨X.env.scope.names.lookup x=some .local:=by first | exact .inl rfl | exact .inr rfl | assumption):
  PS X (.Assign [.Name x pos'] e pos) (ZCM te (ZHJ i)):=by
 intro vG s σ H D I h;refine wpAny_Assign_Name (thn (he vG s σ H _ I h) λv s1 ⟨y,H1,I1,r1,q1⟩=> ?_) hs;exact ZD4 I1 hN hi hx r1 (λs2 I2=>⟨_,H1,I2,q1⟩) hf
noncomputable def tAug (i:Nat) (te:TE) (ti:TIp):TS:=λD σ H=>∃x,σ[i]? =some (some x)/\te σ H λy H1=>ti x y H1 λz H2=>D.nx (σ.set i (some z)) H2
theorem ZLX {op:Operator} {ti:TIp} {pos':Pos} (hN:X.N.Nodup) (hi:X.N[i]? =some x) (hx:Loc X.env.scope x) (he:PE X e te) (ho:PIp X op ti) (hf:X.fn x=true∨X.env.scope.names.lookup x=some .local:=by first | exact .inl rfl | exact .inr rfl | assumption):
  PS X (.AugAssign (.Name x pos') op e pos) (tAug i te ti):=by
 intro vG s σ H D I h;obtain ⟨v,e1,h⟩:=h;obtain ⟨m,hn,hl⟩:=I.loc;have vis:Vis X.env.scope x:=by rcases hx with k | k;exact .inl k;exact .inr (.inl k)
 obtain ⟨u,r,l⟩:=hl i x v hi e1 vis;refine wpAny_AugAssign_Name ?_
 have go:vj (vV X.prog X.w) X.A (eval e X.env) (λw s₂=>vj (vV X.prog X.w) X.A (inplaceOp op u w) (λr s₃=>vj (vV X.prog X.w) X.A (storeName X.env x r) (λ_=>SP X vG D .next) X.xe s₃) X.xe s₂) X.xe s:=by
  refine thn (he vG s σ H _ I h) λw s1 ⟨y,H1,I1,r1,q1⟩=> ?_
  refine thn (ho vG s1 σ H1 v y u w _ I1 r r1 q1) λz s2 ⟨zv,H2,I2,r2,q2⟩=> ?_
  exact ZD4 I2 hN hi hx r2 (λs3 I3=>⟨_,H2,I3,q2⟩) hf
 rcases l with ⟨hk,hm⟩ | ⟨hk,c,hc,hcell⟩
 ·exact wpAny_loadName_local I.ok.kind hk hn hm go
 ·rcases hk with hk | hk
  ·exact wpAny_loadName_cell I.ok.kind hk hc hcell go
  ·rcases hx with k | k
   ·have:X.env.scope.names.lookup x=some .free:=hk;rw [k] at this;cases this
   ·have:X.env.scope.names.lookup x=some .free:=hk;rw [k] at this;cases this
noncomputable def ipI (f:Int->Int->Int):TIp:=λx y H Q=>∃i j,x=.int i/\y=.int j/\Q (.int (f i j)) H
theorem ZNB:PIp X .Add (ipI λi j=>i + j):=by intro vG s σ H x y v u Q I r1 r2 h;obtain ⟨i,j,e1,e2,q⟩:=h;subst e1;subst e2;obtain ⟨t,rfl⟩:=r1;obtain ⟨t',rfl⟩:=r2;exact iadd_int ⟨.int _,H,I.tok _,⟨_,rfl⟩,q⟩
theorem ZNW:PIp X .Sub (ipI λi j=>i - j):=by intro vG s σ H x y v u Q I r1 r2 h;obtain ⟨i,j,e1,e2,q⟩:=h;subst e1;subst e2;obtain ⟨t,rfl⟩:=r1;obtain ⟨t',rfl⟩:=r2;exact isub_int ⟨.int _,H,I.tok _,⟨_,rfl⟩,q⟩
end
section
variable {X:Cx} {pos:Pos}
noncomputable def ZQb (c:TT) (tb:TS):TS:=λD σ H=>∃W:Nat->St->Hp->Prop,(∃m,W m σ H)/\∀m σ H,W m σ H->
 c σ H λb H1=>if b=true then∃N:St->Hp->Prop,(∀σ' H',N σ' H'->∃m',m' < m/\W m' σ' H')/\tb {D with nx:=N,ct:=N,bk:=D.nx} σ H1 else D.nx σ H1
theorem ZNs {tc:TT} {tb:TS} (hp:PassesOwn (vV X.prog X.w) X.A X.env X.xe) (hc:PT X c tc) (hb:PSs X body tb):PS X (.While c body [] pos) (ZQb tc tb):=by
 intro vG s σ H D I h;obtain ⟨W,⟨m0,w0⟩,turn⟩:=h;refine wpAny_While (codeAny_whileLoop (λn s'=>∃σ' H',Inv X vG σ' H' s'/\W n σ' H') ?_ m0 ⟨σ,H,I,w0⟩);rintro n s1 ⟨σ1,H1,I1,w1⟩;refine v9 hp (thn (hc vG s1 σ1 H1 _ I1 (turn n σ1 H1 w1)) λb s2 ⟨H2,I2,q2⟩=> ?_);cases b with
 | true=>
  obtain ⟨N,hN,q2⟩:=q2;rw [if_pos rfl];refine v9 hp (thn (hb vG s2 σ1 H2 _ I2 q2) λf s3 q3=> ?_);cases f with
  | next=>
   obtain ⟨σ3,H3,I3,n3⟩:=q3;obtain ⟨m',hm,w3⟩:=hN σ3 H3 n3;exact ⟨m',hm,σ3,H3,I3,w3⟩
  | cont=>
   obtain ⟨σ3,H3,I3,n3⟩:=q3;obtain ⟨m',hm,w3⟩:=hN σ3 H3 n3;exact ⟨m',hm,σ3,H3,I3,w3⟩
  | brk=>exact q3
  | ret v=>exact q3
 | false=>
  rw [if_neg zy];exact wpAny_execs_nil ⟨σ1,H2,I2,q2⟩
end
structure It where
 go:Nat->Hp->Prop
 yld:Nat->Hp->V->Hp->Prop
 stop:Nat->Hp->Prop
noncomputable def FpOk (X:Cx) (vG:List (xW×Obj)) (H:Hp) (b:xW):Prop:=
 H b=none/\b≠X.env.locals/\b ∉ X.fs/\(b∈X.ex∨X.s₀.heap.objs.size<=b)/\(∀x c,X.env.cells.lookup x=some c->c≠b)/\∀p∈X.pn++vG,p.1≠b
theorem Inv.K8 {H':Hp} (I:Inv X vG σ H s) (hb:s.heap.objs.size<=b) (hn:H' b=none):FpOk X vG H' b:=by
 refine ⟨hn,qP (zq I.lt hb),I.nofs hb,.inr (zB I.sz hb),λx c e z=> ?_,λp hp z=> ?_⟩
 ·obtain ⟨v,q⟩:=I.cell x c e;exact absurd (zq q.lt (by rw [z];exact hb)) (zU _)
 ·exact absurd (zq (zw (I.pin p hp).1) (by rw [z];exact hb)) (zU _)
structure Turn (P:xj) (w:xA) (K:PySem.W.Frag) (tg:xY) (J:It) (fp:List xW) (it:xW) (tn:Nat->Heap->Prop):Prop where
 mem:it∈fp
 obj:∀i h,tn i h->∀b∈fp,∃o,h.get? b=some o/\∀v,o.data≠ .cell v
 keep:∀i h h',tn i h->(∀b∈fp,∀o,h.get? b=some o->h'.get? b=some o)->tn i h'
 item:∀(X:Cx),X.prog=P->X.w=w->X.K=K->X.calm=true->∀(i:Nat) (vG:List (xW×Obj)) (s:xk) (σ:St) (H:Hp) (E:x9->xk->Prop),Inv X vG σ H s->(∀b∈fp,FpOk X vG H b)->tn i s.heap->J.go i H->
  vj (vV P w) X.A (pyNext (.ref it)) (λr s1=>∃u,r=some u/\
   vj (vV P w) X.A (vJ tg (.ref it) u) (λ_ s2=>∃x H',Inv X vG σ H' s2/\RelV x u/\J.yld i H x H'/\tn (i + 1) s2.heap/\∀b∈fp,H' b=none) E s1) E s
 done:∀(X:Cx),X.prog=P->X.w=w->X.K=K->X.calm=true->∀(i:Nat) (vG:List (xW×Obj)) (s:xk) (σ:St) (H:Hp) (E:x9->xk->Prop),Inv X vG σ H s->(∀b∈fp,FpOk X vG H b)->tn i s.heap->J.stop i H->
  vj (vV P w) X.A (pyNext (.ref it)) (λr s1=>r=none/\Inv X vG σ H s1) E s
 self:∀(A:xK) (i:Nat) (s:xk) (Q:x9->xk->Prop) (E:x9->xk->Prop),tn i s.heap->Q (.ref it) s->vj (vV P w) A (pyIter (.ref it)) Q E s
abbrev TI:=St->Hp->(It->Hp->Prop)->Prop
noncomputable def PIE (X:Cx) (vG:List (xW×Obj)) (σ:St) (tg:xY) (R:It->Hp->Prop) (itv:x9) (s2:xk):Prop:=
 ∃(it:xW) (fp:List xW) (tn:Nat->Heap->Prop) (J:It) (H':Hp),itv=.ref it/\Inv X vG σ H' s2/\Turn X.prog X.w X.K tg J fp it tn/\tn 0 s2.heap/\(∀b∈fp,FpOk X vG H' b)/\R J H'
noncomputable def PI (X:Cx) (tg iter:xY) (wi:TI):Prop:=
 ∀(vG:List (xW×Obj)) (s:xk) (σ:St) (H:Hp) (R:It->Hp->Prop),Inv X vG σ H s->wi σ H R->
  vj (vV X.prog X.w) X.A (eval iter X.env) (λv s1=>vj (vV X.prog X.w) X.A (pyIter v) (PIE X vG σ tg R) X.xe s1) X.xe s
theorem Py {M:Model} {it:xW} {o:Obj} {n:String} {vs:Array x9} (ho:s.heap.get? it=some o) (hc:o.cls=.type n) (hd:o.data=.fields vs)
  (hn: ["enumerate","zip","dict_itemiterator","dict_reverseitemiterator","odict_iterator","itertools.zip_longest","itertools.pairwise"].contains n=false) (hQ:Q () s):vj M A (vJ tg (.ref it) u) Q E s:=by
 unfold vJ
 cases tg <;> first
  | exact vA hQ
  | (cases u <;> first
    | exact vA hQ
    | (
      refine vv (wpAny_load ho ?_);rw [hc,hd];show vj M A (if (["enumerate","zip","dict_itemiterator","dict_reverseitemiterator","odict_iterator","itertools.zip_longest","itertools.pairwise"].contains n && vs[0]? == some (vW _))=true then _ else _) Q E s;rw [if_neg (by intro h;rw [hn,Bool.false_and] at h;cases h)];exact vA hQ))
noncomputable def Itl (K:PySem.W.Frag) (a:xW):It:=
 ⟨λi H=>∃xs x,SqL K H a xs/\xs[i]? =some x,λi H x H'=>H'=H/\∀xs,SqL K H a xs->xs[i]? =some x,λi H=>∃xs,SqL K H a xs/\xs.length<=i⟩
noncomputable def Itt (K:PySem.W.Frag) (a:xW):It:=
 ⟨λi H=>∃xs x,SqT K H a xs/\xs[i]? =some x,λi H x H'=>H'=H/\∀xs,SqT K H a xs->xs[i]? =some x,λi H=>∃xs,SqT K H a xs/\xs.length<=i⟩
noncomputable def Itr (lo:Int) (n:Nat):It:=⟨λi _=>i < n,λi H x H'=>H'=H/\x=.int (lo + i),λi _=>n<=i⟩
theorem ZJ1 (a it:xW):Turn P w K tg (Itl K a) [it] it (λi h=>h.IsListIter it a i) where
 mem:=by simp
 obj:=λi h st b hb=>by
  have e:b=it:=by simpa using hb
  subst e;obtain ⟨o,e,c,d⟩:=st;exact ⟨o,e,λv z=>by rw [d] at z;cases z⟩
 keep:=λi h h' st k=>st.at λo e=>k it (by simp) o e
 item:=by
  intro X hP hw hK hc i vG s σ H E I hf st hg;subst hP hw hK;obtain ⟨xs,x,hq,hx⟩:=hg;obtain ⟨its,rv,p,hz⟩:=I.list hq;obtain ⟨u,hu,ru⟩:=rv.get hx;obtain ⟨f0,f1,f2,f3,f4,f5⟩:=hf it (by simp);refine wpAny_pyNext_list_item st p.isList (x:=u) (by simpa using hu) λh' st' sb=> ?_
  have I1:Inv X vG σ H {s with heap:=h'}:=I.turned (t':=s.toks) (λb o hb e=>(sb.2 b hb).trans e) f0 f1 f3 f4 f5;obtain ⟨o,e,c,d⟩:=id st';exact ⟨u,rfl,Py (s:={s with heap:=h'}) e c d (by decide) ⟨x,H,I1,ru,⟨rfl,λys hy=>by rw [I.ZCg hy hq];exact hx⟩,st',λb hb=>(hf b hb).1⟩⟩
 done:=by intro X hP hw hK hc i vG s σ H E I hf st hg;subst hP hw hK;obtain ⟨xs,hq,hx⟩:=hg;obtain ⟨its,rv,p,hz⟩:=I.list hq;obtain ⟨f0,f1,f2,f3,f4,f5⟩:=hf it (by simp);have hl:=rv.length;exact wpAny_pyNext_list_end (I.ok.hd hc) st p.isList (by simp;lia) λh' eb=>⟨rfl,I.turned (t':=s.toks) (λb o hb e=>eb b o hb e) f0 f1 f3 f4 f5⟩
 self:=λ_ _ _ _ _ st h=>wpAny_pyIter_listiter st h
theorem ZR2 (a it:xW):Turn P w K tg (Itt K a) [it] it (λi h=>h.IsTupleIter it a i) where
 mem:=by simp
 obj:=λi h st b hb=>by
  have e:b=it:=by simpa using hb
  subst e;obtain ⟨o,e,c,d⟩:=st;exact ⟨o,e,λv z=>by rw [d] at z;cases z⟩
 keep:=λi h h' st k=>st.at λo e=>k it (by simp) o e
 item:=by
  intro X hP hw hK hc i vG s σ H E I hf st hg;subst hP hw hK;obtain ⟨xs,x,hq,hx⟩:=hg;obtain ⟨its,rv,p,hz⟩:=I.tuple hq;obtain ⟨u,hu,ru⟩:=rv.get hx;obtain ⟨f0,f1,f2,f3,f4,f5⟩:=hf it (by simp)
  refine wpAny_pyNext_tuple_item st (show s.heap.IsTuple a its.toArray from p) (x:=u) (by simpa using hu) λh' st' sb=> ?_
  have I1:Inv X vG σ H {s with heap:=h'}:=I.turned (t':=s.toks) (λb o hb e=>(sb.2 b hb).trans e) f0 f1 f3 f4 f5;obtain ⟨o,e,c,d⟩:=id st';exact ⟨u,rfl,Py (s:={s with heap:=h'}) e c d (by decide) ⟨x,H,I1,ru,⟨rfl,λys hy=>by rw [I.ZBS hy hq];exact hx⟩,st',λb hb=>(hf b hb).1⟩⟩
 done:=by
  intro X hP hw hK hc i vG s σ H E I hf st hg;subst hP hw hK;obtain ⟨xs,hq,hx⟩:=hg;obtain ⟨its,rv,p,hz⟩:=I.tuple hq;obtain ⟨f0,f1,f2,f3,f4,f5⟩:=hf it (by simp);have hl:=rv.length
  exact wpAny_pyNext_tuple_end (I.ok.hd hc) st (show s.heap.IsTuple a its.toArray from p) (by simp;lia) λh' eb=>⟨rfl,I.turned (t':=s.toks) (λb o hb e=>eb b o hb e) f0 f1 f3 f4 f5⟩
 self:=λ_ _ _ _ _ st h=>wpAny_pyIter_tupleiter st h
theorem ZLe (it:xW) (lo:Int) (n:Nat):Turn P w K tg (Itr lo n) [it] it (λi h=>IsRangeIter h it (lo + (i:Nat) * 1) ((n:Int) - (i:Nat)) 1) where
 mem:=by simp
 obj:=λi h st b hb=>by
  have e:b=it:=by simpa using hb
  subst e;exact ⟨_,st,λv z=>by have z':Data.fields _=Data.cell v:=z;cases z'⟩
 keep:=λi h h' st k=>k it (by simp) _ st
 item:=by
  intro X hP hw hK hc i vG s σ H E I hf st hg;subst hP hw hK;obtain ⟨f0,f1,f2,f3,f4,f5⟩:=hf it (by simp);have W:=Walks.range (prog:=X.prog) (w:=X.w) (I.ok.hd hc) it lo 1 n;refine W.item i s _ _ hg st λv h' tk hv st' kk=> ?_
  obtain ⟨t,rfl⟩:=hv;have I1:Inv X vG σ H {s with heap:=h',toks:=tk}:=I.turned (λb o hb e=>kk b o (by simpa using hb) e) f0 f1 f3 f4 f5;refine ⟨_,rfl,Py (s:={s with heap:=h',toks:=tk}) (n:="range_iterator") st' rfl rfl (by decide) ⟨.int (lo + i),H,I1,⟨t,?_⟩,⟨rfl,rfl⟩,st',λb hb=>(hf b hb).1⟩⟩;rw [Int.mul_one]
 done:=by intro X hP hw hK hc i vG s σ H E I hf st hg;subst hP hw hK;obtain ⟨f0,f1,f2,f3,f4,f5⟩:=hf it (by simp);exact wpAny_pyNext_range_end (I.ok.hd hc) st (by have:n<=i:=hg;lia) λh' eb=>⟨rfl,I.turned (t':=s.toks) (λb o hb e=>eb b o hb e) f0 f1 f3 f4 f5⟩
 self:=λ_ _ _ _ _ st h=>wpAny_pyIter_rangeiter st h
section
variable {X:Cx} {tg:xY}
noncomputable def ZOd (K:PySem.W.Frag) (tl:TE):TI:=λσ H R=>tl σ H λx H1=>∃a,x=.ref a/\(∃xs,SqL K H1 a xs)/\R (Itl K a) H1
noncomputable def iTup (K:PySem.W.Frag) (tl:TE):TI:=λσ H R=>tl σ H λx H1=>∃a,x=.ref a/\(∃xs,SqT K H1 a xs)/\R (Itt K a) H1
theorem ZBZ {l:xY} {tl:TE} (hl:PE X l tl):PI X tg l (ZOd X.K tl):=by
 intro vG s σ H R I h;refine thn (hl vG s σ H _ I h) λv s1 ⟨x,H1,I1,r1,q1⟩=> ?_
 obtain ⟨a,e,⟨xs,hq⟩,q⟩:=q1;subst e;cases r1;obtain ⟨its,rv,p,hz⟩:=I1.list hq;refine wpAny_pyIter_list p.isList ?_;refine ⟨s1.heap.objs.size,[s1.heap.objs.size],_,_,H1,rfl,I1.kept (t':=s1.toks) λb o e=>zJ _ e,ZJ1 a _,⟨_,z9 _ rfl,rfl,rfl⟩,λb hb=> ?_,q⟩;have e:b=s1.heap.objs.size:=by simpa using hb
 subst e;exact I1.K8 (zK _) (I1.hok.fresh (zK _))
theorem ZPN {l:xY} {tl:TE} (hl:PE X l tl):PI X tg l (iTup X.K tl):=by
 intro vG s σ H R I h;refine thn (hl vG s σ H _ I h) λv s1 ⟨x,H1,I1,r1,q1⟩=> ?_
 obtain ⟨a,e,⟨xs,hq⟩,q⟩:=q1;subst e;cases r1;obtain ⟨its,rv,p,hz⟩:=I1.tuple hq
 refine wpAny_pyIter_tuple (show s1.heap.IsTuple a its.toArray from p) ?_
 refine ⟨s1.heap.objs.size,[s1.heap.objs.size],_,_,H1,rfl,I1.kept (t':=s1.toks) λb o e=>zJ _ e,ZR2 a _,⟨_,z9 _ rfl,rfl,rfl⟩,λb hb=> ?_,q⟩;have e:b=s1.heap.objs.size:=by simpa using hb
 subst e;exact I1.K8 (zK _) (I1.hok.fresh (zK _))
theorem ZGg {R:It->Hp->Prop} {lo hi:Int} {t u v:Tok} {tk:Nat} (I:Inv X vG σ H s) (h1: -(2 ^ 62)<=lo) (h2:lo < 2 ^ 62) (h3: -(2 ^ 62)<=hi) (h4:hi < 2 ^ 62)
  (q:R (Itr lo (hi - lo).toNat) H):vj (vV X.prog X.w) X.A (pyIter (.ref s.heap.objs.size)) (PIE X vG σ tg R) E {s with heap:=s.heap.push {cls:=.type "range",data:=.fields #[.int lo t,.int hi u,.int 1 v]},toks:=tk}:=by
 refine wpAny_pyIter_range (IsRange.new ..) (small_one h1 h2 h3 h4) ?_;have I1:Inv X vG σ H {s with heap:=s.heap.push {cls:=.type "range",data:=.fields #[.int lo t,.int hi u,.int 1 v]},toks:=tk}:=I.kept λb o e=>zJ _ e
 refine ⟨(s.heap.push {cls:=.type "range",data:=.fields #[.int lo t,.int hi u,.int 1 v]}).objs.size,[(s.heap.push {cls:=.type "range",data:=.fields #[.int lo t,.int hi u,.int 1 v]}).objs.size],_,_,H,rfl,
  I1.kept (t':=tk) λb o e=>zJ _ e,ZLe _ lo (hi - lo).toNat,?_,λb hb=> ?_,q⟩
 ·have e1:lo + ((0:Nat):Int) * 1=lo:=by simp
  have e2:(((hi - lo).toNat:Nat):Int) - ((0:Nat):Int)=Builtin.Range.rangeSize lo hi 1:=by rw [rangeSize_one];split <;> lia
  show IsRangeIter _ _ (lo + ((0:Nat):Int) * 1) ((((hi - lo).toNat:Nat):Int) - ((0:Nat):Int)) 1;rw [e1,e2];exact z9 _ rfl
 ·have e:b=(s.heap.push {cls:=.type "range",data:=.fields #[.int lo t,.int hi u,.int 1 v]}).objs.size:=by simpa using hb
  subst e;exact I1.K8 (zK _) (I1.hok.fresh (zK _))
noncomputable def ZL2 (ta:TA):TI:=λσ H R=>ta σ H λvs H1=>∃j:Int,vs= [.int j]/\ -(2 ^ 62)<=j/\j < 2 ^ 62/\R (Itr 0 j.toNat) H1
noncomputable def ZNg (ta:TA):TI:=λσ H R=>ta σ H λvs H1=>∃i j:Int,vs= [.int i,.int j]/\(-(2 ^ 62)<=i/\i < 2 ^ 62/\ -(2 ^ 62)<=j/\j < 2 ^ 62)/\R (Itr i (j - i).toNat) H1
theorem ZKB {a:xY} {ta:TA} {p pos:Pos} (hg:Gl X "range") (hm:X.mg "range"=none) (ha:PA X [a] ta) (hs:vq [a] X.env= [(false,eval a X.env)]:=by rfl):PI X tg (.Call (.Name "range" p) [a] [] pos) (ZL2 ta):=by
 intro vG s σ H R I h;refine Call_ (J9 I hg hm boot_range (PyProof.Rows.callWith_type1 (thn (ha pos vG s σ H _ I h) λus s1 ⟨vs,H1,I1,r1,q1⟩=> ?_) hs rfl));obtain ⟨j,e,q1,q2,q⟩:=q1;subst e;cases r1 with
 | cons r rr=>
  cases rr;obtain ⟨t,rfl⟩:=r;exact call_range_1 (ZGg I1 (by lia) (by lia) q1 q2 (by simpa using q))
theorem ZNM {a b:xY} {ta:TA} {p pos:Pos} (hg:Gl X "range") (hm:X.mg "range"=none) (ha:PA X [a,b] ta) (hs:vq [a,b] X.env= [(false,eval a X.env),(false,eval b X.env)]:=by rfl) (hs2:vq [b] X.env= [(false,eval b X.env)]:=by rfl):
  PI X tg (.Call (.Name "range" p) [a,b] [] pos) (ZNg ta):=by
 intro vG s σ H R I h;refine Call_ (J9 I hg hm boot_range (PyProof.Rows.callWith_type1 (thn (ha pos vG s σ H _ I h) λus s1 ⟨vs,H1,I1,r1,q1⟩=> ?_) (by rw [hs,hs2]) (by rw [hs2];rfl)));obtain ⟨i,j,e,⟨q1,q2,q3,q4⟩,q⟩:=q1;subst e;cases r1 with
 | cons r rr=>
  cases rr with
  | cons r' rr=>
   cases rr;obtain ⟨t,rfl⟩:=r;obtain ⟨t',rfl⟩:=r';exact call_range_2 (ZGg I1 q1 q2 q3 q4 q)
noncomputable def tFor (wi:TI) (g:TG) (tb:TS):TS:=λD σ H=>wi σ H λJ H1=>∃W:Nat->Nat->St->Hp->Prop,(∃m,W 0 m σ H1)/\∀i m σ H,W i m σ H->
 (J.stop i H/\D.nx σ H)∨(J.go i H/\∃N:St->Hp->Prop,(∀σ' H',N σ' H'->∃m',m' < m/\W (i + 1) m' σ' H')/\∀x H',J.yld i H x H'->g x σ H' λσ2 H2=>tb {D with nx:=N,ct:=N,bk:=D.nx} σ2 H2)
noncomputable def Q6 (fp:List xW) (h:Heap):List (xW×Obj):=fp.filterMap λb=>(h.get? b).map λo=>(b,o)
theorem Vz {o:Obj} (hb:b∈fp) (e:h.get? b=some o):(b,o)∈Q6 fp h:=List.mem_filterMap.mpr ⟨b,hb,by rw [e];rfl⟩
theorem ZI9 {p:xW×Obj} (hp:p∈Q6 fp h):p.1∈fp/\h.get? p.1=some p.2:=by
 obtain ⟨b,hb,e⟩:=List.mem_filterMap.mp hp;cases q:h.get? b with
 | none=>rw [q] at e;cases e
 | some o=>
  rw [q] at e;have e':(b,o)=p:=Option.some.inj e;subst e';exact ⟨hb,q⟩
theorem Inv.pinned (I:Inv X vG σ H s) (hf:∀b∈fp,FpOk X vG H b) (ho:∀b∈fp,∃o,s.heap.get? b=some o/\∀v,o.data≠ .cell v):Inv X (vG++Q6 fp s.heap) σ H s:=
 I.N5 λp hp=>(jC.mp hp).elim (λz=>I.pin p (zO _ z)) λz=>by obtain ⟨hb,e⟩:=ZI9 z;obtain ⟨f0,f1,f2,_⟩:=hf p.1 hb;obtain ⟨o,e',d⟩:=ho p.1 hb;rw [e] at e';cases e';exact ⟨e,f0,f1,f2,d⟩
theorem Inv.unpinned {pl:List (xW×Obj)} (I:Inv X (vG++pl) σ H s):Inv X vG σ H s:=I.N5 λp hp=>I.pin p (zO _ (jT _ hp))
theorem ZR3 {iter:xY} {wi:TI} {g:TG} {tb:TS} {pos:Pos} (hp:PassesOwn (vV X.prog X.w) X.A X.env X.xe) (hc:X.calm=true) (hi:PI X tg iter wi) (hg:PG X tg g) (hb:PSs X body tb)
  (hs:∀x,foldedSetIterable iter X.env x=pure x:=by intro _;rfl):PS X (.For tg iter body [] pos) (tFor wi g tb):=by
 intro vG s σ H D I h;refine wpAny_For (thn (hi vG s σ H _ I h) λv s1 h1=>thn h1 λitv s2 h2=> ?_) hs;obtain ⟨it,fp,tn,J,H2,e,I2,T,st2,f2,W,⟨m0,w0⟩,turn⟩:=h2;subst e;have stat:∀{H':Hp},(∀b∈fp,H' b=none)->∀b∈fp,FpOk X vG H' b:=λhn b hb=>⟨hn b hb,(f2 b hb).2⟩
 refine codeAny_forLoop_any (λn s'=>∃i σ' H',Inv X vG σ' H' s'/\tn i s'.heap/\(∀b∈fp,H' b=none)/\W i n σ' H') ?_ m0 ⟨0,σ,H2,I2,st2,λb hb=>(f2 b hb).1,w0⟩;rintro n s3 ⟨i,σ3,H3,I3,st3,fr3,w3⟩;rcases turn i n σ3 H3 w3 with ⟨stop,qn⟩ | ⟨go,N,hN,step⟩
 ·refine v9 hp (thn (T.done X rfl rfl rfl hc i vG s3 σ3 H3 X.xe I3 (stat fr3) st3 stop) λr s4 ⟨hr,I4⟩=> ?_);subst hr;exact wpAny_execs_nil ⟨σ3,H3,I4,qn⟩
 ·refine v9 hp (thn (T.item X rfl rfl rfl hc i vG s3 σ3 H3 X.xe I3 (stat fr3) st3 go) λr s4 ⟨u,hr,h4⟩=> ?_);subst hr;refine v9 hp (thn h4 λ_ s5 ⟨x,H5,I5,r5,y5,st5,fr5⟩=> ?_);have I5':=I5.pinned (stat fr5) (T.obj _ _ st5);refine v9 hp (thn (hg _ s5 σ3 H5 x u _ I5' r5 (step x H5 y5)) λ_ s6 ⟨σ6,H6,I6,q6⟩=> ?_);refine v9 hp (thn (hb _ s6 σ6 H6 _ I6 q6) λf s7 q7=> ?_)
  have again:∀{σ7:St} {H7:Hp},Inv X (vG++Q6 fp s5.heap) σ7 H7 s7->N σ7 H7->∃m,m < n/\∃i σ' H',Inv X vG σ' H' s7/\tn i s7.heap/\(∀b∈fp,H' b=none)/\W i m σ' H':=λ{σ7 H7} I7 n7=>by obtain ⟨m',hm,w7⟩:=hN σ7 H7 n7;refine ⟨m',hm,i + 1,σ7,H7,I7.unpinned,T.keep _ _ _ st5 λb hb o e=>(I7.pin (b,o) (zO _ (zO _ (Vz hb e)))).1,λb hb=> ?_,w7⟩;obtain ⟨o,e,d⟩:=T.obj _ _ st5 b hb;exact (I7.pin (b,o) (zO _ (zO _ (Vz hb e)))).2.1
  cases f with
  | next=>obtain ⟨σ7,H7,I7,n7⟩:=q7;exact again I7 n7
  | cont=>obtain ⟨σ7,H7,I7,n7⟩:=q7;exact again I7 n7
  | brk=>obtain ⟨σ7,H7,I7,q7⟩:=q7;exact ⟨σ7,H7,I7.unpinned,q7⟩
  | ret v=>obtain ⟨x7,σ7,H7,I7,r7,q7⟩:=q7;exact ⟨x7,σ7,H7,I7.unpinned,r7,q7⟩
end
abbrev R2:=V->V->Hp->VK->Prop
variable {r:R2}
noncomputable def OpR (X:Cx) (f:x9->x9->Sem x9) (r:R2):Prop:=
 ∀(vG:List (xW×Obj)) (s:xk) (σ:St) (H:Hp) (x y:V) (v u:x9) (Q:VK),Inv X vG σ H s->RelV x v->RelV y u->r x y H Q->
  vj (vV X.prog X.w) X.A (f v u) (EP X vG σ Q) X.xe s
noncomputable def UnR (X:Cx) (f:x9->Sem x9) (r:V->Hp->VK->Prop):Prop:=
 ∀(vG:List (xW×Obj)) (s:xk) (σ:St) (H:Hp) (x:V) (v:x9) (Q:VK),Inv X vG σ H s->RelV x v->r x H Q->
  vj (vV X.prog X.w) X.A (f v) (EP X vG σ Q) X.xe s
noncomputable def CallR (X:Cx) (f:x9) (r:List V->Hp->VK->Prop):Prop:=
 ∀(vG:List (xW×Obj)) (s:xk) (σ:St) (H:Hp) (xs:List V) (us:List x9) (Q:VK),Inv X vG σ H s->Vals xs us->r xs H Q->
  vj (vV X.prog X.w) X.A (call f us) (EP X vG σ Q) X.xe s
def tOp (r:R2) (ta tb:TE):TE:=λσ H Q=>ta σ H λx H1=>tb σ H1 λy H2=>r x y H2 Q
def tUn (r:V->Hp->VK->Prop) (ta:TE):TE:=λσ H Q=>ta σ H λx H1=>r x H1 Q
noncomputable def rI (C:Int->Int->Prop) (g:Int->Int->V):R2:=λx y H Q=>∃i j,x=.int i/\y=.int j/\C i j/\Q (g i j) H
def rI0 (g:Int->Int->V):R2:=λx y H Q=>∃i j,x=.int i/\y=.int j/\Q (g i j) H
def rU (g:Int->V):V->Hp->VK->Prop:=λx H Q=>∃i,x=.int i/\Q (g i) H
section
variable {X:Cx} {a b c:xY} {ta tb tc:TE} {pos:Pos}
theorem ZAp (ha:PE X a ta) (hb:PE X b tb) {R:V->V->Hp->Prop} (I:Inv X vG σ H s)
  (h:ta σ H λx H1=>tb σ H1 λy H2=>R x y H2) {Q:x9->xk->Prop} {f:x9->x9->Sem x9}
  (hf:∀v u s2 x y H2,Inv X vG σ H2 s2->RelV x v->RelV y u->R x y H2->vj (vV X.prog X.w) X.A (f v u) Q X.xe s2):
  vj (vV X.prog X.w) X.A (eval a X.env) (λv s₁=>vj (vV X.prog X.w) X.A (eval b X.env) (λu s₂=>vj (vV X.prog X.w) X.A (f v u) Q X.xe s₂) X.xe s₁) X.xe s:=by
 refine thn (ha vG s σ H _ I h) λv s1 ⟨x,H1,I1,r1,q1⟩=> ?_
 refine thn (hb vG s1 σ H1 _ I1 q1) λu s2 ⟨y,H2,I2,r2,q2⟩=> ?_
 exact hf v u s2 x y H2 I2 r1 r2 q2
theorem ZRp {op:Operator} (ho:OpR X (xG op) r) (ha:PE X a ta) (hb:PE X b tb):PE X (.BinOp a op b pos) (tOp r ta tb):=by intro vG s σ H Q I h;exact wpAny_BinOp (ZAp ha hb I h λv u s2 x y H2 I2 rx ry q=>ho vG s2 σ H2 x y v u Q I2 rx ry q)
theorem ZOx {op:UnaryOp} {r:V->Hp->VK->Prop} (ho:UnR X (unaryOp op) r) (ha:PE X a ta):PE X (.UnaryOp op a pos) (tUn r ta):=by intro vG s σ H Q I h;exact UnaryOp_ (thn (ha vG s σ H _ I h) λv s1 ⟨x,H1,I1,r1,q1⟩=>ho vG s1 σ H1 x v Q I1 r1 q1)
theorem opI {C:Int->Int->Prop} {g:Int->Int->Int}
  (rule:∀(i j:Int) (t u:Tok) (s:xk) (Q:x9->xk->Prop) (E:x9->xk->Prop),C i j->Q (.int (g i j) s.toks) {s with toks:=s.toks + 1}->vj (vV X.prog X.w) X.A (f (.int i t) (.int j u)) Q E s):
  OpR X f (rI C λi j=>.int (g i j)):=by
 intro vG s σ H x y v u Q I rx ry h;obtain ⟨i,j,rfl,rfl,hc,q⟩:=h;obtain ⟨t,rfl⟩:=rx;obtain ⟨t',rfl⟩:=ry;exact rule i j t t' s _ _ hc ⟨.int (g i j),H,I.tok _,⟨_,rfl⟩,q⟩
theorem opI0 {g:Int->Int->Int}
  (rule:∀(i j:Int) (t u:Tok) (s:xk) (Q:x9->xk->Prop) (E:x9->xk->Prop),Q (.int (g i j) s.toks) {s with toks:=s.toks + 1}->vj (vV X.prog X.w) X.A (f (.int i t) (.int j u)) Q E s):
  OpR X f (rI0 λi j=>.int (g i j)):=by
 intro vG s σ H x y v u Q I rx ry h;obtain ⟨i,j,rfl,rfl,q⟩:=h;obtain ⟨t,rfl⟩:=rx;obtain ⟨t',rfl⟩:=ry;exact rule i j t t' s _ _ ⟨.int (g i j),H,I.tok _,⟨_,rfl⟩,q⟩
theorem Xa {g:Int->Int->Bool}
  (rule:∀(i j:Int) (t u:Tok) (s:xk) (Q:x9->xk->Prop) (E:x9->xk->Prop),Q (.bool (g i j)) s->vj (vV X.prog X.w) X.A (f (.int i t) (.int j u)) Q E s):
  OpR X f (rI0 λi j=>.bl (g i j)):=by
 intro vG s σ H x y v u Q I rx ry h;obtain ⟨i,j,rfl,rfl,q⟩:=h;obtain ⟨t,rfl⟩:=rx;obtain ⟨t',rfl⟩:=ry;exact rule i j t t' s _ _ ⟨.bl (g i j),H,I,rfl,q⟩
def CPow (i j:Int):Prop:=0<=j/\j<=1000000/\i.natAbs < 2 ^ 64
noncomputable def CMul (i j:Int):Prop:=(-(2 ^ 64) < i/\i < 2 ^ 64)∨(-(2 ^ 64) < j/\j < 2 ^ 64)
theorem CMul.ok {i j:Int} (h:CMul i j):IntMulOk i j:=by
 rcases h with ⟨h1,h2⟩ | ⟨h1,h2⟩
 ·exact .of_left (intBits_le_64 h1 h2)
 ·exact .of_right (intBits_le_64 h1 h2)
theorem ZQx:OpR X (xG .Add) (rI0 λi j=>.int (i + j)):=opI0 λ_ _ _ _ _ _ _ q=>add_int q
theorem ZP8:OpR X (xG .Sub) (rI0 λi j=>.int (i - j)):=opI0 λ_ _ _ _ _ _ _ q=>sub_int q
theorem ZMH:OpR X (xG .Mod) (rI (λ_ j=>0 < j) λi j=>.int (i % j)):=opI λi j _ _ _ _ _ hc q=>by have h1:(0:Int) < j:=hc;exact mod_int' (by lia) (by rw [Int.fmod_eq_emod_of_nonneg i (by lia)];exact q)
theorem ZKH:OpR X (xG .Pow) (rI CPow λi j=>.int (i ^ j.toNat)):=opI λ_ _ _ _ _ _ _ hc q=>pow_int_small hc.1 hc.2.1 hc.2.2 q
theorem unI {f:x9->Sem x9} {g:Int->Int}
  (rule:∀(i:Int) (t:Tok) (s:xk) (Q:x9->xk->Prop) (E:x9->xk->Prop),Q (.int (g i) s.toks) {s with toks:=s.toks + 1}->vj (vV X.prog X.w) X.A (f (.int i t)) Q E s):
  UnR X f (rU λi=>.int (g i)):=by
 intro vG s σ H x v Q I rx h;obtain ⟨i,rfl,q⟩:=h;obtain ⟨t,rfl⟩:=rx;exact rule i t s _ _ ⟨.int (g i),H,I.tok _,⟨_,rfl⟩,q⟩
theorem ZMw:UnR X (unaryOp .USub) (rU λi=>.int (-i)):=unI λ_ _ _ _ _ q=>neg_int q
end
section
variable {X:Cx} {a b c:xY} {ta tb tc:TE} {pos:Pos}
theorem Vj {Q:VK} {k k':Bool} (I:Inv X vG σ H s) (q:Q (.bl k) H) (e:k=k'):EP X vG σ Q (.bool k') s:=by subst e;exact ⟨.bl k,H,I,rfl,q⟩
theorem ZM5:OpR X (xN .Lt) (rI0 λi j=>.bl (decide (i < j))):=Xa λ_ _ _ _ _ _ _ q=>lt_int q
theorem ZMZ:OpR X (xN .LtE) (rI0 λi j=>.bl (decide (i<=j))):=Xa λ_ _ _ _ _ _ _ q=>le_int q
theorem ZPh:OpR X (xN .Gt) (rI0 λi j=>.bl (decide (j < i))):=Xa λ_ _ _ _ _ _ _ q=>gt_int q
theorem ZN3:OpR X (xN .GtE) (rI0 λi j=>.bl (decide (j<=i))):=Xa λ_ _ _ _ _ _ _ q=>ge_int q
theorem ZN6:OpR X (xN .Lt) (λx y H Q=>∃i j,x=.str i/\y=.str j/\Q (.bl (decide (i.cps.toList < j.cps.toList))) H):=by intro vG s σ H x y v u Q I rx ry h;obtain ⟨i,j,rfl,rfl,q⟩:=h;obtain ⟨t,rfl⟩:=rx;obtain ⟨t',rfl⟩:=ry;exact lt_str (Vj I q rfl)
theorem ZMl:OpR X (xN .Is) (λx y H Q=>y=.non/\Q (.bl (decide (x=.non))) H):=by
 intro vG s σ H x y v u Q I rx ry h;obtain ⟨rfl,q⟩:=h;cases ry;refine is_none_gen (Vj I q ?_)
 cases x <;> first
  | (cases rx;rfl)
  | (obtain ⟨t,rfl⟩:=rx;rfl)
theorem ZNf:OpR X (xN .IsNot) (λx y H Q=>y=.non/\Q (.bl (!decide (x=.non))) H):=by
 intro vG s σ H x y v u Q I rx ry h;obtain ⟨rfl,q⟩:=h;cases ry;refine isnot_none_gen (Vj I q ?_)
 cases x <;> first
  | (cases rx;rfl)
  | (obtain ⟨t,rfl⟩:=rx;rfl)
theorem ZLw:OpR X (xN .NotIn) (λx y H Q=>∃i j,x=.str i/\y=.str j/\Q (.bl (!(!(Builtin.Str.occurrences j i 0 j.length 1).isEmpty))) H):=by intro vG s σ H x y v u Q I rx ry h;obtain ⟨i,j,rfl,rfl,q⟩:=h;obtain ⟨t,rfl⟩:=rx;obtain ⟨t',rfl⟩:=ry;exact notIn_str (Vj I q rfl)
theorem OpR.or {r':R2} (h:OpR X f r) (h':OpR X f r'):OpR X f (λx y H Q=>r x y H Q∨r' x y H Q):=by
 intro vG s σ H x y v u Q I rx ry q;rcases q with q | q
 ·exact h vG s σ H x y v u Q I rx ry q
 ·exact h' vG s σ H x y v u Q I rx ry q
theorem nomark (b:xY) (h:op≠ .In:=by decide) (h2:op≠ .NotIn:=by decide):xF op b=false:=by
 have e1:(op == CmpOp.In)=false:=by cases op <;> first | rfl | exact absurd rfl h
 have e2:(op == CmpOp.NotIn)=false:=by cases op <;> first | rfl | exact absurd rfl h2
 cases b <;> simp [xF,e1,e2]
theorem ZRJ (ho:OpR X (xN op) r) (ha:PE X a ta) (hb:PE X b tb) (hm:xF op b=false):PE X (.Compare a [op] [b] pos) (tOp r ta tb):=by intro vG s σ H Q I h;exact wpAny_Compare1 (ZAp ha hb I h λv u s2 x y H2 I2 rx ry q=>ho vG s2 σ H2 x y v u Q I2 rx ry q) hm
def Wc (t:TE):TT:=λσ H Q=>t σ H λx H'=>∃k,x=.bl k/\Q k H'
theorem ZL9 (ho:OpR X (xN op) r) (ha:PE X a ta) (hb:PE X b tb) (hm:xF op b=false):PT X (.Compare a [op] [b] pos) (Wc (tOp r ta tb)):=by
 intro vG s σ H Q I h;refine wpAny_isTrue_Compare1 (thn (ha vG s σ H _ I h) λv s1 ⟨x,H1,I1,r1,q1⟩=>thn (hb vG s1 σ H1 _ I1 q1) λu s2 ⟨y,H2,I2,r2,q2⟩=>
  thn (ho vG s2 σ H2 x y v u _ I2 r1 r2 q2) λc s3 ⟨z,H3,I3,r3,k,e,q3⟩=> ?_) hm
 subst e;cases r3;exact vC ⟨H3,I3,q3⟩
theorem line63:(sizeLine:Nat) < 2 ^ 63:=by rw [vK];decide
theorem ZKb:OpR X (xG .Add) (λx y H Q=>∃i j,x=.str i/\y=.str j/\i.length + j.length<=sizeLine/\Q (.str (i++j)) H):=by intro vG s σ H x y v u Q I rx ry h;obtain ⟨i,j,rfl,rfl,hz,q⟩:=h;obtain ⟨t,rfl⟩:=rx;obtain ⟨t',rfl⟩:=ry;exact add_str (λt' tk=>⟨.str (i++j),H,I.tok _,⟨_,rfl⟩,q⟩) hz
theorem ZK1:OpR X (inplaceOp .Add) (λx y H Q=>∃i j,x=.str i/\y=.str j/\i.length + j.length<=sizeLine/\Q (.str (i++j)) H):=by intro vG s σ H x y v u Q I rx ry h;obtain ⟨i,j,rfl,rfl,hz,q⟩:=h;obtain ⟨t,rfl⟩:=rx;obtain ⟨t',rfl⟩:=ry;exact iadd_str (λt' tk=>⟨.str (i++j),H,I.tok _,⟨_,rfl⟩,q⟩) hz
theorem vals1 {x:V} (r:Vals [x] us):∃u,us= [u]/\RelV x u:=by
 cases r with
 | cons r1 r2=>cases r2;exact ⟨_,rfl,r1⟩
theorem vals2 {x:V} (r:Vals [x,y] us):∃u w',us= [u,w']/\RelV x u/\RelV y w':=by
 cases r with
 | cons r1 r2=>
  cases r2 with
  | cons r3 r4=>cases r4;exact ⟨_,_,rfl,r1,r3⟩
theorem ZQ8 (hc:X.calm=true):CallR X (.builtin "max") (λxs H Q=>∃i j,xs= [.int i,.int j]/\Q (.int (if j > i then j else i)) H):=by
 intro vG s σ H xs us Q I r h;obtain ⟨i,j,rfl,q⟩:=h;obtain ⟨u,w',rfl,⟨t,rfl⟩,⟨t',rfl⟩⟩:=vals2 r;refine max_two_ints (I.ok.hd hc) λh' tk k=>⟨_,H,I.kept k,?_,q⟩
 by_cases hj:j > i
 ·rw [if_pos hj,if_pos hj];exact ⟨_,rfl⟩
 ·rw [if_neg hj,if_neg hj];exact ⟨_,rfl⟩
theorem ZNu (hc:X.calm=true):CallR X (.builtin "min") (λxs H Q=>∃i j,xs= [.int i,.int j]/\Q (.int (if j < i then j else i)) H):=by
 intro vG s σ H xs us Q I r h;obtain ⟨i,j,rfl,q⟩:=h;obtain ⟨u,w',rfl,⟨t,rfl⟩,⟨t',rfl⟩⟩:=vals2 r;refine min_two_ints (I.ok.hd hc) λh' tk k=>⟨_,H,I.kept k,?_,q⟩
 by_cases hj:j < i
 ·rw [if_pos hj,if_pos hj];exact ⟨_,rfl⟩
 ·rw [if_neg hj,if_neg hj];exact ⟨_,rfl⟩
theorem ZNa:CallR X (.type "int") (λxs H Q=>(∃i,xs= [.int i]/\Q (.int i) H)∨∃k,xs= [.bl k]/\Q (.int (if k then 1 else 0)) H):=by
 intro vG s σ H xs us Q I r h;rcases h with ⟨i,rfl,q⟩ | ⟨k,rfl,q⟩
 ·obtain ⟨u,rfl,t,rfl⟩:=vals1 r;exact call_int_int ⟨.int i,H,I,⟨_,rfl⟩,q⟩
 ·obtain ⟨u,rfl,r1⟩:=vals1 r;cases r1;exact call_int_bool ⟨.int (if k then 1 else 0),H,I.tok _,⟨_,rfl⟩,q⟩
end
structure ObjM (h:Heap) (x dx C:xW) (mA:Str->Option x9):Prop where
 obj:h.get? x=some (PySem.W.instObj C dx)
 ns:h.Ns1 dx mA
 ne:dx≠x
theorem ZPw {dx:xW} {mA:Str->Option x9} (n:h.Ns1 dx mA):∃od,h.get? dx=some od/\∀name,PySem.W.lookIn name od=some (mA name):=by
 obtain ⟨o,es,ep,ho,hd,hk,_,hm⟩:=n;refine ⟨o,ho,λname=> ?_⟩;have e:=hm name;unfold nsFind findBy at e;rw [<-Array.find?_toList] at e;unfold PySem.W.lookIn;rw [hd];dsimp only;split
 ·rename_i y q;rw [q] at e;exact congrArg some e
 ·rename_i q;rw [q] at e
  have a:es.toList.any (·.refKey)=false:=by rw [List.any_eq_false];intro y hy;obtain ⟨z,t,hkey⟩:=hk y (Array.mem_toList_iff.mp hy);simp [DictEntry.refKey,hkey]
  have a':¬es.toList.any (·.refKey)=true:=by rw [a];exact zy
  rw [if_neg a'];exact congrArg some e
theorem ObjM.look {x dx:xW} {mA:Str->Option x9} (I:ObjM h x dx C mA):∃od,PySem.W.InstAt h x (PySem.W.instObj C dx) C (some od)/\∀name,PySem.W.lookIn name od=some (mA name):=
 let ⟨od,ho,hl⟩:=ZPw I.ns
 ⟨od,⟨I.obj,rfl,rfl,ho⟩,hl⟩
section
variable {prog:xj} {w:xA} {A:xK} {E:x9->xk->Prop} {s:xk} {K:PySem.W.Frag} {x dx C f:xW} {mA:Str->Option x9} {name:Str} {v:x9}
theorem ZMf {expr:Bool} {Q:x9->xk->Prop} (X:K.In s.heap) (I:ObjM s.heap x dx C mA) (hg:PySem.W.plainGet K C name=true) (hh:PySem.W.hasDictIn K C=true)
  (ha:PySem.W.findIn K (.ref C) name=some none) (hv:mA name=some v) (hv':PySem.W.handedIn v=true) (h:Q v {s with toks:=s.toks + 1}):
  vj (vV prog w) A (getAttr (.ref x) name expr) Q E s:=by
 obtain ⟨od,J,hl⟩:=I.look;exact PySem.W.get_value X J (PySem.W.plainGet_of hg).1 (PySem.W.findObj_own hh ha rfl (by rw [hl,hv])) hv' h
theorem ZLp {pl:Sem Bool} {Q:x9×List x9->xk->Prop} (X:K.In s.heap) (I:ObjM s.heap x dx C mA) (hg:PySem.W.plainGet K C name=true)
  (hf:PySem.W.findIn K (.ref C) name=some (some (.ref f))) (ht:PySem.W.isFn K (.ref f)=true) (hv:mA name=none) (h:Q (.ref f,[.ref x]) s):
  vj (vV prog w) A (getMethod (.ref x) name pl) Q E s:=by
 obtain ⟨od,J,hl⟩:=I.look
 exact PySem.W.method_fn X J (PySem.W.plainGet_of hg).1 (PySem.W.plainGet_of hg).2 hf (beq_iff_eq.mp ht) (by show (PySem.W.lookIn name od).map (·.isSome)=some false;rw [hl,hv];rfl) h
theorem ZRh {ns:List Str} (X:K.In s.heap) (I:ObjM s.heap x dx C mA)
  (hs:PySem.W.findIn K (.ref C) "__setattr__"=some (some (.builtin "object.__setattr__"))) (hp:PySem.W.plainOver K C=true) (ht:PySem.W.takerIn K C name=some none) (hh:PySem.W.hasDictIn K C=true)
  (hw:PySem.Within mA ns) (hsz:ns.length<=sizeLine)
  (h:∀h',ObjM h' x dx C (λy=>if y=name then some v else mA y)->qy dx s.heap h'->Q () {s with heap:=h',toks:=s.toks + 2}):
  vj (vV prog w) A (setAttr (.ref x) name v) Q E s:=by
 obtain ⟨od,J,hl⟩:=I.look;refine PySem.W.set_plain X J hs (PySem.W.osa_open (s:={s with toks:=s.toks + 1}) (r:=none) X J hp ht λb=> ?_);obtain ⟨cd,hc,hd'⟩:=PySem.W.any_some hh;have hx:s.heap.get? x=some ⟨.ref C,some dx,.plain,#[]⟩:=I.obj;refine vv (vA (vv (vv (wpAny_loadPart hx (vv (PySem.W.Looks.here (s:={s with toks:=s.toks + 1}) (PySem.W.looks_clsIn X hc) ?_))))))
 rw [hd'];refine vA (a:=some dx) (vv (vA (vv ?_)));refine wpAny_nsSet1 (s:={s with toks:=s.toks + 1}) I.ns λh' hn2 hs2=> ?_
 obtain ⟨oD,esD,epD,hoD,hdD,hcD⟩:=hn2.count (PySem.Within.cons name v hw);refine vv (wpAny_lookBehind hoD (by rw [hdD];exact pastItsLine_dict (zB hcD (by rw [zP];lia))) ?_);exact vA (h _ ⟨(hs2.2 _ (Ne.symm I.ne)).trans I.obj,hn2,I.ne⟩ hs2)
theorem ZOf {R:Result->xk->Prop} {vs:List x9} (X:K.In s.heap) (hm:PySem.W.makesIn K C=true)
  (hi:PySem.W.findIn K (.ref C) "__init__"=some (some (.ref f))) (hf:PySem.W.typeIn K (.ref f)=some (.type "function"))
  (h:codeAny (vV prog w) (A.under (.builtin "type.__call__" ⟨.ref C::vs,kw⟩)) (.call (.ref f) ⟨.ref (s.heap.objs.size + 1)::vs,kw⟩) (PySem.W.InitBack (s.heap.objs.size + 1) R)
   {s with heap:=(s.heap.push PySem.W.emptyDict).push (PySem.W.instObj C s.heap.objs.size)}):
  codeAny (vV prog w) A (.call (.ref C) ⟨vs,kw⟩) R s:=by
 obtain ⟨hh,g,d,t,os⟩:=s;exact PySem.W.make_core (PySem.W.makes_of X hm) (PySem.W.looks_findIn X hi) (λself=>PySem.W.bind_fn X self hf) (.inl rfl) h
end
noncomputable def Fq (f:Str) (v:V):List (Str×V)->List (Str×V)
 | []=> [(f,v)]
 | (g,x)::r=>if g=f then (g,v)::r else (g,x)::Fq f v r
theorem ZE9 (f g:Str) (v:V):∀fs:List (Str×V),(Fq f v fs).lookup g=if g=f then some v else fs.lookup g
 | []=>by
  show jy g [(f,v)]=_;by_cases h:g=f
  ·have hb:(g == f)=true:=beq_iff_eq.mpr h;simp only [jy,hb,if_pos h]
  ·have hb:(g == f)=false:=beq_eq_false_iff_ne.mpr h;simp only [jy,hb,if_neg h]
 | (k,x)::r=>by
  have ih:=ZE9 f g v r
  rw [show Fq f v ((k,x)::r)=(if k=f then (k,v)::r else (k,x)::Fq f v r) from rfl]
  by_cases hk:k=f
  ·rw [if_pos hk];by_cases h:g=k
   ·have hb:(g == k)=true:=beq_iff_eq.mpr h;simp only [jy,hb,if_pos (h.trans hk)]
   ·have hb:(g == k)=false:=beq_eq_false_iff_ne.mpr h;simp only [jy,hb,if_neg (λe:g=f=>h (e.trans hk.symm))]
  ·rw [if_neg hk];by_cases h:g=k
   ·have hb:(g == k)=true:=beq_iff_eq.mpr h;simp only [jy,hb,if_neg (λe:g=f=>hk (h.symm.trans e))]
   ·have hb:(g == k)=false:=beq_eq_false_iff_ne.mpr h;simp only [jy,hb];exact ih
theorem ZCv (f:Str) (v:V):∀fs:List (Str×V),f∈(Fq f v fs).map (·.1)/\∀g,g∈fs.map (·.1)->g∈(Fq f v fs).map (·.1)
 | []=>⟨by simp [Fq],λg h=>by simp at h⟩
 | (k,x)::r=>by
  obtain ⟨i1,i2⟩:=ZCv f v r
  rw [show Fq f v ((k,x)::r)=(if k=f then (k,v)::r else (k,x)::Fq f v r) from rfl]
  by_cases hk:k=f
  ·rw [if_pos hk];subst hk;exact ⟨by simp,λg h=>by simpa using h⟩
  ·rw [if_neg hk];refine ⟨?_,λg h=> ?_⟩
   ·rw [zW];exact zZ _ i1
   ·rw [zW] at h ⊢;rcases zx.mp h with e | e
    ·exact zx.mpr (.inl e)
    ·exact zZ _ (i2 g e)
theorem ZFz (f:Str) (v:V):∀fs:List (Str×V),(Fq f v fs).length<=fs.length + 1
 | []=>by simp [Fq]
 | (k,x)::r=>by
  have ih:=ZFz f v r
  rw [show Fq f v ((k,x)::r)=(if k=f then (k,v)::r else (k,x)::Fq f v r) from rfl]
  by_cases hk:k=f
  ·rw [if_pos hk,zP,zP];lia
  ·rw [if_neg hk,zP,zP];lia
theorem RelO.some_of {o:Option x9} (r:RelO (some v) o):∃u,o=some u/\RelV v u:=by
 cases o with
 | none=>exact (show False from r).elim
 | some u=>exact ⟨u,rfl,r⟩
theorem RelO.none_of {o:Option x9} (r:RelO none o):o=none:=by
 cases o with
 | none=>rfl
 | some u=>exact (show False from r).elim
theorem ZJv (r:RelV v u):PySem.W.handedIn u=true:=by
 cases v with
 | non=>cases (show u=Value.none from r);rfl
 | bl b=>cases (show u=Value.bool b from r);rfl
 | int i=>obtain ⟨t,e⟩:=(show∃t,u=Value.int i t from r);cases e;rfl
 | str x=>obtain ⟨t,e⟩:=(show∃t,u=Value.str x t from r);cases e;rfl
 | byt b=>obtain ⟨t,e⟩:=(show∃t,u=Value.bytes b t from r);cases e;rfl
 | flt b=>obtain ⟨t,e⟩:=(show∃t,u=Value.float b t from r);cases e;rfl
 | ref a=>cases (show u=Value.ref a from r);rfl
 | ty n=>cases (show u=Value.type n from r);rfl
section
variable {P:xj} {w:xA} {H H':Hp} {h h':Heap} {a C dx:xW} {fs fs':List (Str×V)}
theorem ZAh (hok:HOk P w H h) (e:H a=some (.ins C dx fs)):∃mA,ObjM h a dx C mA/\(∀f,RelO (fs.lookup f) (mA f))/\PySem.Within mA (fs.map (·.1))/\fs.length<=1000/\H dx=some (.own a):=by
 obtain ⟨d,z,ne,ob,mA,n,r,q⟩:=(show ObjOk P w H h a (.ins C dx fs) from hok a _ e)
 exact ⟨mA,⟨ob,n,ne⟩,r,q,z,d⟩
end
structure Cls (K:PySem.W.Frag) (C:xW):Prop where
 pg:PySem.W.plainGet K C Str.empty=true
 hd:PySem.W.hasDictIn K C=true
 po:PySem.W.plainOver K C=true
 sa:PySem.W.findIn K (.ref C) "__setattr__"=some (some (.builtin "object.__setattr__"))
theorem Cls.get (c:Cls K C) (f:Str):PySem.W.plainGet K C f=true:=c.pg
noncomputable def NoAttr (K:PySem.W.Frag) (C:xW) (f:Str):Prop:=PySem.W.findIn K (.ref C) f=some none
theorem NoAttr.taker {f:Str} (n:NoAttr K C f):PySem.W.takerIn K C f=some none:=by
 unfold PySem.W.takerIn
 rw [show PySem.W.findIn K (.ref C) f=some none from n]
 rfl
structure Meth (K:PySem.W.Frag) (C:xW) (m:Str) (f:xW):Prop where
 at_:PySem.W.findIn K (.ref C) m=some (some (.ref f))
 fn:PySem.W.isFn K (.ref f)=true
 kp:PySem.W.keepIn K (.ref f)=true
section
variable {X:Cx} {vG:List (xW×Obj)} {σ:St} {H:Hp} {s:xk} {a C dx:xW} {fs:List (Str×V)} {f:Str} {v:V} {A:xK} {E:x9->xk->Prop}
theorem ZLv {b:Bool} {Q:x9->xk->Prop} (I:Inv X vG σ H s) (e:H a=some (.ins C dx fs)) (c:Cls X.K C) (n:NoAttr X.K C f) (l:fs.lookup f=some v)
  (h:∀u s',Inv X vG σ H s'->RelV v u->Q u s'):vj (vV X.prog X.w) A (getAttr (.ref a) f b) Q E s:=by
 obtain ⟨mA,O,r,_,_,_⟩:=ZAh I.hok e;obtain ⟨u,hu,ru⟩:=RelO.some_of (v:=v) (o:=mA f) (by rw [<-l];exact r f);exact ZMf I.kIn O (c.get f) c.hd n hu (ZJv ru) (h u _ (I.tok _) ru)
theorem ZGj {m:Str} {g:xW} {pl:Sem Bool} {Q:x9×List x9->xk->Prop} (I:Inv X vG σ H s) (e:H a=some (.ins C dx fs)) (c:Cls X.K C) (k:Meth X.K C m g) (l:fs.lookup m=none)
  (h:Q (.ref g,[.ref a]) s):vj (vV X.prog X.w) A (getMethod (.ref a) m pl) Q E s:=by
 obtain ⟨mA,O,r,_,_,_⟩:=ZAh I.hok e;have hn:mA m=none:=RelO.none_of (by rw [<-l];exact r m);exact ZLp I.kIn O (c.get m) k.at_ k.fn hn h
theorem ZLf (I:Inv X vG σ H s) (e:H a=some (.ins C dx fs)) (c:Cls X.K C) (n:NoAttr X.K C f) (hl:fs.length < 1000) (ry:RelV y u)
  (h:∀s',Inv X vG σ (upd H a (.ins C dx (Fq f y fs))) s'->Q () s'):vj (vV X.prog X.w) A (setAttr (.ref a) f u) Q E s:=by
 obtain ⟨mA,O,r,wi,_,ho⟩:=ZAh I.hok e
 have hz:(fs.map (·.1)).length<=sizeLine:=by rw [zG,vK];lia
 refine ZRh I.kIn O c.sa c.po n.taker c.hd wi hz λh' O' sb=>h _ ?_
 have hd:∃o,h'.get? dx=some o:=let ⟨o,_,_,e',_⟩:=O'.ns;⟨o,e'⟩;refine I.write (x:=a) (e:=dx) (by rw [e];exact True.intro) (.inr ho) (λb q hb z=>(sb.2 b hb).trans z) hd ?_;refine ⟨by rw [Bh O.ne];exact ho,?_,O.ne,O'.obj,_,O'.ns,λg=> ?_,λg hg=> ?_⟩
 ·have:=ZFz f y fs;lia
 ·show RelO ((Fq f y fs).lookup g) (if g=f then some u else mA g);rw [ZE9];by_cases q:g=f
  ·rw [if_pos q,if_pos q];exact ry
  ·rw [if_neg q,if_neg q];exact r g
 ·by_cases q:g=f
  ·rw [q];exact (ZCv f y fs).1
  ·refine (ZCv f y fs).2 g (wi g λz=>hg ?_);show (if g=f then some u else mA g)=none;rw [if_neg q];exact z
theorem Inv.made (I:Inv X vG σ H s):Inv X vG σ (upd (upd H s.heap.objs.size (.own (s.heap.objs.size + 1))) (s.heap.objs.size + 1) (.ins C s.heap.objs.size []))
  {s with heap:=(s.heap.push PySem.W.emptyDict).push (PySem.W.instObj C s.heap.objs.size)}:=by
 have e1:(s.heap.push PySem.W.emptyDict).get? s.heap.objs.size=some PySem.W.emptyDict:=z9 s.heap rfl;have e2:((s.heap.push PySem.W.emptyDict).push (PySem.W.instObj C s.heap.objs.size)).get? (s.heap.objs.size + 1)=some (PySem.W.instObj C s.heap.objs.size):=by have:=z9 (s.heap.push PySem.W.emptyDict) (o:=PySem.W.instObj C s.heap.objs.size) rfl;rwa [qk] at this
 have e3:(s.heap.push PySem.W.emptyDict).Ns s.heap.objs.size (λ_=>none):=⟨PySem.W.emptyDict,#[],_,e1,rfl,(λe he=>absurd he (by simp)),λ_=>rfl⟩;have I1:=I.laid (a:=s.heap.objs.size) (o:=.own (s.heap.objs.size + 1)) (h':=s.heap.push PySem.W.emptyDict) (t':=s.toks) (λb u q=>zJ _ q) (zK _) ⟨_,e1⟩;refine I1.laid (a:=s.heap.objs.size + 1) (o:=.ins C s.heap.objs.size []) (t':=s.toks) (λb u q=>zJ _ q) (Nat.le_of_eq (qk _ _)) ?_
 have ne:s.heap.objs.size≠s.heap.objs.size + 1:=zD (qW _);refine ⟨by rw [Bh ne,Gh],jL _,ne,e2,λ_=>none,(Heap.Ns1.of_empty e3).at λo q=>zJ _ q,λ_=>True.intro,λy hy=>absurd rfl hy⟩
theorem ZRK {prog:xj} {env:Env} {f:Str} {pos:Pos} {Q:x9->xk->Prop} (hb:xC e f env (eval e env)=eval e env)
  (h:vj (vV prog w) A (eval e env) (λo s₁=>vj (vV prog w) A (getAttr o f true) Q E s₁) E s):vj (vV prog w) A (eval (.Attribute e f pos) env) Q E s:=
 Attribute_any_ h (by rw [arm_eval_Attribute,hb])
end
noncomputable def tFld (K:PySem.W.Frag) (ta:TE) (f:Str):TE:=λσ H Q=>ta σ H λx H1=>∃a C dx fs v,x=.ref a/\H1 a=some (.ins C dx fs)/\Cls K C/\NoAttr K C f/\fs.lookup f=some v/\Q v H1
noncomputable def sFld (K:PySem.W.Frag) (ta tv:TE) (f:Str):TS:=λD σ H=>tv σ H λy H1=>ta σ H1 λx H2=>∃a C dx fs,x=.ref a/\H2 a=some (.ins C dx fs)/\Cls K C/\NoAttr K C f/\fs.length < 1000/\
 D.nx σ (upd H2 a (.ins C dx (Fq f y fs)))
section
variable {X:Cx} {o e value:xY} {f:Str} {pos pos' tpos:Pos} {ta tv:TE}
theorem ZOW (he:PE X e ta) (hb:xC e f X.env (eval e X.env)=eval e X.env):PE X (.Attribute e f pos) (tFld X.K ta f):=by intro vG s σ H Q I h;refine ZRK hb (thn (he vG s σ H _ I h) λu s1 ⟨x,H1,I1,rx,a,C,dx,fs,v,ex,ea,c,n,l,q⟩=> ?_);subst ex;obtain rfl:u=Value.ref a:=rx;exact ZLv I1 ea c n l λu' s2 I2 ru=>⟨v,H1,I2,ru,q⟩
theorem ZP7 (ha:PE X o ta) (hv:PE X value tv) (hs:swapsWith value (some (.Attribute o f pos')) pos.line X.env=pure false):PS X (.Assign [.Attribute o f pos'] value pos) (sFld X.K ta tv f):=by intro vG s σ H D I h;refine plainObj_wpAny_Assign_Attribute (thn (hv vG s σ H _ I h) λu s1 ⟨y,H1,I1,ry,q⟩=>thn (ha vG s1 σ H1 _ I1 q) λov s2 ⟨x,H2,I2,rx,a,C,dx,fs,ex,ea,c,n,l,q2⟩=> ?_) hs;subst ex;obtain rfl:ov=Value.ref a:=rx;exact ZLf I2 ea c n l ry λs3 I3=>⟨σ,_,I3,q2⟩
end
section
variable {X:Cx} {vG:List (xW×Obj)} {σ:St} {H:Hp} {s:xk} {A:xK} {E:x9->xk->Prop} {Q:x9->xk->Prop} {c:x9} {b:Bool}
end
structure Room (k:Nat) (A:xK):Prop where
 hd:A.handled=none
 dp:A.depth + 3 * k + 5 < recursionLimit
 un:A.units + 16 * k + 200 < cLine
theorem Room.mono {j:Nat} (r:Room k A) (h:j<=k):Room j A:=⟨r.hd,by have:=r.dp;lia,by have:=r.un;lia⟩
theorem Room.deeper (r:Room (k + 1) A) (env:Env):Room k (A.deeper env):=
 ⟨r.hd,by have:=r.dp;show A.depth + 1 + 3 * k + 5 < _;lia,by have:=r.un;show A.units + 3 + 16 * k + 200 < _;lia⟩
theorem ZRm:(A.under (.builtin "type.__call__" ⟨.ref C::us,kw⟩)).depth=A.depth + 1:=by
 first | rfl | simp [Around.under,Code.weight,Code.isCreation,Code.isGuard,Code.isCaller,Code.frames,Code.isFrame,guardIds]
theorem ZQi:(A.under (.builtin "type.__call__" ⟨.ref C::us,kw⟩)).units=A.units + 1:=by
 first | rfl | simp [Around.under,Code.cUnits,Code.frames,Code.isFrame]
theorem Room.make (r:Room (k + 1) A) (C:xW) (us:List x9) (kw:List (Str×x9)):Room k (A.under (.builtin "type.__call__" ⟨.ref C::us,kw⟩)):=
 ⟨r.hd,by have:=r.dp;rw [ZRm];lia,by have:=r.un;rw [ZQi];lia⟩
theorem Room.depth (r:Room k A):A.depth < recursionLimit:=by have:=r.dp;lia
theorem Room.units (r:Room k A):A.units + 64 < cLine:=by have:=r.un;lia
def Ws:TA:=λ_ H Q=>Q [] H
def ZDV (ta:TE) (tr:TA):TA:=λσ H Q=>ta σ H λx H1=>tr σ H1 λxs H2=>Q (x::xs) H2
section
variable {X:Cx} {e:xY} {es:List xY} {te:TE} {t:TA} {pos:Pos}
theorem ZJ2:PA X [] Ws:=λ_ _ _ _ H Q I h=>Calls.spliced_nil ⟨[],H,I,.nil,h⟩
theorem ZKT (ha:PE X e te) (hr:PA X es t) (hs:vq (e::es) X.env=(false,eval e X.env)::vq es X.env:=by rfl):PA X (e::es) (ZDV te t):=by intro pos vG s σ H Q I h;rw [hs];show vj _ _ (spliced ((false,eval e X.env)::xD pos (vq es X.env))) _ _ s;refine Calls.spliced_cons (thn (ha vG s σ H _ I h) λu s1 ⟨x,H1,I1,r1,q1⟩=> ?_);exact thn (hr pos vG s1 σ H1 _ I1 q1) λus s2 ⟨xs,H2,I2,r2,q2⟩=>⟨x::xs,H2,I2,.cons r1 r2,q2⟩
noncomputable def tTup (t:TA):TE:=λσ H Q=>t σ H λxs H1=>xs.length<=sizeLine/\∀p,H1 p=none->Q (.ref p) (upd H1 p (.tup xs))
noncomputable def tLst (t:TA):TE:=λσ H Q=>t σ H λxs H1=>xs.length<=sizeLine/\∀p,H1 p=none->Q (.ref p) (upd H1 p (.lst xs))
theorem ZRO {x1} (h:PA X es t):PE X (.Tuple es x1 pos) (tTup t):=by intro vG s σ H Q I hq;refine wpAny_Tuple_spliced (thn (h pos vG s σ H _ I hq) λus s1 ⟨xs,H1,I1,r,z,q⟩=>⟨by rw [<-r.length];exact z,?_⟩);have hf:H1 s1.heap.objs.size=none:=I1.hok.fresh (zK _);refine ⟨.ref s1.heap.objs.size,upd H1 s1.heap.objs.size (.tup xs),I1.laid (t':=s1.toks) (λb u e=>zJ _ e) (zK _) ?_,rfl,q _ hf⟩;exact ⟨z,us,r,⟨_,z9 _ rfl,rfl,_,rfl⟩⟩
theorem ZRo (h:PA X es t):PE X (.List es pos) (tLst t):=by intro vG s σ H Q I hq;refine wpAny_List_spliced (thn (h pos vG s σ H _ I hq) λus s1 ⟨xs,H1,I1,r,z,q⟩=>⟨by rw [<-r.length];exact z,?_⟩);have hf:H1 s1.heap.objs.size=none:=I1.hok.fresh (zK _);refine ⟨.ref s1.heap.objs.size,upd H1 s1.heap.objs.size (.lst xs),I1.laid (t':=s1.toks) (λb u e=>zJ _ e) (zK _) ?_,rfl,q _ hf⟩;exact ⟨z,us,0,r,z9 _ rfl⟩
end
abbrev Sp:=List V->Hp->VK->XK->Prop
abbrev CXT:=List Env->Hp->xk->XK->x9->xk->Prop
structure Env0 (P:xj) (w:xA) (K:PySem.W.Frag) (mg:Str->Option x9) (base:Heap) (A:xK) (outer:List Env) (s:xk) (H:Hp):Prop where
 frames:A.frames=some outer
 mod:Mod K mg base
 bs:∀b o,base.get? b=some o->s.heap.get? b=some o/\H b=none
 bsz:base.objs.size<=s.heap.objs.size
 funs:s.heap.FunFrames base outer
 frf:∀b∈frs outer,H b=none
 hok:HOk P w H s.heap
 bare:AllBare s.gens
noncomputable def CE (outer:List Env) (P:xj) (w:xA) (H:Hp) (s:xk) (Q:VK) (u:x9) (s':xk):Prop:=
 ∃v H',s'.os=s.os/\AllBare s'.gens/\Un (frs outer) [] H H' s.heap s'.heap/\HOk P w H' s'.heap/\RelV v u/\Q v H'
noncomputable def CR (CX:CXT) (outer:List Env) (P:xj) (w:xA) (H:Hp) (s:xk) (Q:VK) (E:XK) (r:Result) (s':xk):Prop:=
 match r with
 | .ok (.ret u)=>CE outer P w H s Q u s'
 | .ok _=>False
 | .error e=>CX outer H s E e s'
structure FnOk (P:xj) (w:xA) (K:PySem.W.Frag) (mg:Str->Option x9) (base:Heap) (CX:CXT) (k:Nat) (f:xW) (fd:xq) (ps:List Str) (sp:Sp):Prop where
 len:∀vs H Q E,sp vs H Q E->vs.length=ps.length
 run:∀(A:xK) (outer:List Env) (s:xk) (H:Hp) (args:Args) (us:List x9) (vs:List V) (Q:VK) (E:XK),Room k A->Env0 P w K mg base A outer s H->BindsTo s fd args (ps.zip us)->Vals vs us->sp vs H Q E->
  codeAny (vV P w) A (.call (.ref f) args) (CR CX outer P w H s Q E) s
theorem Env0.make {outer:List Env} (e:Env0 P w K mg base A outer s H) (C:xW) (us:List x9) (kw:List (Str×x9)):
  Env0 P w K mg base (A.under (.builtin "type.__call__" ⟨.ref C::us,kw⟩)) outer s H:=⟨by first | exact e.frames | (simpa [Around.under,Code.envs,Code.isFrame,pushEnvs] using e.frames),e.mod,e.bs,e.bsz,e.funs,e.frf,e.hok,e.bare⟩
section
variable {X:Cx} {vG:List (xW×Obj)} {σ:St} {H:Hp} {s s':xk}
theorem Inv.env0 (I:Inv X vG σ H s):Env0 X.prog X.w X.K X.mg X.base X.A X.stack s H:=
 ⟨I.ok.frames,I.ok.mod,I.bs,zB I.ok.bsz I.sz,I.stack,I.ZGs,I.hok,I.bare⟩
theorem Inv.after {Q:VK} (I:Inv X vG σ H s) (h:CE X.stack X.prog X.w H s Q u s'):EP X vG σ Q u s':=by obtain ⟨v,H',os,bare,un,hok,r,q⟩:=h;obtain ⟨hh,g,d,t,os'⟩:=s';obtain rfl:os'=s.os:=os;exact ⟨v,H',I.call (h':=hh) (g':=g) (d':=d) (t':=t) (ch:= []) un hok bare (λb z=>absurd z (by simp)),r,q⟩
end
noncomputable def ZK7 (sp:Sp) (dvs:List V) (E:XK) (t:TA):TE:=λσ H Q=>t σ H λvs H1=>sp (vs++dvs) H1 Q E
noncomputable def ZCo (C:xW) (m:Str) (sp:Sp) (dvs:List V) (E:XK) (ta:TE) (t:TA):TE:=λσ H Q=>ta σ H λx H1=>∃a dx fs,x=.ref a/\H1 a=some (.ins C dx fs)/\fs.lookup m=none/\
 t σ H1 λvs H2=>sp (x::(vs++dvs)) H2 Q E
noncomputable def ZNQ (C:xW) (sp:Sp) (dvs:List V) (E:XK) (t:TA):TE:=λσ H Q=>t σ H λvs H1=>∀x dx,H1 x=none->H1 dx=none->dx≠x->
 sp (.ref x::(vs++dvs)) (upd (upd H1 dx (.own x)) x (.ins C dx [])) (λv H2=>v=.non/\Q (.ref x) H2) E
noncomputable def Binds (K:PySem.W.Frag) (fd:xq) (ps:List Str) (ds:List x9):Prop:=
 ∀(s:xk) (us:List x9),K.In s.heap->(us++ds).length=ps.length->BindsTo s fd ⟨us,[]⟩ (ps.zip (us++ds))
theorem Binds.all {fd:xq} {ps:List Str} (h:∀us:List x9,us.length=ps.length->bindArgs fd ⟨us,[]⟩=pure (ps.zip us)):Binds K fd ps []:=λs us _ hl=>by rw [q8] at hl ⊢;exact .of_eq (h us hl)
noncomputable def Passes (CX:CXT) (X:Cx) (E:XK):Prop:=∀(vG:List (xW×Obj)) (σ:St) (H:Hp) (s:xk) (e:x9) (s':xk),Inv X vG σ H s->CX X.stack H s E e s'->X.xe e s'
section
variable {X:Cx} {CX:CXT} {k:Nat} {f C:xW} {fd:xq} {ps:List Str} {sp:Sp} {dvs:List V} {ds:List x9} {E:XK} {x m:Str} {p pos apos:Pos} {e o:xY} {es:List xY} {ta:TE} {t:TA}
theorem ZCm {Q:VK} (F:FnOk X.prog X.w X.K X.mg X.base CX k f fd ps sp) (hr:Room k X.A) (hb:Binds X.K fd ps ds) (hd:Vals dvs ds) (hx:Passes CX X E)
  (I:Inv X vG σ H s) (r:Vals vs us) (h:sp (vs++dvs) H Q E):vj (vV X.prog X.w) X.A (call (.ref f) us) (EP X vG σ Q) X.xe s:=by
 have r2:Vals (vs++dvs) (us++ds):=r.append hd;have hl:(us++ds).length=ps.length:=by rw [<-r2.length];exact F.len _ _ _ _ h
 refine wpAny_call (xM (F.run X.A X.stack s H ⟨us,[]⟩ (us++ds) (vs++dvs) Q E hr I.env0 (hb s us I.kIn hl) r2 h) λr s' hq=> ?_);cases r with
 | error e=>exact hx vG σ H s e s' I hq
 | ok fl=>
  cases fl with
  | ret u=>exact I.after hq
  | next=>exact False.elim hq
  | brk=>exact False.elim hq
  | cont=>exact False.elim hq
theorem ZOE (F:FnOk X.prog X.w X.K X.mg X.base CX k f fd ps sp) (hr:Room k X.A) (hg:Gl X x) (hm:X.mg x=some (.ref f)) (hk:PySem.W.keepIn X.K (.ref f)=true) (hb:Binds X.K fd ps ds) (hd:Vals dvs ds) (hx:Passes CX X E)
  (ha:PA X (e::es) t) (hdb:(x == ("__debug__":Str))=false:=by decide) (he:vq (e::es) X.env=(false,eval e X.env)::vq es X.env:=by rfl) (hpl:(xD pos (vq es X.env)).any (·.1)=false:=by rfl):
  PE X (.Call (.Name x p) (e::es) [] pos) (ZK7 sp dvs E t):=by
 intro vG s σ H Q I h;refine vx (ZD9 I hg hm ?_ hdb);refine PySem.W.callWith_K (h₀:=X.base) I.ok.mod.kin hk (thn (ha pos vG s σ H _ I h) λus s1 ⟨vs,H1,I1,r,q⟩=>⟨I1.kIn,?_⟩) he hpl;exact ZCm F hr hb hd hx I1 r q
theorem ZN8 {pl:Sem Bool} (he:PE X o ta) (c:Cls X.K C) (hm:Meth X.K C m f) (F:FnOk X.prog X.w X.K X.mg X.base CX k f fd ps sp) (hr:Room k X.A) (hb:Binds X.K fd ps ds) (hd:Vals dvs ds) (hx:Passes CX X E) (ha:PA X (e::es) t)
  (hst:vq (e::es) X.env=(false,eval e X.env)::vq es X.env:=by rfl) (hpl:(xD pos (vq es X.env)).any (·.1)=false:=by rfl)
  (ht:eval (.Call (.Attribute o m apos) (e::es) [] pos) X.env=(do
   let ov<-eval o X.env
   standAt apos.atName
   let (f,first)<-holding [ov] (getMethod ov m pl)
   callWith pos f first (xD pos (vq (e::es) X.env)) (xE pos (vZ [] X.env))):=by rfl):
  PE X (.Call (.Attribute o m apos) (e::es) [] pos) (ZCo C m sp dvs E ta t):=by
 intro vG s σ H Q I h;refine PySem.W.methodCall_KW (pl:=pl) (thn (he vG s σ H _ I h) λu s1 ⟨x,H1,I1,rx,a,dx,fs,ex,ea,l,q⟩=> ?_) ht;subst ex;obtain rfl:u=Value.ref a:=rx;refine ZGj I1 ea c hm l ?_
 refine PySem.W.callWith_K (first:= [.ref a]) (h₀:=X.base) I.ok.mod.kin hm.kp (thn (ha pos vG s1 σ H1 _ I1 q) λus s2 ⟨vs,H2,I2,r,q2⟩=>⟨I2.kIn,?_⟩) hst hpl
 exact ZCm (us:=.ref a::us) (vs:=.ref a::vs) F hr hb hd hx I2 (.cons rfl r) q2
theorem ZKq {pl:Sem Bool} (he:PE X o ta) (c:Cls X.K C) (hm:Meth X.K C m f) (F:FnOk X.prog X.w X.K X.mg X.base CX k f fd ps sp) (hr:Room k X.A) (hb:Binds X.K fd ps ds) (hd:Vals dvs ds) (hx:Passes CX X E)
  (ht:eval (.Call (.Attribute o m apos) [] [] pos) X.env=(do
   let ov<-eval o X.env
   standAt apos.atName
   let (f,first)<-holding [ov] (getMethod ov m pl)
   callWith pos f first (xD pos (vq [] X.env)) (xE pos (vZ [] X.env))):=by rfl):
  PE X (.Call (.Attribute o m apos) [] [] pos) (ZCo C m sp dvs E ta Ws):=by
 intro vG s σ H Q I h;refine PySem.W.methodCall_KW (pl:=pl) (thn (he vG s σ H _ I h) λu s1 ⟨x,H1,I1,rx,a,dx,fs,ex,ea,l,q⟩=> ?_) ht;subst ex;obtain rfl:u=Value.ref a:=rx;refine ZGj I1 ea c hm l ?_
 exact PySem.W.callWith_K0 (first:= [.ref a]) I1.kIn hm.kp (ZCm (us:= [.ref a]) (vs:= [.ref a]) F hr hb hd hx I1 (.cons rfl .nil) q)
structure Mk (K:PySem.W.Frag) (C f:xW):Prop where
 makes:PySem.W.makesIn K C=true
 init:PySem.W.findIn K (.ref C) "__init__"=some (some (.ref f))
 fn:PySem.W.isFn K (.ref f)=true
 kp:PySem.W.keepIn K (.ref C)=true
theorem ZNw {Q:VK} (M:Mk X.K C f) (F:FnOk X.prog X.w X.K X.mg X.base CX k f fd ps sp) (hr:Room (k + 1) X.A) (hb:Binds X.K fd ps ds) (hd:Vals dvs ds)
  (hx:Passes CX X E) (I:Inv X vG σ H s) (r:Vals vs us)
  (h:∀x dx,H x=none->H dx=none->dx≠x->sp (.ref x::(vs++dvs)) (upd (upd H dx (.own x)) x (.ins C dx [])) (λv H2=>v=.non/\Q (.ref x) H2) E):
  vj (vV X.prog X.w) X.A (call (.ref C) us) (EP X vG σ Q) X.xe s:=by
 have hq:=h (s.heap.objs.size + 1) s.heap.objs.size (I.hok.fresh (j5 _)) (I.hok.fresh (zK _)) (zD (qW _));have I2:=Inv.made (C:=C) I;have r2:Vals (V.ref (s.heap.objs.size + 1)::(vs++dvs)) (Value.ref (s.heap.objs.size + 1)::(us++ds)):=.cons rfl (r.append hd);have hl:(Value.ref (s.heap.objs.size + 1)::us++ds).length=ps.length:=by have e:=r2.length;rw [F.len _ _ _ _ hq] at e;exact e.symm
 refine wpAny_call (ZOf (f:=f) I.kIn M.makes M.init (beq_iff_eq.mp M.fn) (xM (F.run _ X.stack _ _ ⟨Value.ref (s.heap.objs.size + 1)::us,[]⟩ (Value.ref (s.heap.objs.size + 1)::(us++ds)) _ _ E (hr.make C us [])
  (I2.env0.make C us []) (hb _ (Value.ref (s.heap.objs.size + 1)::us) I2.kIn hl) r2 hq) λr s' hq'=> ?_))
 cases r with
 | error e=>exact hx vG σ _ _ e s' I2 hq'
 | ok fl=>
  cases fl with
  | ret u=>
   obtain ⟨v,H',I3,rv,ev,q3⟩:=I2.after hq';subst ev;exact ⟨rv,⟨V.ref (s.heap.objs.size + 1),H',I3,rfl,q3⟩⟩
  | next=>exact False.elim hq'
  | brk=>exact False.elim hq'
  | cont=>exact False.elim hq'
theorem ZKC (M:Mk X.K C f) (F:FnOk X.prog X.w X.K X.mg X.base CX k f fd ps sp) (hr:Room (k + 1) X.A) (hg:Gl X x) (hm:X.mg x=some (.ref C)) (hb:Binds X.K fd ps ds) (hd:Vals dvs ds) (hx:Passes CX X E)
  (ha:PA X (e::es) t) (hdb:(x == ("__debug__":Str))=false:=by decide) (he:vq (e::es) X.env=(false,eval e X.env)::vq es X.env:=by rfl) (hpl:(xD pos (vq es X.env)).any (·.1)=false:=by rfl):
  PE X (.Call (.Name x p) (e::es) [] pos) (ZNQ C sp dvs E t):=by
 intro vG s σ H Q I h;refine vx (ZD9 I hg hm ?_ hdb);refine PySem.W.callWith_K (h₀:=X.base) I.ok.mod.kin M.kp (thn (ha pos vG s σ H _ I h) λus s1 ⟨vs,H1,I1,r,q⟩=>⟨I1.kIn,?_⟩) he hpl;exact ZNw M F hr hb hd hx I1 r q
end
noncomputable def PK (X:Cx) (kws:List Keyword) (t:TA):Prop:=
 ∀(pos:Pos) (vG:List (xW×Obj)) (s:xk) (σ:St) (H:Hp) (Q:List V->Hp->Prop),Inv X vG σ H s->t σ H Q->vj (vV X.prog X.w) X.A (evalAll ((xE pos (vZ kws X.env)).map (·.2))) (AP X vG σ Q) X.xe s
section
variable {X:Cx} {CX:CXT} {k:Nat} {f C:xW} {fd:xq} {ps ks:List Str} {sp:Sp} {E:XK} {x m:Str} {p pos apos kpos:Pos} {e o:xY} {es:List xY} {kws:List Keyword} {te ta:TE} {t tk:TA} {nm:Option Str}
theorem ZMG:PK X [] Ws:=λ_ _ _ _ H Q I h=>wpAny_evalAll_nil ⟨[],H,I,.nil,h⟩
theorem ZOH (ha:PE X e te) (hr:PK X kws t):PK X (⟨nm,e,kpos⟩::kws) (ZDV te t):=by
 intro pos vG s σ H Q I h
 show vj _ _ (evalAll ((do let v<-eval e X.env;standAt pos;pure v)::(xE pos (vZ kws X.env)).map (·.2))) _ _ s
 refine wpAny_evalAll_cons (vv (thn (ha vG s σ H _ I h) λu s1 ⟨x,H1,I1,r1,q1⟩=>vv (wpAny_standAt (vA ?_))));exact thn (hr pos vG s1 σ H1 _ I1 q1) λus s2 ⟨xs,H2,I2,r2,q2⟩=>⟨x::xs,H2,I2,.cons r1 r2,q2⟩
variable {g:List x9->List x9->List x9} {gV:List V->List V->List V}
end
structure FnScope (N P:List Str) (sc:xw):Prop where
 kind:sc.kind=.function
 co:sc.isCoroutine=false
 gen:sc.isGenerator=false
 nd:N.Nodup
 pre:N.take P.length=P
 par:∀x∈P,sc.names.lookup x=some .local∨sc.names.lookup x=some .cell
 nofree:∀y∈sc.names,y.2≠ .free
theorem ZEh:∀{binds:List (Str×x9)} {m:Str->Option x9},(∀v,(x,v) ∉ binds)->bindL kindOf binds m x=m x
 | [],_,_=>rfl
 | (n,v)::r,m,h=>by
  unfold bindL;rw [ZEh λw hw=>h w (zZ _ hw)];split
  ·have:x≠n:=by rintro rfl;exact h v zV
   simp [this]
  ·rfl
theorem ZGp:∀{binds:List (Str×x9)} {m:Str->Option x9},(∀v,(x,v) ∉ binds)->bindC kindOf binds m x=m x
 | [],_,_=>rfl
 | (n,v)::r,m,h=>by
  unfold bindC;rw [ZGp λw hw=>h w (zZ _ hw)];split
  ·rfl
  ·have:x≠n:=by rintro rfl;exact h v zV
   simp [this]
theorem ZGh {v:x9}:∀{P:List Str} {vs:List x9} {i:Nat} {m:Str->Option x9},P.Nodup->P[i]? =some x->vs[i]? =some v->kindOf x=some .local->
  bindL kindOf (P.zip vs) m x=some v
 | [],_,_,_,_,h,_,_=>by simp at h
 | _::_,[],_,_,_,_,h,_=>by simp at h
 | p::P,w::vs,0,m,nd,h1,h2,hk=>by simp at h1 h2;subst h1;subst h2;show bindL kindOf ((p,w)::P.zip vs) m p=_;unfold bindL;rw [ZEh λv hv=>(qD.mp nd).1 (List.of_mem_zip hv).1,if_pos hk];simp
 | p::P,w::vs,i + 1,m,nd,h1,h2,hk=>by show bindL kindOf ((p,w)::P.zip vs) m x=_;unfold bindL;exact ZGh (i:=i) (qD.mp nd).2 (by simpa using h1) (by simpa using h2) hk
theorem ZFR {v:x9}:∀{P:List Str} {vs:List x9} {i:Nat} {m:Str->Option x9},P.Nodup->P[i]? =some x->vs[i]? =some v->kindOf x≠some .local->
  bindC kindOf (P.zip vs) m x=some v
 | [],_,_,_,_,h,_,_=>by simp at h
 | _::_,[],_,_,_,_,h,_=>by simp at h
 | p::P,w::vs,0,m,nd,h1,h2,hk=>by simp at h1 h2;subst h1;subst h2;show bindC kindOf ((p,w)::P.zip vs) m p=_;unfold bindC;rw [ZGp λv hv=>(qD.mp nd).1 (List.of_mem_zip hv).1,if_neg hk];simp
 | p::P,w::vs,i + 1,m,nd,h1,h2,hk=>by show bindC kindOf ((p,w)::P.zip vs) m x=_;unfold bindC;exact ZFR (i:=i) (qD.mp nd).2 (by simpa using h1) (by simpa using h2) hk
noncomputable def start (N:List Str) (vs:List V):St:=vs.map some++zC (N.length - vs.length) none
noncomputable def Ng (CX:CXT) (P:xj) (w:xA) (K:PySem.W.Frag) (mg:Str->Option x9) (base:Heap) (N:List Str) (qual:Str) (scope:xw) (f:xW) (cd:x9) (A:xK) (outer:List Env) (s:xk) (H:Hp) (E:XK):Cx where
 prog:=P
 w:=w
 K:=K
 mg:=mg
 base:=base
 A:=A.deeper (envOfC qual scope s.heap.objs.size f cd)
 N:=N
 s₀:=s
 H₀:=H
 env:=envOfC qual scope s.heap.objs.size f cd
 outer:=outer
 stack:=envOfC qual scope s.heap.objs.size f cd::outer
 ex:= []
 calm:=true
 fn:=λ_=>true
 pn:= []
 xe:=λe s'=>vj (vV P w) (A.deeper (envOfC qual scope s.heap.objs.size f cd)) (leaving (envOfC qual scope s.heap.objs.size f cd) e) (λ_ s''=>CX outer H s E e s'') (λe' s''=>CX outer H s E e' s'') s'
theorem ZHP {sc:xw} {n:Nat} (h:sc.names.lookup x=some .cell):∃c,(cellsFrom n sc.names []).lookup x=some c:=by have q:=PySem.W.cellsFrom_some sc.names n [] (.inl h);exact jv.mp q
theorem ZLn {CX:CXT} {N ps:List Str} {qual:Str} {scope:xw} {f:xW} {cd:x9} {outer:List Env} {s1:xk} {E:XK} 
  (S:FnScope N ps scope) (hd:A.handled=none) (e0:Env0 P w K mg base A outer s H) (hl:vs.length=ps.length) (r:Vals vs us)
  (x:InCallC s s.heap.objs.size (bindL (envOfC qual scope s.heap.objs.size f cd).kindOf (ps.zip us) λ_=>none) (cellsFrom (s.heap.objs.size + 1) scope.names []) (bindC (envOfC qual scope s.heap.objs.size f cd).kindOf (ps.zip us) λ_=>none) s1):
  Inv (Ng CX P w K mg base N qual scope f cd A outer s H E) [] (start N vs) H s1:=by
 have hpl:ps.length<=N.length:=by have:=congrArg List.length S.pre;rw [j0] at this;lia
 obtain ⟨h1,tk,rfl,hk⟩:=x.done
 have noA:∀b:xW,b ∉ (Ng CX P w K mg base N qual scope f cd A outer s H E).ex:=λb z=>absurd (show b∈([]:List xW) from z) (by simp)
 refine ⟨⟨e0.mod,S.kind,rfl,rfl,zK _,λy z c h1 h2=> ?_,λy hy=> ?_,λy c _ h=> ?_,λ_=>hd,Around.frames_deeper e0.frames,.inr ⟨rfl,rfl⟩,λb z=>absurd z (noA b),e0.bs,e0.bsz,λb _ _=>noA b,λb z=>absurd z (noA b),e0.funs,e0.frf⟩,
  rfl,e0.bare,Un.kept hk,⟨_,x.toInCall.ns,λi y v h1 h2 h3=> ?_⟩,λy c h=>⟨_,x.cell y c h⟩,e0.hok.fresh (zK _),λy c h=> ?_,λp hp=>absurd (show p∈([]:List (xW×Obj)) from hp) (by simp),e0.hok.kept hk,?_⟩
 ·exact name_of_addr x.apart (PySem.mem_of_lookup h1) (PySem.mem_of_lookup h2)
 ·have hy:scope.names.lookup y=some .cell∨scope.names.lookup y=some .free:=hy;rcases hy with hy | hy
  ·exact ZHP hy
  ·exact absurd rfl (S.nofree _ (PySem.mem_of_lookup hy))
 ·exact Nat.le_of_lt (x.above y c (PySem.mem_of_lookup h))
 ·have hi:i < vs.length:=by
   unfold start at h2;by_cases hi:i < vs.length
   ·exact hi
   ·rw [zH (by simpa using hi)] at h2;rw [jZ] at h2
    split at h2 <;> cases h2
  have ha:vs[i]? =some v:=by
   unfold start at h2;rw [zT (by simpa using hi),zk] at h2;cases e:vs[i]? with
   | none=>rw [e] at h2;cases h2
   | some a=>rw [e] at h2;cases h2;rfl
  obtain ⟨u,hu,rv⟩:=r.get ha;have hp:ps[i]? =some y:=by rw [<-S.pre,jk (by lia)];exact h1
  have ndP:ps.Nodup:=by rw [<-S.pre];exact S.nd.sublist (List.take_sublist _ _)
  refine ⟨u,rv,?_⟩;rcases S.par y (List.mem_of_getElem? hp) with k | k
  ·exact .inl ⟨k,ZGh ndP hp hu k⟩
  ·obtain ⟨c,e⟩:=ZHP (n:=s.heap.objs.size + 1) k;refine .inr ⟨.inl k,c,e,?_⟩;have q:=x.cell y c e;rw [ZFR ndP hp hu (by show scope.names.lookup y≠_;rw [k];decide)] at q;exact q
 ·exact e0.hok.fresh (Nat.le_of_lt (x.above y c (PySem.mem_of_lookup h)))
 ·unfold start;show _=N.length;rw [qQ,zG,jM];lia
theorem ZQN {CX:CXT} {f:xW} {name qual:Str} {params:Arguments} {scope:xw} {dV kV doc pm cdv ct oc:x9} {an od:Option xW}
  {osl:Array (Option x9)} {N ps:List Str} {sp:Sp} (lk:K.lookup f=some ⟨oc,od,.func (PySem.W.fnOf name qual params body scope dV kV doc pm an cdv ct),osl⟩) (hcd:PySem.W.codeIn K cdv qual=true) (S:FnScope N ps scope)
  (len:∀vs H Q E,sp vs H Q E->vs.length=ps.length)
  (hbody:∀(A:xK) (outer:List Env) (s:xk) (H:Hp) (vs:List V) (Q:VK) (E:XK),Room k (A.deeper (envOfC qual scope s.heap.objs.size f cdv))->sp vs H Q E->
   ∃t,PSs (Ng CX P w K mg base N qual scope f cdv A outer s H E) body t/\t {nx:=λ_ H'=>Q .non H',rt:=Q} (start N vs) H):
  FnOk P w K mg base CX (k + 1) f (PySem.W.fnOf name qual params body scope dV kV doc pm an cdv ct) ps sp:=by
 refine ⟨len,λA outer s H args us vs Q E hr e0 hb r hsp=> ?_⟩;have hl:=len _ _ _ _ hsp;have KX:K.In s.heap:=e0.mod.kin.keeps λb o e=>(e0.bs b o e).1
 have lim:s.heap.NoLimit:=e0.mod.nolimit.keeps λb o e=>(e0.bs b o e).1
 have hkind:∀y∈ps.zip us,scope.names.lookup y.1=some .local∨(scope.names.lookup y.1=some .cell/\((cellsFrom (s.heap.objs.size + 1) scope.names []).lookup y.1).isSome=true):=λ⟨n,v⟩ hy=>by
  rcases S.par n (List.of_mem_zip hy).1 with q | q
  ·exact .inl q
  ·exact .inr ⟨q,PySem.W.cellsFrom_some _ _ _ (.inl q)⟩
 refine codeAny_call_function hr.depth (KX _ _ lk) rfl S.co S.gen rfl (PySem.W.codeRec_of KX hcd) (hb _ _ _ _ ?_);refine wpAny_newFunctionEnv_cells S.kind hkind λenv he s1 x=> ?_
 subst he;refine ⟨lim.keeps x.toInCall.keep,codeAny_func ?_⟩;obtain ⟨t,ht,hq⟩:=hbody A outer s H vs Q E (hr.deeper _) hsp;have I:Inv (Ng CX P w K mg base N qual scope f cdv A outer s H E) [] (start N vs) H s1:=ZLn S hr.hd e0 hl r x;refine v7 (ht [] s1 (start N vs) H _ I hq) (λfl s' hs=> ?_) λe s' hs=>hs
 have fin:∀{σ':St} {H':Hp} {v:V} {u:x9},Inv (Ng CX P w K mg base N qual scope f cdv A outer s H E) [] σ' H' s'->RelV v u->Q v H'->CE outer P w H s Q u s':=
  λ{σ' H' v u} J rv q=>⟨v,H',J.os,J.bare,J.base,J.hok,rv,q⟩
 cases fl with
 | ret u=>
  obtain ⟨v,σ',H',J,rv,q⟩:=hs;exact fin J rv q
 | next=>
  obtain ⟨σ',H',J,q⟩:=hs;exact fin (v:=V.non) (u:=Value.none) J rfl q
 | brk=>
  obtain ⟨_,_,_,q⟩:=hs;exact False.elim q
 | cont=>
  obtain ⟨_,_,_,q⟩:=hs;exact False.elim q
section
variable {X:Cx} {x:Str} {p pos:Pos} {e:xY} {es:List xY} {t:TA} {id T:String} {r:List V->Hp->VK->Prop}
def tCB (r:List V->Hp->VK->Prop) (t:TA):TE:=λσ H Q=>t σ H λvs H1=>r vs H1 Q
theorem ZQw (hc:CallR X (.builtin id) r) (hg:Gl X x) (hm:X.mg x=none) (hv:xH x=some (.builtin id)) (ha:PA X (e::es) t) (hn:x≠"__name__":=by decide) (hdb:(x == ("__debug__":Str))=false:=by decide)
  (he:vq (e::es) X.env=(false,eval e X.env)::vq es X.env:=by rfl) (hpl:(xD pos (vq es X.env)).any (·.1)=false:=by rfl):PE X (.Call (.Name x p) (e::es) [] pos) (tCB r t):=by
 intro vG s σ H Q I h;refine vx (J9 I hg hm hv ?_ hn hdb);exact PyProof.Rows.callWith_builtin1 (thn (ha pos vG s σ H _ I h) λus s1 ⟨vs,H1,I1,r1,q1⟩=>hc vG s1 σ H1 vs us Q I1 r1 q1) he hpl
theorem ZMe (hc:CallR X (.type T) r) (hg:Gl X x) (hm:X.mg x=none) (hv:xH x=some (.type T)) (ha:PA X (e::es) t) (hn:x≠"__name__":=by decide) (hdb:(x == ("__debug__":Str))=false:=by decide)
  (he:vq (e::es) X.env=(false,eval e X.env)::vq es X.env:=by rfl) (hpl:(xD pos (vq es X.env)).any (·.1)=false:=by rfl):PE X (.Call (.Name x p) (e::es) [] pos) (tCB r t):=by
 intro vG s σ H Q I h;refine vx (J9 I hg hm hv ?_ hn hdb);exact PyProof.Rows.callWith_type1 (thn (ha pos vG s σ H _ I h) λus s1 ⟨vs,H1,I1,r1,q1⟩=>hc vG s1 σ H1 vs us Q I1 r1 q1) he hpl
end
end L2
namespace HT
open PySem PyProof.Rows
section
open PySem.SeqAt
open PySem.AutoSeq1 (wpAny_loadPart')
open PySem.MeetsSeq PySem.MeetsSeq2 PySem.MeetsSeq3
end
section
variable {prog:xj} {w:xA} {A:xK} {E:x9->xk->Prop} {s:xk}
theorem ZRZ {t b:xW} {vs ws:List x9} {Q:x9->xk->Prop} (ht:IsTup s.heap t vs.toArray) (hb:IsTup s.heap b ws.toArray) (hv:vs≠ [])
  (h1:ws= []->Q (.ref t) s) (h2:ws≠ []->Q (.ref s.heap.objs.size) {s with heap:=s.heap.push {cls:=.type "tuple",data:=.seq (vs++ws).toArray}})
  (hsz:vs.length + ws.length<=sizeLine):vj (vV prog w) A (xG .Add (.ref t) (.ref b)) Q E s:=by
 obtain ⟨⟨cls,dd,data,sl⟩,ho,hc,n,hd⟩:=id ht;obtain ⟨⟨cls2,dd2,data2,sl2⟩,ho2,hc2,n2,hd2⟩:=id hb;simp only at hc hd hc2 hd2;subst hc hd hc2 hd2;have e:vs.toArray++ws.toArray=(vs++ws).toArray:=by simp
 by_cases hw:ws= []
 ·exact concat_meets ⟨_,ho,rfl⟩ ⟨_,ho2,rfl⟩ noFill_tuple_add seq_tuple_add PySem.F.slot_tuple_add PySem.F.entry_tuple_add (PySem.F.args_tuple_add_2 _ _)
   (tuple_addW1 t b vs.toArray ws.toArray n n2 dd dd2 sl sl2 (by simpa using hv) (by simp [hw])) ⟨ho,ho2,h1 hw⟩
 ·refine concat_meets ⟨_,ho,rfl⟩ ⟨_,ho2,rfl⟩ noFill_tuple_add seq_tuple_add PySem.F.slot_tuple_add PySem.F.entry_tuple_add (PySem.F.args_tuple_add_2 _ _)
   (tuple_addW2 t b vs.toArray ws.toArray n n2 dd dd2 sl sl2 (by simpa using hv) (by simpa using hw) (by rw [zY,zY];exact hsz)) ⟨ho,ho2,?_⟩
  rw [e];exact h2 hw
noncomputable def sIx (n d:Nat):Option Int->Nat
 | none=>d
 | some v=>if v < 0 then (v + (n:Int)).toNat else min v.toNat n
theorem ZHN (n d:Nat) (hd:d<=n) (o:Option Int):sIx n d o<=n:=by
 cases o with
 | none=>exact hd
 | some v=>
  show (if v < 0 then (v + (n:Int)).toNat else min v.toNat n)<=n;by_cases hv:v < 0
  ·rw [if_pos hv];lia
  ·rw [if_neg hv];exact Nat.min_le_right _ _
theorem ZF8 (v:Int) (n d:Nat):(if v < 0 then max (v + (n:Int)) 0 else min v (n:Int))=((sIx n d (some v):Nat):Int):=by
 show (if v < 0 then max (v + (n:Int)) 0 else min v (n:Int))=(((if v < 0 then (v + (n:Int)).toNat else min v.toNat n):Nat):Int);by_cases hv:v < 0
 ·simp only [if_pos hv];lia
 ·simp only [if_neg hv];lia
theorem ZMW (lo hi:Option Int) (n:Nat):Builtin.Slice.sliceAdjust lo hi 1 (n:Int)=(((sIx n 0 lo:Nat):Int),((sIx n n hi:Nat):Int)):=by
 have h1:¬((1:Int) < 0):=by lia
 unfold Builtin.Slice.sliceAdjust;simp only [h1,if_false];refine Prod.ext ?_ ?_
 ·cases lo with
  | none=>rfl
  | some v=>exact ZF8 v n 0
 ·cases hi with
  | none=>rfl
  | some v=>exact ZF8 v n n
theorem ZPb (i j:Nat):Builtin.Slice.slicePlaces (i:Int) (j:Int) 1=j - i:=by
 unfold Builtin.Slice.slicePlaces;have h1:(1:Int) > 0:=by lia
 simp only [h1,if_true,Int.ediv_one]
 split <;> lia
theorem ZH7 {v:x9} {o:Option Int} {Q:Option Int->xk->Prop} (p:IsPart v o) (h:Q o s):vj (vV prog w) A (Builtin.Slice.slicePartIndex v) Q E s:=by
 cases p with
 | none=>exact slicePart_none h
 | int i t=>exact slicePart_int h
theorem ZGf {sl:xW} {vl vu:x9} {lo hi:Option Int} {n:Nat} {Q:Int×Int×Nat->xk->Prop} (hs:s.heap.IsSliceOf sl vl vu .none) (pl:IsPart vl lo) (pu:IsPart vu hi)
  (h:Q (((sIx n 0 lo:Nat):Int),1,sIx n n hi - sIx n 0 lo) s):vj (vV prog w) A (Builtin.Slice.sliceApplied (.ref sl) (pure (n:Int))) Q E s:=by
 obtain ⟨os,hos,hcs,hds⟩:=id hs;unfold Builtin.Slice.sliceApplied Builtin.Slice.sliceFields;refine vv (vv (v5 hos hds (x:=vl) rfl (vv (v5 hos hds (x:=vu) rfl (vv (v5 hos hds (x:=.none) rfl (vA ?_)))))));refine vv (slicePart_none ?_);show vj _ _ (if ((1:Int) == 0)=true then _ else _) _ _ s;rw [if_neg (by decide)];refine vv (ZH7 pl (vv (ZH7 pu (vv (vA ?_)))))
 show vj _ _ (match Builtin.Slice.sliceAdjust lo hi 1 (n:Int) with | (lo,hi)=>pure (lo,(1:Int),Builtin.Slice.slicePlaces lo hi 1)) _ _ s
 rw [ZMW lo hi n];show vj _ _ (pure (((sIx n 0 lo:Nat):Int),(1:Int),Builtin.Slice.slicePlaces ((sIx n 0 lo:Nat):Int) ((sIx n n hi:Nat):Int) 1)) _ _ s;rw [ZPb];exact vA h
theorem ZJ8 (xs:Array x9) (i k:Nat):((zX k).filterMap λ(m:Nat)=>xs[((i:Int) + (m:Int) * 1).toNat]?).toArray=((xs.toList.drop i).take k).toArray:=by
 have e:(λ(m:Nat)=>xs[((i:Int) + (m:Int) * 1).toNat]?)=λm=>xs[i + m]? :=by
  funext m;have:((i:Int) + (m:Int) * 1).toNat=i + m:=by lia
  rw [this]
 rw [e];have:=pick_run xs i k;rw [qZ] at this;have e2:((λx=>xs[x]?) ∘ λx=>i + x)=λm=>xs[i + m]? :=rfl
 rw [e2] at this;rw [this]
theorem ZQk {t sl:xW} {items:Array x9} {vl vu:x9} {lo hi:Option Int} {Q:x9->xk->Prop} (ht:IsTup s.heap t items) (hs:s.heap.IsSliceOf sl vl vu .none) (pl:IsPart vl lo) (pu:IsPart vu hi)
  (hw:¬(sIx items.size 0 lo=0/\sIx items.size items.size hi=items.size))
  (h:Q (.ref s.heap.objs.size) {s with heap:=s.heap.push {cls:=.type "tuple",data:=.seq ((items.toList.drop (sIx items.size 0 lo)).take (sIx items.size items.size hi - sIx items.size 0 lo)).toArray}})
  (hsz:items.size<=sizeLine):vj (vV prog w) A (getItem (.ref t) (.ref sl)) Q E s:=by
 have htake:sizeOk (.seq ((items.toList.drop (sIx items.size 0 lo)).take (sIx items.size items.size hi - sIx items.size 0 lo)).toArray):=by show ((items.toList.drop (sIx items.size 0 lo)).take (sIx items.size items.size hi - sIx items.size 0 lo)).toArray.size<=sizeLine;rw [zY,j0,j1,qM];lia
 have hj:sIx items.size items.size hi<=items.size:=ZHN _ _ (zK _) hi;obtain ⟨os,hos,hcs,hds⟩:=id hs;have hTs:s.TypeIs (.ref sl) "slice":=⟨os,hos,hcs⟩;unfold getItem
 try with_reducible refine v6 ?_
 first | refine vv (vA ?_) | skip
 refine vv (wpAny_sequenceKey ht.typeIs (by decide) ?_);refine vv (vk (name:=Str.ofString "__getitem__") ht.typeIs PyProof.Rows.slot_tuple_getitem
  (v4 PyProof.Rows.slot_tuple_getitem ht.typeIs entry_tuple_getitem ?_ (args_tuple_getitem _ _)))
 show vj _ _ (Builtin.Tuple.tupleItemsOf (.ref t) >>=_) _ _ s;refine vv (tupleItemsOf_ ht ?_);refine vv (wpAny_typeOf hTs ?_);rw [if_pos (by decide)];refine vv (ZGf hs pl pu ?_);have hno:¬((((sIx items.size 0 lo:Nat):Int) == 0 && (1:Int) == 1 && (sIx items.size items.size hi - sIx items.size 0 lo) == items.size)=true):=by intro q;rw [zA,zA] at q;have q1:((sIx items.size 0 lo:Nat):Int)=0:=eq_of_beq q.1.1;have q2:sIx items.size items.size hi - sIx items.size 0 lo=items.size:=eq_of_beq q.2;exact hw ⟨by lia,by lia⟩
 show vj _ _ (if (((sIx items.size 0 lo:Nat):Int) == 0 && (1:Int) == 1 && (sIx items.size items.size hi - sIx items.size 0 lo) == items.size)=true then _ else _) _ _ s;rw [if_neg hno,ZJ8]
 first
  | exact vv (m:=Builtin.Tuple.tupleExact _) (v8 (vA ⟨_,rfl,vA h⟩) htake)
  | exact vv (m:=Builtin.Tuple.tupleExact _) (v8 (vv (vA (vA ⟨_,rfl,vA h⟩))) htake)
  | exact vv (vv (m:=Builtin.Tuple.tupleExact _) (v8 (vA (vA ⟨_,rfl,vA h⟩)) htake))
  | exact vv (vv (m:=Builtin.Tuple.tupleExact _) (v8 (vA ⟨_,rfl,vA h⟩) htake))
end
end HT
namespace L2
open PySem PySem.Spec PyProof.Rows
variable {xs:List V} {vG:List (xW×Obj)} {σ:St} {H:Hp} {s:xk} {its:List x9}
abbrev TO:=St->Hp->(Option Int->Hp->Prop)->Prop
noncomputable def PO (X:Cx) (e:Option xY) (t:TO):Prop:=
 ∀(vG:List (xW×Obj)) (s:xk) (σ:St) (H:Hp) (Q:Option Int->Hp->Prop),Inv X vG σ H s->t σ H Q->
  vj (vV X.prog X.w) X.A (evalPart e X.env) (λu s'=>∃o H',Inv X vG σ H' s'/\IsPart u o/\Q o H') X.xe s
def ZNd:TO:=λ_ H Q=>Q none H
def ZLT (t:TE):TO:=λσ H Q=>t σ H λx H1=>∃i,x=.int i/\Q (some i) H1
section
variable {X:Cx} {e:xY} {te:TE} {lo hi:Option xY} {tl th:TO} {pos p2:Pos}
theorem ZRq:PO X none ZNd:=by intro vG s σ H Q I h;rw [evalPart_none];exact vA ⟨none,H,I,.none,h⟩
theorem ZLg (h:PE X e te):PO X (some e) (ZLT te):=by
 intro vG s σ H Q I hw;rw [evalPart_some];refine thn (h vG s σ H _ I hw) λu s1 ⟨x,H1,I1,r1,q1⟩=> ?_
 obtain ⟨i,rfl,q⟩:=q1;obtain ⟨t,rfl⟩:=r1;exact ⟨some i,H1,I1,.int i t,q⟩
noncomputable def SlR (X:Cx) (r:V->Option Int->Option Int->Hp->VK->Prop):Prop:=
 ∀(vG:List (xW×Obj)) (s:xk) (σ:St) (H:Hp) (x:V) (v vl vu:x9) (lo hi:Option Int) (sl:xW) (Q:VK),Inv X vG σ H s->RelV x v->s.heap.IsSliceOf sl vl vu .none->IsPart vl lo->IsPart vu hi->r x lo hi H Q->
  ∃T id,typeLookup (.type T) "__getitem__"=pure (some (.builtin id))/\s.TypeIs v T/\vj (vV X.prog X.w) X.A (getItem v (.ref sl)) (EP X vG σ Q) X.xe s
theorem SlR.or {r r':V->Option Int->Option Int->Hp->VK->Prop} (h:SlR X r) (h':SlR X r'):SlR X (λx lo hi H Q=>r x lo hi H Q∨r' x lo hi H Q):=by
 intro vG s σ H x v vl vu lo hi sl Q I rx hs pl pu q;rcases q with q | q
 ·exact h vG s σ H x v vl vu lo hi sl Q I rx hs pl pu q
 ·exact h' vG s σ H x v vl vu lo hi sl Q I rx hs pl pu q
noncomputable def tSl (r:V->Option Int->Option Int->Hp->VK->Prop) (te:TE) (tl th:TO):TE:=λσ H Q=>te σ H λx H1=>tl σ H1 λl H2=>th σ H2 λu H3=>r x l u H3 Q
theorem ZNZ {r:V->Option Int->Option Int->Hp->VK->Prop} (hr:SlR X r) (he:PE X e te) (hl:PO X lo tl) (hu:PO X hi th):PE X (.Subscript e (.Slice lo hi none p2) pos) (tSl r te tl th):=by
 intro vG s σ H Q I h;refine Subscript_ (thn (he vG s σ H _ I h) λv s1 ⟨x,H1,I1,r1,q1⟩=> ?_);refine wpAny_Slice (thn (hl vG s1 σ H1 _ I1 q1) λvl s2 ⟨l,H2,I2,pl,q2⟩=>thn (hu vG s2 σ H2 _ I2 q2) λvu s3 ⟨u,H3,I3,pu,q3⟩=> ?_);rw [evalPart_none];refine vA ?_;have I4:Inv X vG σ H3 {s3 with heap:=s3.heap.push {cls:=.type "slice",data:=.fields #[vl,vu,.none]}}:=I3.kept (t':=s3.toks) λb ob q=>zJ _ q
 obtain ⟨T,id,hT,ht,hg⟩:=hr vG {s3 with heap:=s3.heap.push {cls:=.type "slice",data:=.fields #[vl,vu,.none]}} σ H3 x v vl vu l u s3.heap.objs.size Q I4 r1 (Heap.IsSliceOf.new ..) pl pu q3;show vj (vV X.prog X.w) X.A (subscriptTail e (.Slice lo hi none p2) v (.ref s3.heap.objs.size)) (EP X vG σ Q) X.xe {s3 with heap:=s3.heap.push {cls:=.type "slice",data:=.fields #[vl,vu,.none]}}
 exact tail_any (ops:= [.ref s3.heap.objs.size,v]) ht hT hg (by with_unfolding_all rfl)
noncomputable def M4 (xs:List V) (lo hi:Option Int):List V:=(xs.drop (HT.sIx xs.length 0 lo)).take (HT.sIx xs.length xs.length hi - HT.sIx xs.length 0 lo)
theorem ZFf (xs:List V) (lo hi:Option Int):(M4 xs lo hi).length<=xs.length:=by unfold M4;rw [j0,j1];lia
noncomputable def rSlT (K:PySem.W.Frag):V->Option Int->Option Int->Hp->VK->Prop:=λx lo hi H Q=>∃a xs,x=.ref a/\SqT K H a xs/\
 ¬(HT.sIx xs.length 0 lo=0/\HT.sIx xs.length xs.length hi=xs.length)/\∀p,H p=none->Q (.ref p) (upd H p (.tup (M4 xs lo hi)))
theorem ZPi:SlR X (rSlT X.K):=by
 intro vG s σ H x v vl vu lo hi sl Q I rx hs pl pu h;obtain ⟨a,xs,rfl,hx,hw,q⟩:=h;cases rx;obtain ⟨its,r,ht,hz⟩:=I.tuple hx;have hlen:its.toArray.size=xs.length:=by rw [zY];exact r.length.symm
 refine ⟨"tuple",_,PyProof.Rows.slot_tuple_getitem.lookup,ht.typeIs,?_⟩;refine HT.ZQk ht hs pl pu (by rw [hlen];exact hw) ?_ (by rw [hlen];exact hz);rw [hlen];refine ⟨.ref s.heap.objs.size,_,I.laid (t':=s.toks) (o:=.tup (M4 xs lo hi)) (λb ob q=>zJ _ q) (zK _) ?_,rfl,q _ (I.hok.fresh (zK _))⟩;exact ⟨zB (ZFf xs lo hi) hz,_,(r.drop (HT.sIx xs.length 0 lo)).take (HT.sIx xs.length xs.length hi - HT.sIx xs.length 0 lo),IsTup.new _ _⟩
noncomputable def ZH3 (K:PySem.W.Frag):R2:=λx y H Q=>∃a b xs ys,x=.ref a/\y=.ref b/\SqT K H a xs/\SqT K H b ys/\xs≠ []/\xs.length + ys.length<=sizeLine/\
 (ys= []->Q (.ref a) H)/\(ys≠ []->∀p,H p=none->Q (.ref p) (upd H p (.tup (xs++ys))))
theorem Vals.ZDE {us:List x9} (r:Vals xs us):us= []↔xs= []:=by
 cases r with
 | nil=>simp
 | cons _ _=>simp
theorem ZQY:OpR X (xG .Add) (ZH3 X.K):=by
 intro vG s σ H x y v u Q I rx ry h;obtain ⟨a,b,xs,ys,rfl,rfl,ha,hb,hx,hz,q1,q2⟩:=h;cases rx;cases ry;obtain ⟨its,r1,p1,_⟩:=I.tuple ha;obtain ⟨its2,r2,p2,_⟩:=I.tuple hb;refine HT.ZRZ p1 p2 (λz=>hx (r1.ZDE.mp z)) (λz=>⟨.ref a,H,I,rfl,q1 (r2.ZDE.mp z)⟩) (λz=> ?_) (by rw [<-r1.length,<-r2.length];exact hz);refine ⟨.ref s.heap.objs.size,_,I.laid (t':=s.toks) (o:=.tup (xs++ys)) (λb ob q=>zJ _ q) (zK _) ?_,rfl,q2 (λw=>z (r2.ZDE.mpr w)) _ (I.hok.fresh (zK _))⟩
 exact ⟨by rw [qQ];exact hz,_,r1.append r2,IsTup.new _ _⟩
end
noncomputable def ixN (n:Nat) (i:Int):Option Nat:=if 0<=i then (if i < n then some i.toNat else none) else if -(n:Int)<=i then some (i + n).toNat else none
noncomputable def atI {α:Type} (xs:List α) (i:Int):Option α:=(ixN xs.length i).bind λj=>xs[j]?
theorem ZJi {n:Nat} {i:Int} {j:Nat} (h:ixN n i=some j):seqIndex? i n=some j/\j < n/\ -(n:Int)<=i/\i < n:=by
 unfold ixN at h;by_cases h0:0<=i
 ·rw [if_pos h0] at h;by_cases h1:i < n
  ·rw [if_pos h1] at h;have e:i.toNat=j:=Option.some.inj h;exact ⟨by rw [seqIndex_of h0 h1,e],by lia,by lia,h1⟩
  ·rw [if_neg h1] at h;cases h
 ·rw [if_neg h0] at h;by_cases h1: -(n:Int)<=i
  ·rw [if_pos h1] at h;have e:(i + n).toNat=j:=Option.some.inj h;exact ⟨by rw [seqIndex_neg (by lia) h1,e],by lia,h1,by lia⟩
  ·rw [if_neg h1] at h;cases h
theorem ZAK {α:Type} {xs:List α} {i:Int} {v:α} (h:atI xs i=some v):∃j,seqIndex? i xs.length=some j/\xs[j]? =some v/\j < xs.length/\ -(xs.length:Int)<=i/\i < xs.length:=by
 unfold atI at h;cases e:ixN xs.length i with
 | none=>rw [e] at h;cases h
 | some j=>
  rw [e] at h;obtain ⟨h1,h2,h3,h4⟩:=ZJi e;exact ⟨j,h1,h,h2,h3,h4⟩
noncomputable def PlainIx (b:xY):Prop:=∀o i,subscripted b false o i=operate [o,i] (getItem o i)
noncomputable def IxR (X:Cx) (r:R2):Prop:=
 ∀(value slice:xY) (vG:List (xW×Obj)) (s:xk) (σ:St) (H:Hp) (x y:V) (v u:x9) (Q:VK),Inv X vG σ H s->RelV x v->RelV y u->r x y H Q->
  subscripted slice false v u=operate [v,u] (getItem v u)->vj (vV X.prog X.w) X.A (subscriptTail value slice v u) (EP X vG σ Q) X.xe s
noncomputable def MtR (X:Cx) (id:String) (r:V->List V->Hp->VK->Prop):Prop:=
 ∀(vG:List (xW×Obj)) (s:xk) (σ:St) (H:Hp) (x:V) (xs:List V) (v:x9) (us:List x9) (Q:VK),Inv X vG σ H s->RelV x v->Vals xs us->r x xs H Q->
  vj (vV X.prog X.w) X.A (call (.builtin id) (v::us)) (EP X vG σ Q) X.xe s
section
variable {X:Cx} {a b:xY} {ta tb:TE} {pos:Pos}
theorem IxR.or {r r':R2} (h:IxR X r) (h':IxR X r'):IxR X (λx y H Q=>r x y H Q∨r' x y H Q):=by
 intro value slice vG s σ H x y v u Q I rx ry q hs;rcases q with q | q
 ·exact h value slice vG s σ H x y v u Q I rx ry q hs
 ·exact h' value slice vG s σ H x y v u Q I rx ry q hs
theorem ZRr {r:R2} (hr:IxR X r) (ha:PE X a ta) (hb:PE X b tb) (hs:PlainIx b):PE X (.Subscript a b pos) (tOp r ta tb):=by intro vG s σ H Q I h;exact Subscript_ (ZAp ha hb I h λv u s2 x y H2 I2 rx ry q=>hr a b vG s2 σ H2 x y v u Q I2 rx ry q (hs _ _))
noncomputable def rIxL (K:PySem.W.Frag):R2:=λx y H Q=>∃p xs i v,x=.ref p/\y=.int i/\SqL K H p xs/\atI xs i=some v/\Q v H
noncomputable def rIxT (K:PySem.W.Frag):R2:=λx y H Q=>∃p xs i v,x=.ref p/\y=.int i/\SqT K H p xs/\atI xs i=some v/\Q v H
noncomputable def rIxS:R2:=λx y H Q=>∃z i c,x=.str z/\y=.int i/\z.length<=sizeLine/\atI z.cps.toList i=some c/\Q (.str ⟨#[c]⟩) H
theorem ZMQ:IxR X (rIxL X.K):=by
 intro value slice vG s σ H x y v u Q I rx ry h hs;obtain ⟨p,xs,i,z,rfl,rfl,hq,he,q⟩:=h;cases rx;obtain ⟨t,rfl⟩:=ry;obtain ⟨its,r,pl,hz⟩:=I.list hq;obtain ⟨j,h1,h2,h3,h4,h5⟩:=ZAK he;obtain ⟨w,ew,rw'⟩:=r.get h2;have hl:=r.length;have hn:=line63;have fin:EP X vG σ Q w s:=⟨z,H,I,rw',q⟩;by_cases h0:0<=i
 ·have hj:i.toNat=j:=by rw [seqIndex_of h0 h5] at h1;exact Option.some.inj h1
  exact item_listR pl.isList h0 (by lia) (by rw [hj];simpa using ew) fin hs
 ·have hj:(i + (its.toArray.size:Int)).toNat=j:=by rw [seqIndex_neg (by lia) h4] at h1;rw [zY,<-hl];exact Option.some.inj h1
  exact subscriptTail_builtinR (x:=w) pl.isList.typeIs slot_list_getitem.lookup
   (wpAny_getItem_list_neg (Q:=λr s'=>r=w/\EP X vG σ Q r s') pl.isList (by lia) (by rw [zY] <;> lia) (by lia) (by rw [hj];simpa using ew) ⟨rfl,fin⟩) hs
theorem ZMz:IxR X (rIxT X.K):=by
 intro value slice vG s σ H x y v u Q I rx ry h hs;obtain ⟨p,xs,i,z,rfl,rfl,hq,he,q⟩:=h;cases rx;obtain ⟨t,rfl⟩:=ry;obtain ⟨its,r,pl,hz⟩:=I.tuple hq;obtain ⟨j,h1,h2,h3,h4,h5⟩:=ZAK he;obtain ⟨w,ew,rw'⟩:=r.get h2;have hl:=r.length;have hn:=line63;have fin:EP X vG σ Q w s:=⟨z,H,I,rw',q⟩;exact subscriptTail_builtinR (x:=w) pl.typeIs slot_tuple_getitem.lookup
  (getItem_tuple (j:=j) (Q:=λr s'=>r=w/\EP X vG σ Q r s') pl (by lia) (by lia) (by rw [zY,<-hl];exact h1) (by simpa using ew) ⟨rfl,fin⟩) hs
theorem ZKI:IxR X rIxS:=by
 intro value slice vG s σ H x y v u Q I rx ry h hs;obtain ⟨z,i,c,rfl,rfl,hz,he,q⟩:=h;obtain ⟨t,rfl⟩:=rx;obtain ⟨t',rfl⟩:=ry;obtain ⟨j,h1,h2,h3,h4,h5⟩:=ZAK he;have hl:z.cps.toList.length=z.length:=by simp [Str.length]
 rw [hl] at h1 h4 h5;have hn:=line63;exact tail_any (typeIs_str s z t) slot_str_getitem.lookup (getItem_str (c:=c) (by have e1:decide (i < -(2 ^ 63:Int))=false:=decide_eq_false (by lia);have e2:decide (i ≥ 2 ^ 63)=false:=decide_eq_false (by lia);rw [e1,e2,Bool.or_false]) (by rw [h1];simpa using h2) ⟨.str ⟨#[c]⟩,H,I.tok _,⟨_,rfl⟩,q⟩) hs
noncomputable def rIx (K:PySem.W.Frag):R2:=λx y H Q=>rIxL K x y H Q∨rIxT K x y H Q∨rIxS x y H Q
theorem ZQS:IxR X (rIx X.K):=ZMQ.or (ZMz.or ZKI)
theorem ZOG (its:List x9) (n j:Nat) (u:x9):Obj.mapSeq (·.setIfInBounds j u) {cls:=.type "list",data:=.seq its.toArray n}={cls:=.type "list",data:=.seq (its.set j u).toArray n}:=by simp [Obj.mapSeq]
theorem Inv.lst {p:xW} (I:Inv X vG σ H s) (h:H p=some (.lst xs)):
  ∃(its:List x9) (n:Nat),Vals xs its/\s.heap.get? p=some {cls:=.type "list",data:=.seq its.toArray n}/\xs.length<=sizeLine:=by
 obtain ⟨z,its,n,r,e⟩:=I.hok p _ h;exact ⟨its,n,r,e,z⟩
theorem Inv.ZMS {p:xW} {ys:List V} {its':List x9} {n n':Nat} {f:Obj->Obj} (I:Inv X vG σ H s) (h:H p=some (.lst xs))
  (ho:s.heap.get? p=some {cls:=.type "list",data:=.seq its.toArray n}) (hf:f {cls:=.type "list",data:=.seq its.toArray n}={cls:=.type "list",data:=.seq its'.toArray n'}) (r:Vals ys its') (hz:ys.length<=sizeLine) (t:Nat):
  Inv X vG σ (upd H p (.lst ys)) {s with heap:=s.heap.update p f,toks:=t}:=by
 have e:(s.heap.update p f).get? p=some {cls:=.type "list",data:=.seq its'.toArray n'}:=by rw [jN f ho (by rw [hf] <;> rfl),hf]
 refine I.write (x:=p) (e:=p) (by rw [h];trivial) (.inl rfl) (λb u hb q=>(Heap.get?_update_other _ _ (Ne.symm hb)).trans q) ⟨_,e⟩ ?_;exact ⟨hz,its',n',r,e⟩
noncomputable def ZP4:V->V->V->Hp->(Hp->Prop)->Prop:=λo i v H Q=>∃p xs k j,o=.ref p/\i=.int k/\H p=some (.lst xs)/\ixN xs.length k=some j/\Q (upd H p (.lst (xs.set j v)))
theorem set_list:PSet X ZP4:=by
 intro vG s σ H o i v ov iv u Q I ro ri rv h;obtain ⟨p,xs,k,j,rfl,rfl,hp,hj,q⟩:=h;cases ro;obtain ⟨t,rfl⟩:=ri;obtain ⟨its,n,r,ho,hz⟩:=I.lst hp;obtain ⟨h1,h2,h3,h4⟩:=ZJi hj;have hl:=r.length;have hn:=line63
 have I':Inv X vG σ (upd H p (.lst (xs.set j v))) {s with heap:=s.heap.update p (Obj.mapSeq (·.setIfInBounds j u))}:=
  I.ZMS hp ho (ZOG its n j u) (r.set rv j) (by rw [jD];exact hz) s.toks
 by_cases h0:0<=k
 ·have hk:k.toNat=j:=by rw [seqIndex_of h0 h4] at h1;exact Option.some.inj h1
  exact PySem.W.ki_setAt ho h0 (by lia) (by rw [zY,<-hl];exact h4) (by rw [hk];exact ⟨_,I',q⟩)
 ·have hk:(k + (its.toArray.size:Int)).toNat=j:=by rw [seqIndex_neg (by lia) h3] at h1;rw [zY,<-hl];exact Option.some.inj h1
  exact PySem.W.ki_setBack ho (by lia) (by rw [zY,<-hl];exact h3) (by lia) (by rw [hk];exact ⟨_,I',q⟩)
theorem ZJ4 (lo hi:Option Int) (n:Nat):(vY lo hi none n).1=((HT.sIx n 0 lo:Nat):Int)/\(vY lo hi none n).2.1=((HT.sIx n n hi:Nat):Int)/\(vY lo hi none n).2.2=1:=by
 refine ⟨?_,?_,rfl⟩
 ·cases lo with
  | none=>simp [vY,HT.sIx]
  | some i=>
   simp only [vY,HT.sIx,Option.getD_none,show (1:Int) > 0 by decide,if_true];by_cases h:i < 0
   ·simp only [h,if_true] <;> lia
   ·simp only [h,if_false] <;> lia
 ·cases hi with
  | none=>simp [vY,HT.sIx]
  | some i=>
   simp only [vY,HT.sIx,Option.getD_none,show (1:Int) > 0 by decide,if_true];by_cases h:i < 0
   ·simp only [h,if_true] <;> lia
   ·simp only [h,if_false] <;> lia
theorem ZQ9 (its:List x9) (lo hi:Option Int):slicePick its.toArray lo hi none=((its.drop (HT.sIx its.length 0 lo)).take (HT.sIx its.length its.length hi - HT.sIx its.length 0 lo)).toArray:=by
 obtain ⟨h1,h2,h3⟩:=ZJ4 lo hi its.toArray.size;unfold slicePick;rw [h1,h2,h3]
 simp only [sliceRange_one,pick_run,zY] <;> rfl
noncomputable def rSlL (K:PySem.W.Frag):V->Option Int->Option Int->Hp->VK->Prop:=λx lo hi H Q=>∃a xs,x=.ref a/\SqL K H a xs/\∀p,H p=none->Q (.ref p) (upd H p (.lst (M4 xs lo hi)))
theorem ZMY:SlR X (rSlL X.K):=by
 intro vG s σ H x v vl vu lo hi sl Q I rx hs pl pu h;obtain ⟨a,xs,rfl,hx,q⟩:=h;cases rx;obtain ⟨its,r,ht,hz⟩:=I.list hx;have hlen:=r.length;refine ⟨"list",_,slot_list_getitem.lookup,ht.isList.typeIs,?_⟩
 refine wpAny_getItem_list_slice ht.isList hs pl pu .none (by simp) ?_ (by rw [zY] <;> lia)
 rw [ZQ9,<-hlen];refine ⟨.ref s.heap.objs.size,_,I.laid (t':=s.toks) (o:=.lst (M4 xs lo hi)) (λb ob q=>zJ _ q) (zK _) ?_,rfl,q _ (I.hok.fresh (zK _))⟩;exact ⟨zB (ZFf xs lo hi) hz,_,0,(r.drop (HT.sIx xs.length 0 lo)).take (HT.sIx xs.length xs.length hi - HT.sIx xs.length 0 lo),z9 _ rfl⟩
noncomputable def Fo:V->Bool
 | .non=>true
 | .bl _=>true
 | .int _=>true
 | .str _=>true
 | _=>false
noncomputable def eqV:V->V->Bool
 | .non,.non=>true
 | .bl a,.bl b=>a == b
 | .bl a,.int b=>(if a then 1 else 0) == b
 | .int a,.bl b=>a == (if b then 1 else 0)
 | .int a,.int b=>a == b
 | .str a,.str b=>a == b
 | _,_=>false
theorem ZFl {A:xK} {y x:V} {u v:x9} (ry:RelV y u) (rx:RelV x v) (fy:Fo y=true) (fx:Fo x=true):SeqAt.EqAt A s u v (eqV y x):=by
 cases y with
 | non=>
  cases ry;cases x with
  | non=>cases rx;exact SeqAt.EqAt.same _
  | bl b=>cases rx;exact SeqAt.EqAt.none_bool b
  | int b=>obtain ⟨t,rfl⟩:=rx;exact SeqAt.EqAt.none_int b t
  | str b=>obtain ⟨t,rfl⟩:=rx;exact SeqAt.EqAt.none_str b t
  | _=>exact absurd (show false=true from fx) zy
 | bl a=>
  cases ry;cases x with
  | non=>cases rx;exact SeqAt.EqAt.bool_none a
  | bl b=>cases rx;exact SeqAt.EqAt.bool_bool a b
  | int b=>obtain ⟨t,rfl⟩:=rx;exact SeqAt.EqAt.bool_int a b t
  | str b=>obtain ⟨t,rfl⟩:=rx;exact SeqAt.EqAt.bool_str a b t
  | _=>exact absurd (show false=true from fx) zy
 | int a=>
  obtain ⟨t',rfl⟩:=ry;cases x with
  | non=>cases rx;exact SeqAt.EqAt.int_none a t'
  | bl b=>cases rx;exact SeqAt.EqAt.int_bool a t' b
  | int b=>obtain ⟨t,rfl⟩:=rx;exact SeqAt.EqAt.int_int a t' b t
  | str b=>obtain ⟨t,rfl⟩:=rx;exact SeqAt.EqAt.int_str a t' b t
  | _=>exact absurd (show false=true from fx) zy
 | str a=>
  obtain ⟨t',rfl⟩:=ry;cases x with
  | non=>cases rx;exact SeqAt.EqAt.str_none a t'
  | bl b=>cases rx;exact SeqAt.EqAt.str_bool a t' b
  | int b=>obtain ⟨t,rfl⟩:=rx;exact SeqAt.EqAt.str_int a t' b t
  | str b=>obtain ⟨t,rfl⟩:=rx;exact SeqAt.EqAt.str_str a t' b t
  | _=>exact absurd (show false=true from fx) zy
 | _=>exact absurd (show false=true from fy) zy
noncomputable def eqU (x:V) (u:x9):Bool:=match u with
 | .none=>eqV .non x
 | .bool b=>eqV (.bl b) x
 | .int i _=>eqV (.int i) x
 | .str z _=>eqV (.str z) x
 | _=>false
theorem ZJr {x y:V} {u:x9} (r:RelV y u) (f:Fo y=true):eqU x u=eqV y x:=by
 cases y with
 | non=>cases r;rfl
 | bl b=>cases r;rfl
 | int i=>obtain ⟨t,rfl⟩:=r;rfl
 | str z=>obtain ⟨t,rfl⟩:=r;rfl
 | _=>exact absurd (show false=true from f) zy
theorem ZDx {x:V}:∀{xs:List V} {us:List x9},Vals xs us->xs.all Fo=true->us.any (eqU x)=xs.any λy=>eqV y x
 | _,_,.nil,_=>rfl
 | y::xs,u::us,.cons r t,f=>by rw [jX,zA] at f;rw [List.any_cons,List.any_cons,ZJr r f.1,ZDx t f.2]
theorem ZD7 {A:xK} {x:V} {v:x9} (rx:RelV x v) (fx:Fo x=true):∀{xs:List V} {us:List x9},Vals xs us->xs.all Fo=true->∀u∈us,SeqAt.EqAt A s u v (eqU x u)
 | _,_,.nil,_=>λu hu=>by cases hu
 | y::xs,u::us,.cons r t,f=>λu' hu=>by
  rw [jX,zA] at f;rcases zx.mp hu with rfl | hu
  ·rw [ZJr r f.1];exact ZFl r rx f.1 fx
  ·exact ZD7 rx fx t f.2 u' hu
def inV (x:V) (xs:List V):Bool:=xs.any λy=>eqV y x
noncomputable def rIn (K:PySem.W.Frag) (neg:Bool):R2:=λx y H Q=>∃p xs,y=.ref p/\(SqL K H p xs∨SqT K H p xs)/\Fo x=true/\xs.all Fo=true/\Q (.bl (if neg then !inV x xs else inV x xs)) H
theorem ZJx:OpR X (xN .NotIn) (rIn X.K true):=by
 intro vG s σ H x y v u Q I rx ry h;obtain ⟨p,xs,rfl,hq,fx,fs,q⟩:=h;cases ry;rcases hq with hq | hq
 ·obtain ⟨its,r,pl,hz⟩:=I.list hq;refine SeqAt.notIn_listAt (eqU x) pl.isList (λw hw=>ZD7 rx fx r fs w (by simpa using hw)) ⟨.bl _,H,I,rfl,?_⟩;rw [show its.toArray.any (eqU x)=its.any (eqU x) by simp,ZDx r fs];exact q
 ·obtain ⟨its,r,pl,hz⟩:=I.tuple hq;refine SeqAt.notIn_tupleAt (eqU x) pl (λw hw=>ZD7 rx fx r fs w (by simpa using hw)) ⟨.bl _,H,I,rfl,?_⟩;rw [show its.toArray.any (eqU x)=its.any (eqU x) by simp,ZDx r fs];exact q
theorem ZNx:CallR X (.builtin "len") (λxs H Q=>∃p ys,xs= [.ref p]/\(SqL X.K H p ys∨SqT X.K H p ys)/\Q (.int ys.length) H):=by
 intro vG s σ H xs us Q I r h;obtain ⟨p,ys,rfl,hq,q⟩:=h;obtain ⟨u,rfl,rx⟩:=vals1 r;cases rx;have hn:=line63;rcases hq with hq | hq
 ·obtain ⟨its,r',pl,hz⟩:=I.list hq;have hlen:=r'.length
  exact Calls.call_len_list pl.isList (by simp only [zY] <;> lia) ⟨.int ys.length,H,I.tok _,⟨s.toks + 1,by rw [zY,hlen]⟩,q⟩
 ·obtain ⟨its,r',pl,hz⟩:=I.tuple hq;have hlen:=r'.length
  exact len_tuple pl (by simp only [zY] <;> lia) ⟨.int ys.length,H,I.tok _,⟨s.toks + 1,by rw [zY,hlen]⟩,q⟩
theorem ZMJ:CallR X (.builtin "len") (λxs H Q=>∃z,xs= [.str z]/\z.length<=sizeLine/\Q (.int z.length) H):=by intro vG s σ H xs us Q I r h;obtain ⟨z,rfl,hz,q⟩:=h;obtain ⟨u,rfl,t,rfl⟩:=vals1 r;have hn:=line63;exact len_str (by lia) ⟨.int z.length,H,I.tok _,⟨_,rfl⟩,q⟩
theorem CallR.or {f:x9} {r r':List V->Hp->VK->Prop} (h:CallR X f r) (h':CallR X f r'):CallR X f (λxs H Q=>r xs H Q∨r' xs H Q):=by
 intro vG s σ H xs us Q I rs q;rcases q with q | q
 ·exact h vG s σ H xs us Q I rs q
 ·exact h' vG s σ H xs us Q I rs q
theorem ZKJ:CallR X (.type "list") (λxs H Q=>∃p ys,xs= [.ref p]/\(SqL X.K H p ys∨SqT X.K H p ys)/\∀l,H l=none->Q (.ref l) (upd H l (.lst ys))):=by
 intro vG s σ H xs us Q I r h;obtain ⟨p,ys,rfl,hq,q⟩:=h;obtain ⟨u,rfl,rx⟩:=vals1 r;cases rx;have fin:∀(its:List x9),Vals ys its->ys.length<=sizeLine->∀(h':Heap) (c':Nat),(∀b o',s.heap.get? b=some o'->h'.get? b=some o')->
   h'.get? s.heap.objs.size=some {cls:=.type "list",dict:=none,data:=.seq its.toArray c',slots:= #[]}->EP X vG σ Q (.ref s.heap.objs.size) {s with heap:=h'}:=λits r' hz h' c' kp e=>
  ⟨.ref s.heap.objs.size,_,I.laid (t':=s.toks) kp (zK _) (show ObjOk X.prog X.w _ h' _ (.lst ys) from ⟨hz,its,c',r',e⟩),rfl,q _ (I.hok.fresh (zK _))⟩
 rcases hq with hq | hq
 ·obtain ⟨its,r',pl,hz⟩:=I.list hq;have hlen:=r'.length;obtain ⟨o,ho,hc,n,hd⟩:=pl.isList
  exact call_list_seq p (.inl rfl) ho hc hd (λh' c' kp e=>fin its r' hz h' c' kp e) (by simp only [zY] <;> lia)
 ·obtain ⟨its,r',pl,hz⟩:=I.tuple hq;have hlen:=r'.length;obtain ⟨o,ho,hc,n,hd⟩:=pl
  exact call_list_seq p (.inr rfl) ho hc hd (λh' c' kp e=>fin its r' hz h' c' kp e) (by simp only [zY] <;> lia)
theorem ZPW:CallR X (.type "tuple") (λxs H Q=>∃p ys,xs= [.ref p]/\((SqL X.K H p ys/\∀l,H l=none->Q (.ref l) (upd H l (.tup ys)))∨(SqT X.K H p ys/\Q (.ref p) H))):=by
 intro vG s σ H xs us Q I r h;obtain ⟨p,ys,rfl,h⟩:=h;obtain ⟨u,rfl,rx⟩:=vals1 r;cases rx;rcases h with ⟨hq,q⟩ | ⟨hq,q⟩
 ·obtain ⟨its,r',pl,hz⟩:=I.list hq;have hlen:=r'.length
  refine call_tuple_list pl.isList (λh' kp=> ?_) (by simp only [zY] <;> lia)
  have I1:Inv X vG σ H {s with heap:=h'}:=I.kept (t':=s.toks) kp;have I2:Inv X vG σ (upd H h'.objs.size (.tup ys)) {s with heap:=h'.push {cls:=.type "tuple",data:=.seq its.toArray}}:=
   I1.laid (t':=s.toks) (λb o e=>zJ _ e) (zK _) (show ObjOk X.prog X.w _ _ _ (.tup ys) from ⟨hz,its,r',IsTup.new _ _⟩)
  exact ⟨.ref h'.objs.size,_,I2,rfl,q _ (I1.hok.fresh (zK _))⟩
 ·obtain ⟨its,r',pl,hz⟩:=I.tuple hq;exact call_tuple_same pl ⟨.ref p,H,I,rfl,q⟩
noncomputable def tyV (K:PySem.W.Frag) (T:String) (x:V) (H:Hp):Prop:=match x with
 | .str _=>T="str"
 | .int _=>T="int"
 | .ref p=>(T="list"/\∃xs,SqL K H p xs)∨(T="tuple"/\∃o,K.lookup p=some o/\o.cls=.type "tuple"/\o.dict=none)∨
   (T="dict"/\((∃kvs,H p=some (.dK kvs))∨∃kvs,H p=some (.dT kvs)))∨(T="set"/\∃S n,H p=some (.set S n))
 | _=>False
theorem ZN4 {T:String} {x:V} {v:x9} (I:Inv X vG σ H s) (r:RelV x v) (ty:tyV X.K T x H):
  s.TypeIs v T/\∀a,v=.ref a->∃ob,s.heap.get? a=some ob/\ob.dict=none:=by
 cases x with
 | str z=>
  obtain ⟨t,rfl⟩:=r
  cases (show T="str" from ty)
  exact ⟨typeIs_str s z t,λ_ e=>nomatch e⟩
 | int i=>
  obtain ⟨t,rfl⟩:=r
  cases (show T="int" from ty)
  exact ⟨typeIs_int s i t,λ_ e=>nomatch e⟩
 | ref p=>
  cases r;rcases ty with ⟨rfl,xs,hq⟩ | ⟨rfl,o,hk,hc,hd⟩ | ⟨rfl,hk⟩ | ⟨rfl,S,n,hk⟩
  ·obtain ⟨its,_,pl,_⟩:=I.list hq;refine ⟨pl.isList.typeIs,λa e=> ?_⟩;cases e;obtain ⟨o,n,e,c,hd,_⟩:=pl;exact ⟨o,e,hd⟩
  ·refine ⟨⟨o,I.kIn p o hk,hc⟩,λa e=> ?_⟩;cases e;exact ⟨o,I.kIn _ o hk,hd⟩
  ·have z:∃o,s.heap.get? p=some o/\o.ExactDict:=by
    rcases hk with ⟨kvs,hk⟩ | ⟨kvs,hk⟩
    ·obtain ⟨_,_,_,_,o,_,_,e,ex,_⟩:=I.hok p _ hk;exact ⟨o,e,ex⟩
    ·obtain ⟨_,_,_,_,o,_,_,e,ex,_⟩:=I.hok p _ hk;exact ⟨o,e,ex⟩
   obtain ⟨o,e,ex⟩:=z;refine ⟨⟨o,e,ex.1⟩,λa e2=> ?_⟩;cases e2;exact ⟨o,e,ex.2.1⟩
  ·obtain ⟨o,_,_,_,e,ex,_⟩:=I.hok p _ hk;refine ⟨⟨o,e,ex.1⟩,λa e2=> ?_⟩;cases e2;exact ⟨o,e,ex.2.1⟩
 | _=>exact False.elim ty
noncomputable def tBM (K:PySem.W.Frag) (T:String) (r:V->List V->Hp->VK->Prop) (to:TE) (t:TA):TE:=λσ H Q=>to σ H λx H1=>tyV K T x H1/\t σ H1 λxs H2=>r x xs H2 Q
variable {o e:xY} {es:List xY} {to:TE} {t:TA} {name:Str} {apos cpos:Pos} {T id:String} {r:V->List V->Hp->VK->Prop}
theorem ZHQ (pa:PlainAttrs T) (slot:Slot T name id) (hty:typeOf (.builtin id)=pure (.type "method_descriptor")) (hm:MtR X id r) (ho:PE X o to) (ha:PA X (e::es) t)
  (hbase:xC o name X.env (eval o X.env)=eval o X.env:=by rfl)
  (hfew:((xD cpos (vq (e::es) X.env)).all (λx=> !x.1) && (xE cpos (vZ [] X.env)).all (λx=>x.1.isSome)
   && decide ((e::es).length + ([]:List Keyword).length + (if ([]:List Keyword).isEmpty then 0 else 1) < 30))=true:=by rfl)
  (hline:(apos.endLine == cpos.line)=true:=by rfl) (hs:vq (e::es) X.env=(false,eval e X.env)::vq es X.env:=by rfl) (hplain:(xD cpos (vq es X.env)).any (·.1)=false:=by rfl):
  PE X (.Call (.Attribute o name apos) (e::es) [] cpos) (tBM X.K T r to t):=by
 intro vG s σ H Q I h;refine wpAny_Call_method_late hbase hfew hline rfl (thn (ho vG s σ H _ I h) λv s1 ⟨x,H1,I1,r1,ty,q1⟩=> ?_);obtain ⟨h1,h2⟩:=ZN4 I1 r1 ty;refine ⟨T,id,pa,slot,hty,h1,h2,?_⟩;have hA:=ha cpos vG s1 σ H1 _ I1 q1;rw [hs] at hA ⊢
 refine Calls.callWith_builtin (by show (false || (xD cpos (vq es X.env)).any (·.1))=false;rw [hplain] <;> rfl) (Calls.evalArgs_plain ?_)
 exact thn hA λus s2 ⟨vs,H2,I2,r2,q2⟩=>hm vG s2 σ H2 x vs v us Q I2 r1 r2 q2
end
noncomputable def MtM (X:Cx) (id:String) (r:V->List V->Hp->VK->Prop):Prop:=
 ∀(vG:List (xW×Obj)) (s:xk) (σ:St) (H:Hp) (x:V) (xs:List V) (v:x9) (us:List x9) (Q:VK),Inv X vG σ H s->RelV x v->Vals xs us->r x xs H Q->
  vj (vV X.prog X.w) X.A (call (.builtin id) (v::us)) (EP X vG σ Q) X.xe s
theorem Vals.one:∀{x:V} {us:List x9},Vals [x] us->∃u,us= [u]/\RelV x u
 | _,_,.cons r .nil=>⟨_,rfl,r⟩
theorem Vals.rep {us:List x9} (h:Vals xs us):∀k:Nat,Vals (zC k xs).flatten (zC k us).flatten
 | 0=>.nil
 | k + 1=>by rw [qw,qw,qI,qI];exact Vals.append h (Vals.rep h k)
theorem foldl_rep (its:List x9):∀(k:Nat) (acc:List x9),
  List.foldl (λx1 x2=>x1++x2) acc.toArray (zC k its.toArray)=(acc++(zC k its).flatten).toArray
 | 0,acc=>by simp
 | k + 1,acc=>by
  have e:acc.toArray++its.toArray=(acc++its).toArray:=by simp
  have e2:(acc++its)++(zC k its).flatten=acc++(zC (k + 1) its).flatten:=by rw [qw,qI,qx]
  rw [<-e2,<-foldl_rep its k (acc++its),<-e,qw,jU]
section
variable {X:Cx} {vG:List (xW×Obj)} {σ:St} {H:Hp} {s:xk} {l b:xW} {xs ys zs:List V}
theorem Inv.lset {its':List x9} {n:Nat} {f:Array x9->Array x9} {t':Nat} (I:Inv X vG σ H s) (hH:H l=some (.lst xs))
  (e:s.heap.get? l=some {cls:=.type "list",data:=.seq its.toArray n}) (hf:f its.toArray=its'.toArray) (hv:Vals ys its') (hz:ys.length<=sizeLine):
  Inv X vG σ (upd H l (.lst ys)) {s with heap:=s.heap.update l (Obj.mapSeq f),toks:=t'}:=by
 have q:=PySem.IsL.update e f;rw [hf] at q;refine I.write (x:=l) (e:=l) (by rw [hH];exact trivial) (.inl rfl) (λb' u hb hu=>(Heap.get?_update_other s.heap (Obj.mapSeq f) (Ne.symm hb)).trans hu) ⟨_,q⟩ ?_;exact ⟨hz,its',_,hv,q⟩
theorem Inv.lnew {t':Nat} (I:Inv X vG σ H s) (hv:Vals ys its) (hz:ys.length<=sizeLine):
  Inv X vG σ (upd H s.heap.objs.size (.lst ys)) {s with heap:=s.heap.push {cls:=.type "list",data:=.seq its.toArray},toks:=t'}:=
 I.laid (λ_ _ q=>zJ _ q) (zK _) ⟨hz,its,0,hv,z9 _ rfl⟩
theorem Inv.fresh (I:Inv X vG σ H s):H s.heap.objs.size=none:=I.hok.fresh (zK _)
theorem Inv.lstM (I:Inv X vG σ H s) (hH:H l=some (.lst xs)):xs.length<=sizeLine/\∃(its:List x9) (n:Nat),Vals xs its/\xs.length=its.length/\s.heap.get? l=some {cls:=.type "list",data:=.seq its.toArray n}:=by obtain ⟨z,its,n,r,e⟩:=I.hok l _ hH;exact ⟨z,its,n,r,r.length,e⟩
theorem ZME {n:Nat} (h:n<=sizeLine):Builtin.List.listTooLong n=false:=by unfold Builtin.List.listTooLong;exact decide_eq_false (by lia)
end
section
variable {X:Cx}
noncomputable def ZLO:V->List V->Hp->VK->Prop:=λx vs H Q=>∃l xs y,x=.ref l/\vs= [y]/\H l=some (.lst xs)/\xs.length < sizeLine/\Q .non (upd H l (.lst (xs++ [y])))
theorem ZLE:MtM X "list.append" ZLO:=by
 intro vG s σ H x vs v us Q I rx rv h;obtain ⟨l,xs,y,rfl,rfl,hH,hz,q⟩:=h;cases rx;obtain ⟨u,rfl,ru⟩:=rv.one;obtain ⟨z,its,n,r,hl,e⟩:=I.lstM hH;refine call_meets F.slot_list_append ⟨_,e,rfl⟩ F.entry_list_append (F.args_list_append_2 _ _) (PySem.list_append l its.toArray n u (by rw [zY];lia)) ⟨e,?_⟩;refine ⟨.non,_,I.lset (its':=its++ [u]) hH e (by simp) (r.append (.cons ru .nil)) ?_,rfl,q⟩
 rw [qQ,j6];lia
noncomputable def rRep:R2:=λx y H Q=>∃l k xs,x=.ref l/\y=.int k/\H l=some (.lst xs)/\ -(2 ^ 63)<=k/\k < 2 ^ 63/\xs.length * k.toNat<=sizeLine/\
 ∀p,H p=none->Q (.ref p) (upd H p (.lst (zC k.toNat xs).flatten))
theorem len_rep {α:Type} (xs:List α) (k:Nat):(zC k xs).flatten.length=k * xs.length:=by
 induction k with
 | zero=>simp
 | succ k ih=>rw [qw,qI,qQ,ih,Nat.succ_mul,Nat.add_comm]
theorem ZMC:OpR X (xG .Mult) rRep:=by
 intro vG s σ H x y v u Q I rx ry h;obtain ⟨l,k,xs,rfl,rfl,hH,h1,h2,hz,q⟩:=h;cases rx;obtain ⟨t,rfl⟩:=ry;obtain ⟨z,its,n,r,hl,e⟩:=I.lstM hH;have hlen:its.toArray.size * k.toNat<=sizeLine:=by rw [zY,<-hl];exact hz
 have hcap:¬its.toArray.size * k.toNat > (2 ^ 63 - 1) / 8:=by
  have:(sizeLine:Nat)<=(2 ^ 63 - 1) / 8:=by decide
  lia
 have hfit:¬(!Builtin.List.listFitsIndex k)=true:=by rw [fitsIndex_both h1 h2];exact zy
 have hlong:¬Builtin.List.listTooLong (its.toArray.size * k.toNat)=true:=by rw [ZME hlen];exact zy
 have hnew:List.foldl (λx1 x2=>x1++x2) #[] (zC (if its.toArray.isEmpty=true then 0 else k.toNat) its.toArray)=(zC k.toNat its).flatten.toArray:=by
  have f0:∀m:Nat,List.foldl (λx1 x2=>x1++x2) #[] (zC m its.toArray)=(zC m its).flatten.toArray:=λm=>by have:=foldl_rep its m [];rw [qN] at this;exact this
  rw [f0];cases its with
  | nil=>simp
  | cons a r'=>rw [if_neg (by simp)]
 refine wpAny_binaryOp_repeat_ref (T:="list") (U:="int") (by decide) ⟨_,e,rfl⟩ (λs'=>typeIs_int s' k t) noFill_list_mul F.fills_int_mul F.slot_int_rmul repeat_list F.slot_int_index.lookup
  (call_meets F.slot_int_rmul (typeIs_int s k t) F.entry_int_rmul (F.args_int_rmul_2 _ _) (int___rmul___int_list k t l its.toArray n)
   ⟨e,rfl,⟨_,e,rfl⟩,call_meets F.slot_list_mul ⟨_,e,rfl⟩ F.entry_list_mul (F.args_list_mul_2 _ _) (AutoListH.list___mul___list_int_3 l its.toArray n k t hfit hcap hlong) ⟨e,?_⟩⟩)
 rw [hnew];exact ⟨.ref _,_,I.lnew (t':=s.toks) (r.rep k.toNat) (by rw [len_rep,Nat.mul_comm];exact hz),rfl,q _ I.fresh⟩
end
section
variable {prog:xj} {w:xA} {A:xK} {E:x9->xk->Prop} {s:xk}
end
section
variable {X:Cx}
end
end L2
namespace Att
open PySem PySem.W PySem.Calls PyProof.Rows
variable {h:Heap}
theorem ZLb {P:Params} :∀(ns:List Int) (vs:List x9),WellAll P h vs (ns.map WData.int)->IntsAre vs ns:=by
 intro ns
 induction ns with
 | nil=>
  intro vs w;rw [jJ] at w;cases w;exact .nil
 | cons n ns ih=>
  intro vs w;rw [zW] at w;cases w with
  | cons a b=>
   cases a;exact .cons _ _ (ih _ b)
theorem ZNo {l:OpenLaw} {n:Nat} (hn:l.most=some n) {P:Params} {args:List WData} {vals:List x9}
  (hpre:l.row.toRowW.claim.pre args=true) (hwl:WellAll P h vals args):
  ∃a vs ns,vals= [Value.ref a]/\args= [WData.list (ns.map WData.int)]/\h.get? a=some {cls:=.type "list",data:=.seq vs.toArray}/\IntsAre vs ns/\ns.length<=n:=by
 have hsh:WShape.hasAll [] args [.list .int]=true:=(pre_splitW hpre).1;have hc:l.pre.holds [] {args:=args}=true:=(pre_splitW hpre).2;obtain ⟨d,r,rfl,h1,h2⟩:=hasAllW_cons hsh;obtain rfl:=hasAllW_nil h2;obtain ⟨xs,rfl,h3⟩:=hasW_list h1;obtain ⟨ns,rfl⟩:=items_int h3;have hlen:ns.length<=n:=by
  unfold OpenLaw.pre at hc;have h4:(WTm.not (.lt (.lit (.int (n:Int))) (.len (.arg 0)))).holds [] {args:= [.list (ns.map .int)]}=true:=by have h4:=(holds_andW hc).1;rw [hn] at h4;exact h4
  have h5:=condW_of h4 (w_not (w_lt w_lit (w_len_list (w_arg rfl))));rw [zG] at h5;refine Nat.le_of_not_lt λq=> ?_
  have q':(n:Int) < ((ns.length:Nat):Int):=by lia
  first
   | (rw [decide_eq_true q'] at h5;exact absurd h5 (by decide))
   | (simp at h5;lia)
 cases hwl with
 | cons w1 w2=>
  cases w2;cases w1 with
  | list ho hall=>exact ⟨_,_,ns,rfl,rfl,ho,ZLb ns _ hall,hlen⟩
theorem ZMM (l:OpenLaw) (args:List WData):l.row.toRowW.claim.post args (.bool true) args=true:=
 postW_of (r:=l.row.toRowW) (X:=(true == true))
  (show WShape.has [] (.bool true) .bool=true by first | rfl | decide | simp [WShape.has,WShape.arms,WShape.armsAll])
  (show (WTm.eq .res (.lit (.bool true))).value [] {args:=args,res:=some (.bool true),after:=args}=some (.bool (true == true)) from w_eq_bool (w_res rfl) w_lit) rfl
section
variable {prog:xj} {w:xA} {A:xK} {E:x9->xk->Prop} {s:xk} {K:vD}
def Yp (h:Heap):Heap:={h with objs:= #[]}
theorem ZDr (h:Heap) (b:xW):(Yp h).get? b=none:=by
 cases e:(Yp h).get? b with
 | none=>rfl
 | some o=>exact absurd (zw e) (xQ _)
noncomputable def ledger (h:Heap) (L d:xW):List (xW×Obj):=(zX h.objs.size).filterMap λa=>if a=L∨a=d then none else (h.get? a).map λo=>(a,o)
theorem Ug {L d a:xW} {o:Obj}:(a,o)∈ledger h L d↔a≠L/\a≠d/\h.get? a=some o:=by
 unfold ledger;rw [List.mem_filterMap];constructor
 ·rintro ⟨b,_,e⟩;split at e
  ·cases e
  ·rename_i hb;obtain ⟨o',ho,e'⟩:=zI.mp e;cases e';exact ⟨λq=>hb (.inl q),λq=>hb (.inr q),ho⟩
 ·rintro ⟨n1,n2,ho⟩;refine ⟨a,qX.mpr (zw ho),?_⟩
  rw [if_neg (show¬(a=L∨a=d) from λq=>q.elim n1 n2),ho] <;> rfl
theorem ZOn {L:xW} {m:Str->Option x9} (n:h.Ns L m):Fr (Yp h) L h m:=
 ⟨n,λb o e=>(by rw [ZDr] at e;cases e),jL _⟩
end
end Att
namespace L2
open PySem PySem.Spec PyProof.Rows
variable {fd:xq} {x:Str}
theorem T6:∀{vs:List x9} {ns:List Int},IntsAre vs ns->Vals (ns.map V.int) vs
 | _,_,.nil=>.nil
 | _,_,.cons n t h=>.cons ⟨t,rfl⟩ (T6 h)
def Only (H:Hp):Prop:=∀b,H b=none∨∃o xs,H b=some (.frz o (.lst xs))
theorem ZMA {P:xj} {w:xA} {K:PySem.W.Frag} {mg mb:Str->Option x9} {CX:CXT} {k:Nat} {fa a:xW} {sp:Sp} {s₁:xk} {vs:List x9} {ns:List Int}
  (KX:K.In s₁.heap) (hns:s₁.heap.Ns vX mg) (hb:s₁.heap.Ns builtinsNs mb) (hbb:∀x:Str,x≠"__name__"->mb x=xH x) (hlim:s₁.heap.NoLimit) (hg:s₁.gens= #[])
  (ha:s₁.heap.get? a=some {cls:=.type "list",data:=.seq vs.toArray}) (hi:IntsAre vs ns) (hl:ns.length<=sizeLine) (hr:Room k callerA)
  (F:∀base:Heap,K.In base->base.Ns vX mg->FnOk P w K mg base CX k fa fd [x] sp) (hbind:∀(s:xk) (u:x9),BindsTo s fd ⟨[u],[]⟩ [(x,u)])
  (hsp:∀H:Hp,Only H->SqL K H a (ns.map V.int)->sp [.ref a] H (λv _=>v=.bl true) λ_ _ _=>False)
  (hCX:∀H e s',CX [] H s₁ (λ_ _ _=>False) e s'->False):
  codeAny (vV P w) callerA (.call (.ref fa) ⟨[.ref a],[]⟩) (λr s'=>r=.ok (.ret (.bool true))/\OldK s₁.heap s'.heap/\s'.os=s₁.os/\AllBare s'.gens) s₁:=by
 have rv:=T6 hi;have lenV:=hi.length;have core:∀H:Hp,Only H->SqL K H a (ns.map V.int)->HOk P w H s₁.heap->(∀b,H b≠none->b=a)->(H a≠none->K.lookup a=none)->
   codeAny (vV P w) callerA (.call (.ref fa) ⟨[.ref a],[]⟩) (λr s'=>r=.ok (.ret (.bool true))/\OldK s₁.heap s'.heap/\s'.os=s₁.os/\AllBare s'.gens) s₁:=by
  intro H hO hS hok hA hK;have base_of:∀{b:xW} {o:Obj},s₁.heap.get? b=some o->H b=none->(Km s₁.heap H).get? b=some o:=λe n=>ZNe e n
  have noA:∀{b:xW} {o:Obj} {es:Array DictEntry} {ep:Nat},s₁.heap.get? b=some o->o.data=.dict es ep->H b=none:=λ{b o es ep} e d=>by
   cases q:H b with
   | none=>rfl
   | some u=>
    have e':b=a:=hA b (by rw [q];simp);subst e';rw [ha] at e;cases e;have d':Data.seq vs.toArray _=Data.dict es ep:=d;cases d'
  have nsK:∀{b:xW} {m:Str->Option x9},s₁.heap.Ns b m->(Km s₁.heap H).Ns b m:=λ{b m} ⟨o,es,ep,e,d,r⟩=>⟨o,es,ep,base_of e (noA e d),d,r⟩
  have hKb:K.In (Km s₁.heap H):=λb o e=>base_of (KX b o e) (by
   cases q:H b with
   | none=>rfl
   | some u=>
    have e':b=a:=hA b (by rw [q];simp);subst e';rw [hK (by rw [q];simp)] at e;cases e)
  have hM:Mod K mg (Km s₁.heap H):=⟨hKb,nsK hns,⟨mb,nsK hb,hbb⟩,let ⟨mc,h1,h2⟩:=hlim;⟨mc,nsK h1,h2⟩⟩
  have e0:Env0 P w K mg (Km s₁.heap H) callerA [] s₁ H:=⟨rfl,hM,λb o e=>ZNC e,Nat.le_of_eq (ZNX _ _),trivial,λb hb=>absurd (show b∈([]:List xW) from hb) (by simp),hok,.of_eq hg⟩
  refine xM ((F _ hKb (nsK hns)).run callerA [] s₁ H ⟨[.ref a],[]⟩ [.ref a] [.ref a] _ _ hr e0 (hbind s₁ (.ref a)) (.cons rfl .nil) (hsp H hO hS)) λr s' h=> ?_
  cases r with
  | error e=>exact (hCX H e s' h).elim
  | ok fl=>
   cases fl with
   | next=>exact False.elim h
   | brk=>exact False.elim h
   | cont=>exact False.elim h
   | ret u=>
    obtain ⟨v,H',os,bare,un,hok',r',q⟩:=h;have q':v=.bl true:=q;subst q';obtain rfl:u=Value.bool true:=r';refine ⟨rfl,OldK.of_keep λb o e=> ?_,os,bare⟩;cases q:H b with
    | none=>exact un.keep b o e q (by intro z;exact absurd (show b∈([]:List xW) from z) (by simp)) (by simp)
    | some u=>
     rcases hO b with z | ⟨ob,xs,z⟩
     ·rw [q] at z;cases z
     ·have z2:=un.frzs b ob _ z;obtain ⟨e1,_⟩:=hok b _ z;obtain ⟨e2,_⟩:=hok' b _ z2;rw [e] at e1;cases e1;exact e2
 cases hk:K.lookup a with
 | some o=>
  have e:=KX a o hk;rw [ha] at e;cases e;refine core (λ_=>none) (λ_=>.inl rfl) (.inr ⟨_,vs.toArray,_,hk,rfl,rfl,rfl,by rw [zY,lenV];exact hl,by simpa using rv⟩) (λb u z=>by have z':(none:Option HO)=some u:=z;cases z') (λb z=>absurd rfl z) λz=>absurd rfl z
 | none=>
  refine core (λb=>if b=a then some (.frz {cls:=.type "list",data:=.seq vs.toArray} (.lst (ns.map V.int))) else none) (λb=> ?_) (.inl (.inr ⟨{cls:=.type "list",data:=.seq vs.toArray},if_pos rfl⟩)) (λb u z=> ?_) (λb z=> ?_) λ_=>hk
  ·by_cases hb:b=a
   ·exact .inr ⟨_,_,if_pos hb⟩
   ·exact .inl (if_neg hb)
  ·by_cases hb:b=a
   ·have z':=(if_pos hb).symm.trans z;cases z';subst hb;exact ⟨ha,by rw [zG];exact hl,vs,_,rv,ha⟩
   ·have z':=(if_neg hb).symm.trans z;cases z'
  ·by_cases hb:b=a
   ·exact hb
   ·exact absurd (if_neg hb) z
noncomputable def Lx (s:xy):Arguments:=match s with
 | .FunctionDef _ a _ _ _ _ _ _ _ _=>a
 | _=>{posonlyargs:= [],args:= [],vararg:=none,kwonlyargs:= [],kw_defaults:= [],kwarg:=none,defaults:= []}
noncomputable def Jb (s:xy):List xy:=match s with
 | .FunctionDef _ _ b _ _ _ _ _ _ _=>b
 | _=> []
noncomputable def Aw (s:xy):xw:=match s with
 | .FunctionDef _ _ _ _ _ _ sc _ _ _=>sc
 | _=>{kind:=.function,names:= [],isGenerator:=false,isCoroutine:=false}
abbrev CX0:CXT:=λ_ _ _ _ _ _=>False
abbrev E0:XK:=λ_ _ _=>False
theorem pass0 {X:Cx}:Passes CX0 X E0:=λ_ _ _ _ _ _ _ h=>h.elim
structure Fun (K:PySem.W.Frag) (x qual:Str) (st:xy) (f:xW) (fd:xq):Prop where
 ex:∃(oc:x9) (od:Option xW) (kV doc pm:x9) (an:Option xW) (cdv ct:x9) (osl:Array (Option x9)),
  fd=PySem.W.fnOf x qual (Lx st) (Jb st) (Aw st) .none kV doc pm an cdv ct/\K.lookup f=some ⟨oc,od,.func fd,osl⟩/\PySem.W.codeIn K cdv qual=true
 kp:PySem.W.keepIn K (.ref f)=true
section
variable {P:xj} {w:xA} {K:PySem.W.Frag} {mg:Str->Option x9} {base:Heap}
theorem Fun.ok {qual:Str} {st:xy} {f:xW} {N ps:List Str} {k:Nat} {sp:Sp} (F:Fun K x qual st f fd) (S:FnScope N ps (Aw st)) (len:∀vs H Q E,sp vs H Q E->vs.length=ps.length)
  (hbody:∀(cdv:x9) (A:xK) (outer:List Env) (s:xk) (H:Hp) (vs:List V) (Q:VK) (E:XK),Room k (A.deeper (envOfC qual (Aw st) s.heap.objs.size f cdv))->sp vs H Q E->
   ∃t,PSs (Ng CX0 P w K mg base N qual (Aw st) f cdv A outer s H E).nox (Jb st) t/\t {nx:=λ_ H'=>Q .non H',rt:=Q} (start N vs) H):FnOk P w K mg base CX0 (k + 1) f fd ps sp:=by
 obtain ⟨oc,od,kV,doc,pm,an,cdv,ct,osl,rfl,lk,hcd⟩:=F.ex;refine ZQN lk hcd S len λA outer s H vs Q E hr hsp=> ?_
 obtain ⟨t,h,q⟩:=hbody cdv A outer s H vs Q E hr hsp;exact ⟨t,h.nox,q⟩
theorem Fun.binds {qual:Str} {st:xy} {f:xW} {ps:List Str} (F:Fun K x qual st f fd)
  (h:∀(kV doc pm:x9) (an:Option xW) (cdv ct:x9) (us:List x9),us.length=ps.length->bindArgs (PySem.W.fnOf x qual (Lx st) (Jb st) (Aw st) .none kV doc pm an cdv ct) ⟨us,[]⟩=pure (ps.zip us)):Binds K fd ps []:=by
 obtain ⟨oc,od,kV,doc,pm,an,cdv,ct,osl,rfl,lk,hcd⟩:=F.ex;exact .all (h kV doc pm an cdv ct)
end
section
variable {X:Cx}
end
section
variable {κ:Type} [DecidableEq κ]
end
section
variable {P:xj} {w:xA} {H:Hp} {h:Heap} {a:xW}
end
section
variable {X:Cx} {vG:List (xW×Obj)} {σ:St} {H:Hp} {s:xk} {a:xW} {y v:V} {u r:x9} {o:Option V} {A:xK} {E:x9->xk->Prop}
end
section
variable {X:Cx} {vG:List (xW×Obj)} {σ:St} {H:Hp} {s:xk} {a:xW} {kvs:List (Key×V)} {k:Key} {u:x9} {A:xK} {E:x9->xk->Prop}
end
section
variable {X:Cx} {o i e value:xY} {pos pos' tpos:Pos} {td ty tv:TE}
end
section
variable {X:Cx} {pos:Pos}
end
section
variable {X:Cx} {vG:List (xW×Obj)} {σ:St} {H:Hp} {s:xk} {a:xW} {y d:V} {u r:x9} {o:Option V} {A:xK} {E:x9->xk->Prop}
end
section
variable {X:Cx} {o e f:xY} {apos cpos:Pos} {td ty tx:TE}
end
section
variable {X:Cx} {vG:List (xW×Obj)} {σ:St} {H:Hp} {s:xk} {a:xW} {kvs:List (Key×V)} {A:xK} {E:x9->xk->Prop}
end
section
variable {X:Cx} {vG:List (xW×Obj)} {σ:St} {H:Hp} {s:xk} {a:xW} {y:V} {u:x9} {A:xK} {E:x9->xk->Prop}
end
section
variable {X:Cx}
end
end L2
namespace L2
section
variable {κ:Type} [DecidableEq κ]
end
end L2
namespace DL
open PySem PySem.Spec L2
open PyProof.Rows hiding St
variable {α:Type} {K:PySem.W.Frag} {H:Hp} {p:xW} {v y:V} {vs:List V} {σ:St} {E:XK} {Q:VK} {W:Ends} {e tg:xY} {ho:HO} {i j k nt:Nat} {x:Str} {A:xK} {s:xk} {P:xj} {w:xA} {scope:xw} {env:Env} {X:Cx} {hi:Option Int}
inductive D where
 | non | bl (b:Bool) | int (i:Int) | str (x:Str) | ty (n:String)
 | tup (xs:List D)
 | fl (xs:List D)
 | ref (i:Nat)
variable {d:D} {ds xs:List D}
inductive DO where
 | lst (xs:List D)
 | dct (kvs:List (Key×D))
 | ins (c:Str) (fs:List (Str×D))
 | tab (c m:Str)
 | gone
variable {o:DO}
abbrev DH:=List DO
variable {G G' L:DH}
abbrev DSt:=List (Option D)
variable {S:DSt}
structure Xn where
 cls:Str
 fs:List (Str×D)
inductive R (α:Type) where
 | ok (a:α) (G:DH)
 | err (x:Xn) (G:DH)
 | bad
variable {r:R D} {f:D->D->DH->R D}
noncomputable def R.bind {α β:Type} (r:R α) (f:α->DH->R β):R β:=match r with
 | .ok a G=>f a G
 | .err x G=>.err x G
 | .bad=>.bad
@[simp] theorem R.J7 {β:Type} (a:α) (G:DH) (f:α->DH->R β):(R.ok a G).bind f=f a G:=id rfl
inductive SR where
 | nx (S:DSt) (G:DH)
 | rt (d:D) (G:DH)
 | bk (S:DSt) (G:DH)
 | ct (S:DSt) (G:DH)
 | err (x:Xn) (G:DH)
 | bad
abbrev DE:=DSt->DH->R D
variable {t te:DE}
abbrev DB:=DSt->DH->R Bool
variable {c:DB}
abbrev DA:=DSt->DH->R (List D)
abbrev DS:=DSt->DH->SR
variable {u:DS}
noncomputable def FzL (K:PySem.W.Frag) (H:Hp) (a:xW) (xs:List V):Prop:=
 (∃o,H a=some (.frz o (.lst xs)))∨
  ∃(o:Obj) (its:Array x9) (n:Nat),K.lookup a=some o/\o.cls=.type "list"/\o.dict=none/\o.data=.seq its n/\its.size<=sizeLine/\Vals xs its.toList
theorem FzL.sq {a:xW} {xs:List V} (h:FzL K H a xs):SqL K H a xs:=by
 rcases h with ⟨o,h⟩ | h
 ·exact .inl (.inr ⟨o,h⟩)
 ·exact .inr h
structure Wd where
 K:PySem.W.Frag
 n:Nat
 m:Nat->xW
 H:Hp
variable {a b:Wd}
mutual
noncomputable def Rep (a:Wd):D->V->Prop
 | .non,v=>v=.non
 | .bl b,v=>v=.bl b
 | .int i,v=>v=.int i
 | .str x,v=>v=.str x
 | .ty n,v=>v=.ty n
 | .tup ds,v=>∃p vs,v=.ref p/\SqT a.K a.H p vs/\Reps a ds vs
 | .fl ds,v=>∃p vs,v=.ref p/\FzL a.K a.H p vs/\Reps a ds vs
 | .ref i,v=>i < a.n/\v=.ref (a.m i)
noncomputable def Reps (a:Wd):List D->List V->Prop
 | [],vs=>vs= []
 | d::ds,vs=>∃v r,vs=v::r/\Rep a d v/\Reps a ds r
end
def lamQ:Str:="Sending.send_by.<locals>.<lambda>"
noncomputable def TabOk (H:Hp) (P:xW):Prop:=
 ∃ps:Array x9,H P=some (.tbl ps)/\TriplesOk ps.toList/\∀pos cv,codeAmong pos ps.toList=some cv->∃(c:xW) (oc:Obj) (vs:Array x9) (t:Tok),cv=.ref c/\H c=some (.frz oc (.own 0))/\oc.data=.fields vs/\vs[1]? =some (.str lamQ t)
theorem TabOk.mono {H':Hp} {P:xW} (h:TabOk H P) (ht:∀p ps,H p=some (.tbl ps)->H' p=some (.tbl ps)) (hf:∀p o u,H p=some (.frz o u)->H' p=some (.frz o u)):TabOk H' P:=by obtain ⟨ps,e,t,k⟩:=h;refine ⟨ps,ht _ _ e,t,λpos cv hc=> ?_⟩;obtain ⟨c,oc,vs,tk,e1,e2,e3,e4⟩:=k pos cv hc;exact ⟨c,oc,vs,tk,e1,hf _ _ _ e2,e3,e4⟩
noncomputable def TabAt (K:PySem.W.Frag) (C m:Str) (c P:xW):Prop:=
 ∃(Ca f:xW) (oc:x9) (od:Option xW) (fd:xq) (sl:Array (Option x9)),PySem.W.nsIn K vX C=some (some (.ref Ca))/\PySem.W.findIn K (.ref Ca) m=some (some (.ref f))/\K.lookup f=some ⟨oc,od,.func fd,sl⟩/\fd.code=.ref c/\PySem.W.codeHdIn K c P=true
structure Ext (a b:Wd):Prop where
 k:b.K=a.K
 n:a.n<=b.n
 m:∀i,i < a.n->b.m i=a.m i
 tup:∀p xs,a.H p=some (.tup xs)->b.H p=some (.tup xs)
 frz:∀p o u,a.H p=some (.frz o u)->b.H p=some (.frz o u)
 tab:∀p,TabOk a.H p->TabOk b.H p
theorem Ext.refl (a:Wd):Ext a a:=⟨rfl,zK _,λ_ _=>rfl,λ_ _ h=>h,λ_ _ _ h=>h,λ_ h=>h⟩
theorem Ext.trans {c:Wd} (x:Ext a b) (y:Ext b c):Ext a c:=
 ⟨y.k.trans x.k,zB x.n y.n,λi h=>(y.m i (zq h x.n)).trans (x.m i h),λp xs h=>y.tup p xs (x.tup p xs h),λp o u h=>y.frz p o u (x.frz p o u h),λp h=>y.tab p (x.tab p h)⟩
theorem Ext.sqT (x:Ext a b) {xs:List V} (h:SqT a.K a.H p xs):SqT b.K b.H p xs:=by
 rcases h with (h | ⟨o,h⟩) | h
 ·exact .inl (.inl (x.tup _ _ h))
 ·exact .inl (.inr ⟨o,x.frz _ _ _ h⟩)
 ·exact .inr (by rw [x.k];exact h)
theorem Ext.fzL (x:Ext a b) {xs:List V} (h:FzL a.K a.H p xs):FzL b.K b.H p xs:=by
 rcases h with ⟨o,h⟩ | h
 ·exact .inl ⟨o,x.frz _ _ _ h⟩
 ·exact .inr (by rw [x.k];exact h)
mutual
theorem Rep.mono (x:Ext a b):∀{d:D} {v:V},Rep a d v->Rep b d v
 | .non,_,h=>h
 | .bl _,_,h=>h
 | .int _,_,h=>h
 | .str _,_,h=>h
 | .ty _,_,h=>h
 | .tup ds,v,h=>by obtain ⟨p,vs,e,q,r⟩:=h;exact ⟨p,vs,e,x.sqT q,Reps.mono x r⟩
 | .fl ds,v,h=>by obtain ⟨p,vs,e,q,r⟩:=h;exact ⟨p,vs,e,x.fzL q,Reps.mono x r⟩
 | .ref i,v,h=>by obtain ⟨l,e⟩:=h;exact ⟨zq l x.n,by rw [x.m i l];exact e⟩
theorem Reps.mono (x:Ext a b):∀{ds:List D} {vs:List V},Reps a ds vs->Reps b ds vs
 | [],_,h=>h
 | d::ds,vs,h=>by obtain ⟨v,r,e,h1,h2⟩:=h;exact ⟨v,r,e,Rep.mono x h1,Reps.mono x h2⟩
end
theorem Reps.length:∀{ds:List D} {vs:List V},Reps a ds vs->ds.length=vs.length
 | [],vs,h=>by cases (show vs= [] from h);rfl
 | d::ds,vs,h=>by obtain ⟨v,r,e,h1,h2⟩:=h;subst e;show ds.length + 1=r.length + 1;rw [Reps.length h2]
theorem Reps.get:∀{ds:List D} {vs:List V} {i:Nat} {d:D},Reps a ds vs->ds[i]? =some d->∃v,vs[i]? =some v/\Rep a d v
 | [],vs,_,_,h,e=>by simp at e
 | d::ds,vs,0,d',h,e=>by obtain ⟨v,r,e1,h1,h2⟩:=h;subst e1;simp at e;subst e;exact ⟨v,rfl,h1⟩
 | d::ds,vs,i + 1,d',h,e=>by obtain ⟨v,r,e1,h1,h2⟩:=h;subst e1;obtain ⟨w,e2,h3⟩:=Reps.get (i:=i) (d:=d') h2 (by simpa using e);exact ⟨w,by simpa using e2,h3⟩
theorem Reps.get':∀{ds:List D} {vs:List V} {i:Nat} {v:V},Reps a ds vs->vs[i]? =some v->∃d,ds[i]? =some d/\Rep a d v
 | [],vs,_,_,h,e=>by cases (show vs= [] from h);simp at e
 | d::ds,vs,0,v',h,e=>by obtain ⟨v,r,e1,h1,h2⟩:=h;subst e1;simp at e;subst e;exact ⟨d,rfl,h1⟩
 | d::ds,vs,i + 1,v',h,e=>by obtain ⟨v,r,e1,h1,h2⟩:=h;subst e1;obtain ⟨w,e2,h3⟩:=Reps.get' (i:=i) (v:=v') h2 (by simpa using e);exact ⟨w,by simpa using e2,h3⟩
theorem Reps.append:∀{ds es:List D} {vs us:List V},Reps a ds vs->Reps a es us->Reps a (ds++es) (vs++us)
 | [],_,vs,_,h,h'=>by cases (show vs= [] from h);exact h'
 | d::ds,es,vs,us,h,h'=>by obtain ⟨v,r,e1,h1,h2⟩:=h;subst e1;exact ⟨v,r++us,rfl,h1,Reps.append h2 h'⟩
theorem Reps.cons (h:Rep a d v) (r:Reps a ds vs):Reps a (d::ds) (v::vs):=⟨v,vs,rfl,h,r⟩
theorem Reps.nil:Reps a [] []:=rfl
theorem Reps.set (h:Rep a d v):∀{ds:List D} {vs:List V} (i:Nat),Reps a ds vs->Reps a (ds.set i d) (vs.set i v)
 | [],vs,_,r=>by cases (show vs= [] from r);exact rfl
 | d'::ds,vs,0,r=>by obtain ⟨v',r',e1,h1,h2⟩:=r;subst e1;exact ⟨v,r',rfl,h,h2⟩
 | d'::ds,vs,i + 1,r=>by obtain ⟨v',r',e1,h1,h2⟩:=r;subst e1;exact ⟨v',r'.set i v,rfl,h1,Reps.set h i h2⟩
theorem Reps.take:∀{ds:List D} {vs:List V} (i:Nat),Reps a ds vs->Reps a (ds.take i) (vs.take i)
 | _,_,0,_=>rfl
 | [],vs,_ + 1,r=>by cases (show vs= [] from r);exact rfl
 | d'::ds,vs,i + 1,r=>by obtain ⟨v',r',e1,h1,h2⟩:=r;subst e1;exact ⟨v',r'.take i,rfl,h1,Reps.take i h2⟩
theorem Reps.drop:∀{ds:List D} {vs:List V} (i:Nat),Reps a ds vs->Reps a (ds.drop i) (vs.drop i)
 | _,_,0,r=>r
 | [],vs,_ + 1,r=>by cases (show vs= [] from r);exact rfl
 | d'::ds,vs,i + 1,r=>by obtain ⟨v',r',e1,h1,h2⟩:=r;subst e1;exact Reps.drop i h2
theorem Reps.ints:∀(ns:List Int),Reps a (ns.map D.int) (ns.map V.int)
 | []=>rfl
 | n::ns=>⟨.int n,ns.map V.int,rfl,rfl,Reps.ints ns⟩
noncomputable def RepKV (a:Wd) (kvs:List (Key×D)) (us:List (Key×V)):Prop:=kvs.map (·.1)=us.map (·.1)/\Reps a (kvs.map (·.2)) (us.map (·.2))
noncomputable def RepF (a:Wd) (fs:List (Str×D)) (us:List (Str×V)):Prop:=fs.map (·.1)=us.map (·.1)/\Reps a (fs.map (·.2)) (us.map (·.2))
noncomputable def ORep (a:Wd):DO->Option HO->Prop
 | .lst ds,o=>∃vs,o=some (.lst vs)/\Reps a ds vs
 | .dct kvs,o=>∃us,o=some (.dK us)/\RepKV a kvs us
 | .ins c fs,o=>∃C dx us,PySem.W.nsIn a.K vX c=some (some (.ref C))/\o=some (.ins C dx us)/\RepF a fs us
 | .tab C m,_=>∃c P,TabAt a.K C m c P/\TabOk a.H P
 | .gone,_=>True
structure Sim (a:Wd) (G:DH):Prop where
 len:G.length=a.n
 inj:∀i j,i < a.n->j < a.n->a.m i=a.m j->i=j
 obj:∀(i:Nat) (o:DO),G[i]? =some o->ORep a o (a.H (a.m i))
 tr:∀i,i < a.n->a.H (a.m i)≠none
structure RepS (a:Wd) (S:DSt) (σ:St):Prop where
 len:S.length=σ.length
 get:∀(i:Nat) (d:D),S[i]? =some (some d)->∃v,σ[i]? =some (some v)/\Rep a d v
theorem RepS.mono (x:Ext a b) (r:RepS a S σ):RepS b S σ:=⟨r.len,λi d h=>let ⟨v,e,q⟩:=r.get i d h;⟨v,e,q.mono x⟩⟩
theorem RepS.set (r:RepS a S σ) (i:Nat) (h:Rep a d v):RepS a (S.set i (some d)) (σ.set i (some v)):=by
 refine ⟨by simpa using r.len,λj e he=> ?_⟩;rw [jq] at he ⊢;by_cases hij:i=j
 ·subst hij;rw [if_pos rfl] at he ⊢;by_cases hl:i < S.length
  ·rw [if_pos hl] at he;have e1:d=e:=by simpa using he
   subst e1;rw [if_pos (by rw [<-r.len];exact hl)];exact ⟨v,rfl,h⟩
  ·rw [if_neg hl] at he;cases he
 ·rw [if_neg hij] at he ⊢;exact r.get j e he
def XOk (E:XK) (a:Wd) (x:Xn) (G:DH):Prop:=False
noncomputable def out (E:XK) (a:Wd) (r:R D) (Q:VK):Prop:=match r with
 | .ok d G=>∀(b:Wd) (v:V),Ext a b->Sim b G->Rep b d v->Q v b.H
 | .err x G=>XOk E a x G
 | .bad=>False
noncomputable def Gw (E:XK) (a:Wd) (r:R Bool) (Q:Bool->Hp->Prop):Prop:=match r with
 | .ok k G=>∀(b:Wd),Ext a b->Sim b G->Q k b.H
 | .err x G=>XOk E a x G
 | .bad=>False
noncomputable def Gy (E:XK) (a:Wd) (r:R (List D)) (Q:List V->Hp->Prop):Prop:=match r with
 | .ok ds G=>∀(b:Wd) (vs:List V),Ext a b->Sim b G->Reps b ds vs->Q vs b.H
 | .err x G=>XOk E a x G
 | .bad=>False
noncomputable def Cz (E:XK) (a:Wd) (r:SR) (W:Ends):Prop:=match r with
 | .nx S G=>∀(b:Wd) (σ:St),Ext a b->Sim b G->RepS b S σ->W.nx σ b.H
 | .bk S G=>∀(b:Wd) (σ:St),Ext a b->Sim b G->RepS b S σ->W.bk σ b.H
 | .ct S G=>∀(b:Wd) (σ:St),Ext a b->Sim b G->RepS b S σ->W.ct σ b.H
 | .rt d G=>∀(b:Wd) (v:V),Ext a b->Sim b G->Rep b d v->W.rt v b.H
 | .err x G=>XOk E a x G
 | .bad=>False
theorem XOk.mono (x:Ext a b) {e:Xn} (h:XOk E a e G):XOk E b e G:=h
theorem out.mono (x:Ext a b) (h:out E a r Q):out E b r Q:=by
 cases r with
 | ok d G=>exact λc v y s q=>h c v (x.trans y) s q
 | err e G=>exact XOk.mono (E:=E) (e:=e) (G:=G) x h
 | bad=>exact h
theorem Gw.mono (x:Ext a b) {r:R Bool} {Q:Bool->Hp->Prop} (h:Gw E a r Q):Gw E b r Q:=by
 cases r with
 | ok d G=>exact λc y s=>h c (x.trans y) s
 | err e G=>exact XOk.mono (E:=E) (e:=e) (G:=G) x h
 | bad=>exact h
theorem Gy.mono (x:Ext a b) {r:R (List D)} {Q:List V->Hp->Prop} (h:Gy E a r Q):Gy E b r Q:=by
 cases r with
 | ok d G=>exact λc vs y s q=>h c vs (x.trans y) s q
 | err e G=>exact XOk.mono (E:=E) (e:=e) (G:=G) x h
 | bad=>exact h
theorem Cz.mono (x:Ext a b) {r:SR} (h:Cz E a r W):Cz E b r W:=by
 cases r with
 | nx d G=>exact λc vs y s q=>h c vs (x.trans y) s q
 | bk d G=>exact λc vs y s q=>h c vs (x.trans y) s q
 | ct d G=>exact λc vs y s q=>h c vs (x.trans y) s q
 | rt d G=>exact λc vs y s q=>h c vs (x.trans y) s q
 | err e G=>exact XOk.mono (E:=E) (e:=e) (G:=G) x h
 | bad=>exact h
noncomputable def lE (K:PySem.W.Frag) (E:XK) (t:DE):TE:=λσ H Q=>∃(a:Wd) (S:DSt) (G:DH),a.K=K/\a.H=H/\Sim a G/\RepS a S σ/\out E a (t S G) Q
noncomputable def lB (K:PySem.W.Frag) (E:XK) (t:DB):TT:=λσ H Q=>∃(a:Wd) (S:DSt) (G:DH),a.K=K/\a.H=H/\Sim a G/\RepS a S σ/\Gw E a (t S G) Q
noncomputable def lA (K:PySem.W.Frag) (E:XK) (t:DA):TA:=λσ H Q=>∃(a:Wd) (S:DSt) (G:DH),a.K=K/\a.H=H/\Sim a G/\RepS a S σ/\Gy E a (t S G) Q
noncomputable def lS (K:PySem.W.Frag) (E:XK) (t:DS):TS:=λW σ H=>∃(a:Wd) (S:DSt) (G:DH),a.K=K/\a.H=H/\Sim a G/\RepS a S σ/\Cz E a (t S G) W
noncomputable def lR2 (K:PySem.W.Frag) (E:XK) (f:D->D->DH->R D):R2:=λx y H Q=>∃(a:Wd) (G:DH) (d e:D),a.K=K/\a.H=H/\Sim a G/\Rep a d x/\Rep a e y/\out E a (f d e G) Q
noncomputable def lR1 (K:PySem.W.Frag) (E:XK) (f:D->DH->R D):V->Hp->VK->Prop:=λx H Q=>∃(a:Wd) (G:DH) (d:D),a.K=K/\a.H=H/\Sim a G/\Rep a d x/\out E a (f d G) Q
noncomputable def lRn (K:PySem.W.Frag) (E:XK) (f:List D->DH->R D):List V->Hp->VK->Prop:=λxs H Q=>∃(a:Wd) (G:DH) (ds:List D),a.K=K/\a.H=H/\Sim a G/\Reps a ds xs/\out E a (f ds G) Q
noncomputable def lF (K:PySem.W.Frag) (f:List D->DH->R D):Sp:=λxs H Q E=>∃(a:Wd) (G:DH) (ds:List D),a.K=K/\a.H=H/\Sim a G/\Reps a ds xs/\out E a (f ds G) Q
section
variable {X:Cx} {E:XK}
def QE (X:Cx) (E:XK) (e:xY) (t:DE):Prop:=PE X e (lE X.K E t)
def QT (X:Cx) (E:XK) (e:xY) (t:DB):Prop:=PT X e (lB X.K E t)
def QA (X:Cx) (E:XK) (es:List xY) (t:DA):Prop:=PA X es (lA X.K E t)
def QS (X:Cx) (E:XK) (st:xy) (t:DS):Prop:=PS X st (lS X.K E t)
def QSs (X:Cx) (E:XK) (st:List xy) (t:DS):Prop:=PSs X st (lS X.K E t)
theorem _root_.L2.PE.mono {t t':TE} (h:PE X e t) (w:∀σ H Q,t' σ H Q->t σ H Q):PE X e t':=λvG s σ H Q I q=>h vG s σ H Q I (w σ H Q q)
theorem _root_.L2.PT.mono {t t':TT} (h:PT X e t) (w:∀σ H Q,t' σ H Q->t σ H Q):PT X e t':=λvG s σ H Q I q=>h vG s σ H Q I (w σ H Q q)
theorem _root_.L2.PA.mono {e:List xY} {t t':TA} (h:PA X e t) (w:∀σ H Q,t' σ H Q->t σ H Q):PA X e t':=λpos vG s σ H Q I q=>h pos vG s σ H Q I (w σ H Q q)
theorem _root_.L2.PS.mono {e:xy} {t t':TS} (h:PS X e t) (w:∀W σ H,t' W σ H->t W σ H):PS X e t':=λvG s σ H W I q=>h vG s σ H W I (w W σ H q)
theorem _root_.L2.PSs.mono {e:List xy} {t t':TS} (h:PSs X e t) (w:∀W σ H,t' W σ H->t W σ H):PSs X e t':=λvG s σ H W I q=>h vG s σ H W I (w W σ H q)
theorem _root_.L2.OpR.mono {f:x9->x9->Sem x9} {r r':R2} (h:OpR X f r) (w:∀x y H Q,r' x y H Q->r x y H Q):OpR X f r':=λvG s σ H x y v u Q I rx ry q=>h vG s σ H x y v u Q I rx ry (w _ _ _ _ q)
end
theorem Ig {f:D->DH->R D} (h:out E a (r.bind f) Q):
  out E a r (λv H=>∃(b:Wd) (d:D) (G:DH),b.H=H/\Ext a b/\Sim b G/\Rep b d v/\r=.ok d G/\out E b (f d G) Q):=by
 cases r with
 | ok d G=>exact λb v x s q=>⟨b,d,G,rfl,x,s,q,rfl,out.mono x h⟩
 | err e G=>exact h
 | bad=>exact h
theorem Mr {r:R (List D)} {f:List D->DH->R D} (h:out E a (r.bind f) Q):
  Gy E a r (λvs H=>∃(b:Wd) (ds:List D) (G:DH),b.H=H/\Ext a b/\Sim b G/\Reps b ds vs/\r=.ok ds G/\out E b (f ds G) Q):=by
 cases r with
 | ok d G=>exact λb v x s q=>⟨b,d,G,rfl,x,s,q,rfl,out.mono x h⟩
 | err e G=>exact h
 | bad=>exact h
theorem ZFs {r:R Bool} {f:Bool->DH->R D} (h:out E a (r.bind f) Q):
  Gw E a r (λk H=>∃(b:Wd) (G:DH),b.H=H/\Ext a b/\Sim b G/\r=.ok k G/\out E b (f k G) Q):=by
 cases r with
 | ok d G=>exact λb x s=>⟨b,G,rfl,x,s,rfl,out.mono x h⟩
 | err e G=>exact h
 | bad=>exact h
theorem ZOi {f:D->DH->R Bool} {Q:Bool->Hp->Prop} (h:Gw E a (r.bind f) Q):
  out E a r (λv H=>∃(b:Wd) (d:D) (G:DH),b.H=H/\Ext a b/\Sim b G/\Rep b d v/\r=.ok d G/\Gw E b (f d G) Q):=by
 cases r with
 | ok d G=>exact λb v x s q=>⟨b,d,G,rfl,x,s,q,rfl,Gw.mono x h⟩
 | err e G=>exact h
 | bad=>exact h
theorem ZDm {r:R Bool} {f:Bool->DH->R Bool} {Q:Bool->Hp->Prop} (h:Gw E a (r.bind f) Q):
  Gw E a r (λk H=>∃(b:Wd) (G:DH),b.H=H/\Ext a b/\Sim b G/\r=.ok k G/\Gw E b (f k G) Q):=by
 cases r with
 | ok d G=>exact λb x s=>⟨b,G,rfl,x,s,rfl,Gw.mono x h⟩
 | err e G=>exact h
 | bad=>exact h
theorem ZMh {f:D->DH->R (List D)} {Q:List V->Hp->Prop} (h:Gy E a (r.bind f) Q):
  out E a r (λv H=>∃(b:Wd) (d:D) (G:DH),b.H=H/\Ext a b/\Sim b G/\Rep b d v/\r=.ok d G/\Gy E b (f d G) Q):=by
 cases r with
 | ok d G=>exact λb v x s q=>⟨b,d,G,rfl,x,s,q,rfl,Gy.mono x h⟩
 | err e G=>exact h
 | bad=>exact h
theorem ZO4 {r:R (List D)} {f:List D->DH->R (List D)} {Q:List V->Hp->Prop} (h:Gy E a (r.bind f) Q):
  Gy E a r (λvs H=>∃(b:Wd) (ds:List D) (G:DH),b.H=H/\Ext a b/\Sim b G/\Reps b ds vs/\r=.ok ds G/\Gy E b (f ds G) Q):=by
 cases r with
 | ok d G=>exact λb v x s q=>⟨b,d,G,rfl,x,s,q,rfl,Gy.mono x h⟩
 | err e G=>exact h
 | bad=>exact h
noncomputable def R.toS {α:Type} (r:R α) (f:α->DH->SR):SR:=match r with
 | .ok a G=>f a G
 | .err x G=>.err x G
 | .bad=>.bad
@[simp] theorem R.El (a:α) (G:DH) (f:α->DH->SR):(R.ok a G).toS f=f a G:=id rfl
theorem Im {f:D->DH->SR} (h:Cz E a (r.toS f) W):
  out E a r (λv H=>∃(b:Wd) (d:D) (G:DH),b.H=H/\Ext a b/\Sim b G/\Rep b d v/\r=.ok d G/\Cz E b (f d G) W):=by
 cases r with
 | ok d G=>exact λb v x s q=>⟨b,d,G,rfl,x,s,q,rfl,Cz.mono x h⟩
 | err e G=>exact h
 | bad=>exact h
theorem ZGY {r:R Bool} {f:Bool->DH->SR} (h:Cz E a (r.toS f) W):
  Gw E a r (λk H=>∃(b:Wd) (G:DH),b.H=H/\Ext a b/\Sim b G/\r=.ok k G/\Cz E b (f k G) W):=by
 cases r with
 | ok d G=>exact λb x s=>⟨b,G,rfl,x,s,rfl,Cz.mono x h⟩
 | err e G=>exact h
 | bad=>exact h
section
theorem out.imp {Q':VK} (h:out E a r Q) (w:∀v H,Q v H->Q' v H):out E a r Q':=by
 cases r with
 | ok d G=>exact λb v x s q=>w _ _ (h b v x s q)
 | err e G=>exact h
 | bad=>exact h
theorem Gy.imp {r:R (List D)} {Q Q':List V->Hp->Prop} (h:Gy E a r Q) (w:∀v H,Q v H->Q' v H):Gy E a r Q':=by
 cases r with
 | ok d G=>exact λb v x s q=>w _ _ (h b v x s q)
 | err e G=>exact h
 | bad=>exact h
theorem Gw.imp {r:R Bool} {Q Q':Bool->Hp->Prop} (h:Gw E a r Q) (w:∀v H,Q v H->Q' v H):Gw E a r Q':=by
 cases r with
 | ok d G=>exact λb x s=>w _ _ (h b x s)
 | err e G=>exact h
 | bad=>exact h
noncomputable def Wd.push (a:Wd) (p:xW) (ho:HO):Wd:=⟨a.K,a.n + 1,λk=>if k=a.n then p else a.m k,upd a.H p ho⟩
def Wd.put (a:Wd) (p:xW) (ho:HO):Wd:={a with H:=upd a.H p ho}
theorem Ext.put (h:a.H p=none):Ext a (a.put p ho):=
 ⟨rfl,zK _,λ_ _=>rfl,λq xs e=>by show upd a.H p ho q=_;rw [Bh (Ij e h)];exact e,λq o u e=>by show upd a.H p ho q=_;rw [Bh (Ij e h)];exact e,λ_ t=>t.mono (λq ps e=>by show upd a.H p ho q=_;rw [Bh (Ij e h)];exact e) (λq o u e=>by show upd a.H p ho q=_;rw [Bh (Ij e h)];exact e)⟩
theorem Ext.push (h:a.H p=none):Ext a (a.push p ho):=
 ⟨rfl,j5 _,λi hi=>by show (if i=a.n then p else a.m i)=a.m i;rw [if_neg (zD hi)],λq xs e=>by show upd a.H p ho q=_;rw [Bh (Ij e h)];exact e,λq o u e=>by show upd a.H p ho q=_;rw [Bh (Ij e h)];exact e,λ_ t=>t.mono (λq ps e=>by show upd a.H p ho q=_;rw [Bh (Ij e h)];exact e) (λq o u e=>by show upd a.H p ho q=_;rw [Bh (Ij e h)];exact e)⟩
theorem ORep.mono (x:Ext a b) {q:Option HO} (h:ORep a o q):ORep b o q:=by
 cases o with
 | lst ds=>obtain ⟨vs,e,r⟩:=h;exact ⟨vs,e,r.mono x⟩
 | dct kvs=>obtain ⟨us,e,k,r⟩:=h;exact ⟨us,e,k,r.mono x⟩
 | ins c fs=>obtain ⟨C,dx,us,n,e,k,r⟩:=h;exact ⟨C,dx,us,by rw [x.k];exact n,e,k,r.mono x⟩
 | tab C m=>obtain ⟨c,P,e,t⟩:=h;exact ⟨c,P,by rw [x.k];exact e,x.tab _ t⟩
 | gone=>trivial
theorem Sim.lt (s:Sim a G) (h:G[i]? =some o):i < a.n:=by rw [<-s.len];exact (zE.mp h).1
theorem Sim.put (s:Sim a G) (h:a.H p=none):Sim (a.put p ho) G:=by
 refine ⟨s.len,s.inj,λi o e=> ?_,λi hi=> ?_⟩
 ·have z:a.H (a.m i)≠none:=s.tr i (s.lt e);have ne:a.m i≠p:=λq=>z (by rw [q];exact h)
  show ORep _ o (upd a.H p ho (a.m i));rw [Bh ne];exact (s.obj i o e).mono (Ext.put h)
 ·have z:a.H (a.m i)≠none:=s.tr i hi;have ne:a.m i≠p:=λq=>z (by rw [q];exact h)
  show upd a.H p ho (a.m i)≠none;rw [Bh ne];exact z
theorem Sim.push (s:Sim a G) (h:a.H p=none) (r:ORep (a.push p ho) o (some ho)):Sim (a.push p ho) (G++ [o]):=by
 have nep:∀i,i < a.n->a.m i≠p:=λi hi q=>s.tr i hi (by rw [q];exact h)
 have old:∀i,i < a.n->(a.push p ho).m i=a.m i:=λi hi=>by show (if i=a.n then p else a.m i)=_;rw [if_neg (zD hi)]
 have new:(a.push p ho).m a.n=p:=by show (if a.n=a.n then p else a.m a.n)=_;rw [if_pos rfl]
 refine ⟨by simp [s.len,Wd.push],λi j hi hj e=> ?_,λi u e=> ?_,λi hi=> ?_⟩
 ·have hi':i < a.n + 1:=hi;have hj':j < a.n + 1:=hj;by_cases h1:i < a.n
  ·by_cases h2:j < a.n
   ·rw [old i h1,old j h2] at e;exact s.inj i j h1 h2 e
   ·have:j=a.n:=by lia
    subst this;rw [old i h1,new] at e;exact absurd e (nep i h1)
  ·have:i=a.n:=by lia
   subst this;by_cases h2:j < a.n
   ·rw [old j h2,new] at e;exact absurd e.symm (nep j h2)
   ·lia
 ·by_cases h1:i < a.n
  ·rw [zT (by rw [s.len];exact h1)] at e;rw [old i h1];show ORep _ u (upd a.H p ho (a.m i));rw [Bh (nep i h1)];exact (s.obj i u e).mono (Ext.push h)
  ·have hl:i < (G++ [o]).length:=(zE.mp e).1;have:i=a.n:=by rw [qQ,s.len] at hl;simp at hl;lia
   subst this;rw [zH (by rw [s.len];exact zK _),s.len] at e;simp at e;subst e;rw [new];show ORep _ o (upd a.H p ho p);rw [Gh];exact r
 ·have hi':i < a.n + 1:=hi;by_cases h1:i < a.n
  ·rw [old i h1];show upd a.H p ho (a.m i)≠none;rw [Bh (nep i h1)];exact s.tr i h1
  ·have:i=a.n:=by lia
   subst this;rw [new];show upd a.H p ho p≠none;rw [Gh];simp
theorem Ext.wr (h:a.H p=some (.lst vs)):Ext a (a.put p ho):=
 ⟨rfl,zK _,λ_ _=>rfl,λq xs e=>by
  show upd a.H p ho q=_;rw [Bh (λz=>by subst z;rw [h] at e;cases e)];exact e,λq o u e=>by
  show upd a.H p ho q=_;rw [Bh (λz=>by subst z;rw [h] at e;cases e)];exact e,λ_ t=>t.mono (λq ps e=>by show upd a.H p ho q=_;rw [Bh (λz=>by subst z;rw [h] at e;cases e)];exact e) (λq o u e=>by show upd a.H p ho q=_;rw [Bh (λz=>by subst z;rw [h] at e;cases e)];exact e)⟩
theorem Sim.wr (s:Sim a G) (hi:i < a.n) {vs':List V} {ds':List D} (h:a.H (a.m i)=some (.lst vs)) (r:Reps (a.put (a.m i) (.lst vs')) ds' vs'):Sim (a.put (a.m i) (.lst vs')) (G.set i (.lst ds')):=by
 refine ⟨by rw [jD];exact s.len,s.inj,λj o e=> ?_,λj hj=> ?_⟩
 ·rw [jq] at e;show ORep _ o (upd a.H (a.m i) (.lst vs') (a.m j));by_cases hij:i=j
  ·subst hij;rw [if_pos rfl,if_pos (by rw [s.len];exact hi)] at e;cases e;rw [Gh];exact ⟨vs',rfl,r⟩
  ·rw [if_neg hij] at e;rw [Bh λz=>hij (s.inj _ _ (s.lt e) hi z).symm];exact (s.obj j o e).mono (Ext.wr h)
 ·show upd a.H (a.m i) (.lst vs') (a.m j)≠none;by_cases hij:a.m j=a.m i
  ·rw [hij,Gh];simp
  ·rw [Bh hij];exact s.tr j hj
mutual
noncomputable def bel (n:Nat):D->Bool
 | .ref i=>decide (i < n)
 | .tup ds=>bels n ds
 | .fl ds=>bels n ds
 | _=>true
noncomputable def bels (n:Nat):List D->Bool
 | []=>true
 | d::ds=>bel n d && bels n ds
end
noncomputable def Od (n:Nat):DO->Bool
 | .lst ds=>bels n ds
 | .dct kvs=>bels n (kvs.map (·.2))
 | .ins _ fs=>bels n (fs.map (·.2))
 | .tab _ _=>true
 | .gone=>true
mutual
theorem Rep.bel:∀{d:D} {v:V},Rep a d v->bel a.n d=true
 | .non,_,_=>by simp [DL.bel]
 | .bl _,_,_=>by simp [DL.bel]
 | .int _,_,_=>by simp [DL.bel]
 | .str _,_,_=>by simp [DL.bel]
 | .ty _,_,_=>by simp [DL.bel]
 | .tup ds,v,h=>by obtain ⟨p,vs,e,q,r⟩:=h;simp only [DL.bel];exact Reps.bels r
 | .fl ds,v,h=>by obtain ⟨p,vs,e,q,r⟩:=h;simp only [DL.bel];exact Reps.bels r
 | .ref i,v,h=>by obtain ⟨l,e⟩:=h;simp only [DL.bel];exact decide_eq_true l
theorem Reps.bels:∀{ds:List D} {vs:List V},Reps a ds vs->bels a.n ds=true
 | [],_,_=>by simp [DL.bels]
 | d::ds,vs,h=>by
  obtain ⟨v,r,e,h1,h2⟩:=h;simp only [DL.bels];rw [Rep.bel h1,Reps.bels h2]
  rfl
end
structure Cut (b c:Wd):Prop where
 k:c.K=b.K
 h:c.H=b.H
mutual
theorem Rep.cut {c:Wd} (x:Cut b c) {n:Nat} (hn:n<=c.n) (hm:∀i,i < n->c.m i=b.m i):∀{d:D} {v:V},Rep b d v->bel n d=true->Rep c d v
 | .non,_,h,_=>h
 | .bl _,_,h,_=>h
 | .int _,_,h,_=>h
 | .str _,_,h,_=>h
 | .ty _,_,h,_=>h
 | .tup ds,v,h,q=>by obtain ⟨p,vs,e,t,r⟩:=h;simp only [DL.bel] at q;exact ⟨p,vs,e,by rw [x.k,x.h];exact t,Reps.cut x hn hm r q⟩
 | .fl ds,v,h,q=>by obtain ⟨p,vs,e,t,r⟩:=h;simp only [DL.bel] at q;exact ⟨p,vs,e,by rw [x.k,x.h];exact t,Reps.cut x hn hm r q⟩
 | .ref i,v,h,q=>by obtain ⟨l,e⟩:=h;simp only [DL.bel] at q;have q':=of_decide_eq_true q;exact ⟨zq q' hn,by rw [hm i q'];exact e⟩
theorem Reps.cut {c:Wd} (x:Cut b c) {n:Nat} (hn:n<=c.n) (hm:∀i,i < n->c.m i=b.m i):∀{ds:List D} {vs:List V},Reps b ds vs->bels n ds=true->Reps c ds vs
 | [],_,h,_=>h
 | d::ds,vs,h,q=>by obtain ⟨v,r,e,h1,h2⟩:=h;simp only [DL.bels,zA] at q;exact ⟨v,r,e,Rep.cut x hn hm h1 q.1,Reps.cut x hn hm h2 q.2⟩
end
theorem ORep.cut {c:Wd} (x:Cut b c) {n:Nat} (hn:n<=c.n) (hm:∀i,i < n->c.m i=b.m i) {q:Option HO} (h:ORep b o q) (l:Od n o=true):ORep c o q:=by
 cases o with
 | lst ds=>obtain ⟨vs,e,r⟩:=h;exact ⟨vs,e,Reps.cut x hn hm r l⟩
 | dct kvs=>obtain ⟨us,e,k,r⟩:=h;exact ⟨us,e,k,Reps.cut x hn hm r l⟩
 | ins c fs=>obtain ⟨C,dx,us,n,e,k,r⟩:=h;exact ⟨C,dx,us,by rw [x.k];exact n,e,k,Reps.cut x hn hm r l⟩
 | tab C m=>obtain ⟨c,P,e,t⟩:=h;exact ⟨c,P,by rw [x.k];exact e,by rw [x.h];exact t⟩
 | gone=>trivial
theorem ORep.Od {q:Option HO} (h:ORep a o q):Od a.n o=true:=by
 cases o with
 | lst ds=>obtain ⟨vs,e,r⟩:=h;exact r.bels
 | dct kvs=>obtain ⟨us,e,k,r⟩:=h;exact r.bels
 | ins c fs=>obtain ⟨C,dx,us,n,e,k,r⟩:=h;exact r.bels
 | tab C m=>rfl
 | gone=>rfl
open Classical in
noncomputable def tidy (G:DH) (r:R D):R D:=match r with
 | .ok d G'=>if G'.take G.length=G then
   (if bel G.length d=true then .ok d G else match d with
    | .ref i=>match G'[i]? with
     | some o=>if Od G.length o=true then .ok (.ref G.length) (G++ [o]) else .ok d G'
     | none=>.ok d G'
    | _=>.ok d G') else .ok d G'
 | r=>r
theorem ZFM (s:Sim a G) (h:out E a (tidy G r) Q):out E a r Q:=by
 cases r with
 | err e G'=>exact h
 | bad=>exact h
 | ok d G'=>
  intro b v x sb rb;unfold tidy at h;dsimp only at h;split at h
  ·rename_i hG;have hlen:∀i o,G[i]? =some o->G'[i]? =some o:=λi o e=>by have hi:i < G.length:=(zE.mp e).1;rw [<-hG,jk hi] at e;exact e
   have base:∀(c:Wd),Cut b c->a.n<=c.n->(∀i,i < a.n->c.m i=b.m i)->∀i o,G[i]? =some o->ORep c o (c.H (c.m i)):=λc cc hn hm i o e=>by have q:=sb.obj i o (hlen i o e);rw [cc.h,hm i (s.lt e)];exact q.cut cc hn hm (s.obj i o e).Od
   split at h
   ·rename_i hb;rw [s.len] at hb;let c:Wd:=⟨b.K,a.n,b.m,b.H⟩;have cc:Cut b c:=⟨rfl,rfl⟩;refine h c v ⟨x.k,zK _,x.m,x.tup,x.frz,x.tab⟩ ⟨s.len,λi j hi hj=>sb.inj i j (zq hi x.n) (zq hj x.n),base c cc (zK _) (λ_ _=>rfl),λi hi=>sb.tr i (zq hi x.n)⟩ ?_;exact rb.cut cc (zK _) (λ_ _=>rfl) hb
   ·rename_i hb;split at h
    ·rename_i i;obtain ⟨il,iv⟩:=rb;split at h
     ·rename_i o ho;split at h
      ·rename_i hbo;rw [s.len] at hbo hb h;simp only [DL.bel,decide_eq_true_eq] at hb;let c:Wd:=⟨b.K,a.n + 1,λk=>if k=a.n then b.m i else b.m k,b.H⟩;have cc:Cut b c:=⟨rfl,rfl⟩;have cm:∀j,j < a.n->c.m j=b.m j:=λj hj=>by show (if j=a.n then b.m i else b.m j)=_;rw [if_neg (zD hj)]
       have cn:c.m a.n=b.m i:=by show (if a.n=a.n then b.m i else b.m a.n)=_;rw [if_pos rfl]
       have lt':∀j,j < a.n->j < b.n:=λj hj=>zq hj x.n
       refine h c v ⟨x.k,j5 _,λj hj=>(cm j hj).trans (x.m j hj),x.tup,x.frz,x.tab⟩ ⟨by simp [s.len,c],λj k hj hk e=> ?_,λj u e=> ?_,λj hj=> ?_⟩ ⟨qW _,by rw [cn];exact iv⟩
       ·have hj':j < a.n + 1:=hj;have hk':k < a.n + 1:=hk;by_cases h1:j < a.n
        ·by_cases h2:k < a.n
         ·rw [cm j h1,cm k h2] at e;exact sb.inj j k (lt' j h1) (lt' k h2) e
         ·have:k=a.n:=by lia
          subst this;rw [cm j h1,cn] at e;have:=sb.inj j i (lt' j h1) il e;lia
        ·have:j=a.n:=by lia
         subst this;by_cases h2:k < a.n
         ·rw [cm k h2,cn] at e;have:=sb.inj i k il (lt' k h2) e;lia
         ·lia
       ·by_cases h1:j < a.n
        ·rw [zT (by rw [s.len];exact h1)] at e;exact base c cc (j5 _) cm j u e
        ·have hl:j < (G++ [o]).length:=(zE.mp e).1;have:j=a.n:=by rw [qQ,s.len] at hl;simp at hl;lia
         subst this;rw [zH (by rw [s.len];exact zK _),s.len] at e;simp at e;subst e;rw [cn];exact (sb.obj i o ho).cut cc (j5 _) cm hbo
       ·have hj':j < a.n + 1:=hj;by_cases h1:j < a.n
        ·rw [cm j h1];exact sb.tr j (lt' j h1)
        ·have:j=a.n:=by lia
         subst this;rw [cn];exact sb.tr i il
      ·exact h b v x sb ⟨il,iv⟩
     ·exact h b v x sb ⟨il,iv⟩
    ·exact h b v x sb rb
  ·exact h b v x sb rb
end
def dV (i:Nat):DE:=λS G=>match S[i]? with
 | some (some d)=>.ok d G
 | _=>.bad
def dC (d:D):DE:=λ_ G=>.ok d G
noncomputable def dOp (f:D->D->DH->R D) (a b:DE):DE:=λS G=>(a S G).bind λx G1=>(b S G1).bind λy G2=>f x y G2
def dUn (f:D->DH->R D) (a:DE):DE:=λS G=>(a S G).bind f
def Ae:DA:=λ_ G=>.ok [] G
noncomputable def Ab (a:DE) (r:DA):DA:=λS G=>(a S G).bind λx G1=>(r S G1).bind λxs G2=>.ok (x::xs) G2
def dFn (f:List D->DH->R D) (t:DA):DE:=λS G=>(t S G).bind f
def Ep (t:DE):DE:=λS G=>tidy G (t S G)
def asB:D->DH->R Bool
 | .bl k,G=>.ok k G
 | _,_=>.bad
def Bk (t:DE):DB:=λS G=>(t S G).bind asB
noncomputable def Ow (t u:DB):DB:=λS G=>(t S G).bind λk G1=>if k=true then u S G1 else .ok false G1
noncomputable def dOr (t u:DB):DB:=λS G=>(t S G).bind λk G1=>if k=true then .ok true G1 else u S G1
def Sx (t:DB):DB:=λS G=>(t S G).bind λk G1=>.ok (!k) G1
noncomputable def Oz (t u:DE):DE:=λS G=>(t S G).bind λx G1=>(asB x G1).bind λk G2=>if k=true then u S G2 else .ok (.bl false) G2
noncomputable def ZAu (t:DE):DE:=λS G=>(t S G).bind λx G1=>(asB x G1).bind λk G2=>.ok (.bl (!k)) G2
noncomputable def dIf (c:DB) (t u:DE):DE:=λS G=>(c S G).bind λk G1=>if k=true then t S G1 else u S G1
noncomputable def Cg (ds:List D) (G:DH):R D:=if ds.length<=1000000 then .ok (.tup ds) G else .bad
noncomputable def Be (ds:List D) (G:DH):R D:=if ds.length<=1000000 then .ok (.ref G.length) (G++ [.lst ds]) else .bad
noncomputable def Bu (d:D) (G:DH):Option (List D):=match d with
 | .tup xs=>some xs
 | .fl xs=>some xs
 | .ref i=>match G[i]? with
  | some (.lst xs)=>some xs
  | _=>none
 | _=>none
theorem size6:(1000000:Nat)<=sizeLine:=by decide
section
variable {X:Cx} {E:XK} {a b c:xY} {ta tb tc:DE} {pos:Pos}
theorem two (h:lE K E (dOp f ta tb) σ H Q):tOp (lR2 K E f) (lE K E ta) (lE K E tb) σ H Q:=by obtain ⟨a,S,G,hk,rfl,s,r,h⟩:=h;refine ⟨a,S,G,hk,rfl,s,r,(Ig h).imp ?_⟩;rintro v _ ⟨b,d,G1,rfl,x,s1,q,_,h1⟩;refine ⟨b,S,G1,x.k.trans hk,rfl,s1,r.mono x,(Ig h1).imp ?_⟩;rintro w _ ⟨c,e,G2,rfl,y,s2,q2,_,h2⟩;exact ⟨c,G2,d,e,y.k.trans (x.k.trans hk),rfl,s2,q.mono y,q2,h2⟩
theorem Aa (i:Nat) {pos:Pos} (hN:X.N[i]? =some x:=by rfl) (hv:Vis X.env.scope x:=by first | exact Or.inl rfl | exact Or.inr (Or.inl rfl) | exact Or.inr (Or.inr rfl)) (hd:(x == ("__debug__":Str))=false:=by decide)
  (hcd:(x == ("__classdict__":Str))=false:=by decide):QE X E (.Name x pos) (dV i):=by
 refine (ZNk hN hv hd hcd).mono λσ H Q h=> ?_
 obtain ⟨a,S,G,hk,rfl,s,r,h⟩:=h;unfold dV at h;split at h
 ·rename_i d e;obtain ⟨v,e',q⟩:=r.get i d e;exact ⟨v,e',h a v (Ext.refl a) s q⟩
 ·exact h.elim
theorem R0 (h:lE K E (dC d) σ H Q) (r:∀a:Wd,a.K=K->Rep a d v):Q v H:=by obtain ⟨a,S,G,hk,rfl,s,_,h⟩:=h;exact h a v (Ext.refl a) s (r a hk)
theorem Ad {i:Int} :QE X E (.Constant (.int i) j pos) (dC (.int i)):=ZO1.mono λσ H Q h=>R0 h λ_ _=>rfl
theorem Z7 {i:Bool} :QE X E (.Constant (.bool i) j pos) (dC (.bl i)):=ZKD.mono λσ H Q h=>R0 h λ_ _=>rfl
theorem Io:QE X E (.Constant .none j pos) (dC .non):=ZOU.mono λσ H Q h=>R0 h λ_ _=>rfl
theorem Ea {i:Str} :QE X E (.Constant (.str i) j pos) (dC (.str i)):=ZNn.mono λσ H Q h=>R0 h λ_ _=>rfl
theorem Cj {u:x9} (hg:Gl X x) (hm:X.mg x=some u) (r:RelV v u) (rd:∀a:Wd,a.K=X.K->Rep a d v) (hd:(x == ("__debug__":Str))=false:=by decide):QE X E (.Name x pos) (dC d):=
 (ZPS hg hm r hd).mono λσ H Q h=>R0 h rd
theorem Ag {op:Operator} (ho:OpR X (xG op) (lR2 X.K E f)) (ha:QE X E a ta) (hb:QE X E b tb):QE X E (.BinOp a op b pos) (dOp f ta tb):=
 (ZRp ho ha hb).mono λ_ _ _ h=>two h
theorem Nt {op:CmpOp} (ho:OpR X (xN op) (lR2 X.K E f)) (ha:QE X E a ta) (hb:QE X E b tb) (hm:xF op b=false):QE X E (.Compare a [op] [b] pos) (dOp f ta tb):=
 (ZRJ ho ha hb hm).mono λ_ _ _ h=>two h
theorem ZEV {Q:Bool->Hp->Prop} (h:lB K E (Bk t) σ H Q):Wc (lE K E t) σ H Q:=by
 obtain ⟨a,S,G,hk,rfl,s,r,h⟩:=h;refine ⟨a,S,G,hk,rfl,s,r,(ZOi h).imp ?_⟩;rintro v _ ⟨b,d,G1,rfl,x,s1,q,_,h1⟩;cases d with
 | bl k=>exact ⟨k,q,h1 b (Ext.refl b) s1⟩
 | _=>exact h1.elim
theorem ZPz {t t':TE} (w:∀σ H Q,t' σ H Q->t σ H Q) (σ:St) (H:Hp) (Q:Bool->Hp->Prop) (h:Wc t' σ H Q):Wc t σ H Q:=w _ _ _ h
theorem Bw {op:CmpOp} (ho:OpR X (xN op) (lR2 X.K E f)) (ha:QE X E a ta) (hb:QE X E b tb) (hm:xF op b=false):QT X E (.Compare a [op] [b] pos) (Bk (dOp f ta tb)):=
 (ZL9 ho ha hb hm).mono λσ H Q h=>ZPz (λ_ _ _ z=>two z) σ H Q (ZEV h)
theorem Ui (ha:QE X E a ta) (he:∀whole,isTrue a X.env whole=(do let v<-whole;standAt a.pos;holding [v] (truthy v)):=by intro _;rfl):QT X E a (Bk ta):=
 (ZRF ha he).mono λσ H Q h=>ZEV h
theorem Fv (ha:QE X E a ta):QE X E a (Ep ta):=L2.PE.mono ha λσ H Q h=>by obtain ⟨w,S,G,hk,rfl,s,r,h⟩:=h;exact ⟨w,S,G,hk,rfl,s,r,ZFM s h⟩
def QW (X:Cx) (E:XK) (e:xY) (t:DB):Prop:=PW X e (lB X.K E t)
theorem _root_.L2.PW.mono {t t':TT} (h:PW X e t) (w:∀σ H Q,t' σ H Q->t σ H Q):PW X e t':=λwh vG s σ H Q I q=>h wh vG s σ H Q I (w σ H Q q)
variable {u t:DB} {rest:List xY}
theorem ZRQ {Q:Bool->Hp->Prop} (h:lB K E (Ow t u) σ H Q):tAnd (lB K E t) (lB K E u) σ H Q:=by
 obtain ⟨a,S,G,hk,rfl,s,r,h⟩:=h;refine ⟨a,S,G,hk,rfl,s,r,(ZDm h).imp ?_⟩;rintro k _ ⟨b,G1,rfl,x,s1,_,h1⟩;cases k with
 | true=>exact ⟨b,S,G1,x.k.trans hk,rfl,s1,r.mono x,h1⟩
 | false=>exact h1 b (Ext.refl b) s1
theorem ZKw {Q:Bool->Hp->Prop} (h:lB K E (dOr t u) σ H Q):tOr (lB K E t) (lB K E u) σ H Q:=by
 obtain ⟨a,S,G,hk,rfl,s,r,h⟩:=h;refine ⟨a,S,G,hk,rfl,s,r,(ZDm h).imp ?_⟩;rintro k _ ⟨b,G1,rfl,x,s1,_,h1⟩;cases k with
 | true=>exact h1 b (Ext.refl b) s1
 | false=>exact ⟨b,S,G1,x.k.trans hk,rfl,s1,r.mono x,h1⟩
theorem Wj (ha:QT X E a t):QW X E (.BoolOp .And [a] pos) t:=pw_and1 ha
theorem Nr (ha:QT X E a t):QW X E (.BoolOp .Or [a] pos) t:=pw_or1 ha
theorem Vf (ha:QT X E a t) (hb:QW X E (.BoolOp .And (b::rest) pos) u):QW X E (.BoolOp .And (a::b::rest) pos) (Ow t u):=(pw_and ha hb).mono λ_ _ _ h=>ZRQ h
theorem Jy (ha:QT X E a t) (hb:QW X E (.BoolOp .Or (b::rest) pos) u):QW X E (.BoolOp .Or (a::b::rest) pos) (dOr t u):=(pw_or ha hb).mono λ_ _ _ h=>ZKw h
theorem Jk (h:QW X E a t):QT X E a t:=L2.PW.pt h
theorem ZCN (ha:QT X E a t):QT X E (.UnaryOp .Not a pos) (Sx t):=(ZOu ha).mono λσ H Q h=>by obtain ⟨a,S,G,hk,rfl,s,r,h⟩:=h;refine ⟨a,S,G,hk,rfl,s,r,(ZDm h).imp ?_⟩;rintro k _ ⟨b,G1,rfl,x,s1,_,h1⟩;exact h1 b (Ext.refl b) s1
theorem Zq {op} (h:QE X E a ta):QE X E (.BoolOp op [a] pos) ta:=ZLJ h
theorem U4 (ha:QE X E a ta) (hb:QE X E (.BoolOp .And (b::rest) pos) tb):QE X E (.BoolOp .And (a::b::rest) pos) (Oz ta tb):=(ZQL ha hb).mono λσ H Q h=>by
 obtain ⟨a,S,G,hk,rfl,s,r,h⟩:=h;refine ⟨a,S,G,hk,rfl,s,r,(Ig h).imp ?_⟩;rintro v _ ⟨b,d,G1,rfl,x,s1,q,_,h1⟩;cases d with
 | bl k=>
  refine ⟨k,q,?_⟩;cases k with
  | true=>exact ⟨b,S,G1,x.k.trans hk,rfl,s1,r.mono x,h1⟩
  | false=>exact h1 b _ (Ext.refl b) s1 rfl
 | _=>exact h1.elim
theorem ZMx (ha:QE X E a ta):QE X E (.UnaryOp .Not a pos) (ZAu ta):=(ZNA ha).mono λσ H Q h=>by
 obtain ⟨a,S,G,hk,rfl,s,r,h⟩:=h;refine ⟨a,S,G,hk,rfl,s,r,(Ig h).imp ?_⟩;rintro v _ ⟨b,d,G1,rfl,x,s1,q,_,h1⟩;cases d with
 | bl k=>exact ⟨k,q,h1 b _ (Ext.refl b) s1 rfl⟩
 | _=>exact h1.elim
theorem ZL1 (hc:QT X E c t) (ha:QE X E a ta) (hb:QE X E b tb):QE X E (.IfExp c a b pos) (dIf t ta tb):=(ZLj hc ha hb).mono λσ H Q h=>by
 obtain ⟨a,S,G,hk,rfl,s,r,h⟩:=h;refine ⟨a,S,G,hk,rfl,s,r,(ZFs h).imp ?_⟩;rintro k _ ⟨b,G1,rfl,x,s1,_,h1⟩;cases k with
 | true=>exact ⟨b,S,G1,x.k.trans hk,rfl,s1,r.mono x,h1⟩
 | false=>exact ⟨b,S,G1,x.k.trans hk,rfl,s1,r.mono x,h1⟩
variable {es:List xY} {tr:DA}
theorem Af:QA X E [] Ae:=ZJ2.mono λσ H Q h=>by obtain ⟨a,S,G,hk,rfl,s,r,h⟩:=h;exact h a [] (Ext.refl a) s rfl
def notStar:xY->Bool
 | .Starred _ _=>false
 | _=>true
theorem Nu (a:xY) (es:List xY) (env:Env) (h:notStar a=true):vq (a::es) env=(false,eval a env)::vq es env:=by
 cases a <;> first
  | exact absurd h zy
  | rfl
theorem R6 (pos:Pos) (env:Env):∀es:List xY,es.all notStar=true->(xD pos (vq es env)).any (·.1)=false
 | [],_=>rfl
 | a::es,h=>by
  rw [jX,zA] at h;rw [Nu a es env h.1];have ih:=R6 pos env es h.2;unfold xD at ih ⊢;rw [zW,List.any_cons,ih]
  rfl
theorem Ac (ha:QE X E a ta) (hr:QA X E es tr) (hs:notStar a=true:=by rfl):QA X E (a::es) (Ab ta tr):=(ZKT ha hr (Nu a es X.env hs)).mono λσ H Q h=>by obtain ⟨a,S,G,hk,rfl,s,r,h⟩:=h;refine ⟨a,S,G,hk,rfl,s,r,(ZMh h).imp ?_⟩;rintro v _ ⟨b,d,G1,rfl,x,s1,q,_,h1⟩;refine ⟨b,S,G1,x.k.trans hk,rfl,s1,r.mono x,(ZO4 h1).imp ?_⟩;rintro vs _ ⟨c,ds,G2,rfl,y,s2,q2,_,h2⟩;exact h2 c _ (Ext.refl c) s2 (Reps.cons (q.mono y) q2)
theorem Eh {x1} (h:QA X E es tr):QE X E (.Tuple es x1 pos) (dFn Cg tr):=(ZRO h).mono λσ H Q h=>by
 obtain ⟨a,S,G,hk,rfl,s,r,h⟩:=h;refine ⟨a,S,G,hk,rfl,s,r,(Mr h).imp ?_⟩;rintro vs _ ⟨b,ds,G1,rfl,x,s1,q,_,h1⟩;unfold Cg at h1;split at h1
 ·rename_i hl;refine ⟨by rw [<-q.length];exact zB hl size6,λp hp=> ?_⟩;exact h1 (b.put p (.tup vs)) (.ref p) (Ext.put hp) (s1.put hp) ⟨p,vs,rfl,.of Gh,q.mono (Ext.put hp)⟩
 ·exact h1.elim
theorem Fb (h:QA X E es tr):QE X E (.List es pos) (dFn Be tr):=(ZRo h).mono λσ H Q h=>by
 obtain ⟨a,S,G,hk,rfl,s,r,h⟩:=h;refine ⟨a,S,G,hk,rfl,s,r,(Mr h).imp ?_⟩;rintro vs _ ⟨b,ds,G1,rfl,x,s1,q,_,h1⟩;unfold Be at h1;split at h1
 ·rename_i hl;refine ⟨by rw [<-q.length];exact zB hl size6,λp hp=> ?_⟩;refine h1 (b.push p (.lst vs)) (.ref p) (Ext.push hp) (s1.push hp ⟨vs,rfl,q.mono (Ext.push hp)⟩) ⟨?_,?_⟩
  ·rw [s1.len];exact qW _
  ·rw [s1.len];show V.ref p=.ref (if b.n=b.n then p else b.m b.n);rw [if_pos rfl]
 ·exact h1.elim
variable {e:xY} {x:Str} {p:Pos}
theorem ZBz {f:List D->DH->R D} (h:lE K E (dFn f tr) σ H Q):lA K E tr σ H (λvs H1=>lRn K E f vs H1 Q):=by obtain ⟨a,S,G,hk,rfl,s,r,h⟩:=h;refine ⟨a,S,G,hk,rfl,s,r,(Mr h).imp ?_⟩;rintro vs _ ⟨b,ds,G1,rfl,x,s1,q,_,h1⟩;exact ⟨b,G1,ds,x.k.trans hk,rfl,s1,q,h1⟩
theorem Cq {id:String} {f:List D->DH->R D} (hc:CallR X (.builtin id) (lRn X.K E f)) (hg:Gl X x) (hm:X.mg x=none) (hv:xH x=some (.builtin id)) (ha:QA X E (e::es) tr) (hn:x≠"__name__":=by decide) (hdb:(x == ("__debug__":Str))=false:=by decide)
  (he:notStar e=true:=by rfl) (hpl:es.all notStar=true:=by rfl):QE X E (.Call (.Name x p) (e::es) [] pos) (dFn f tr):=
 (ZQw hc hg hm hv ha hn hdb (Nu e es X.env he) (R6 pos X.env es hpl)).mono λσ H Q h=>ZBz h
theorem Gj {id:String} {f:List D->DH->R D} (hc:CallR X (.type id) (lRn X.K E f)) (hg:Gl X x) (hm:X.mg x=none) (hv:xH x=some (.type id)) (ha:QA X E (e::es) tr) (hn:x≠"__name__":=by decide) (hdb:(x == ("__debug__":Str))=false:=by decide)
  (he:notStar e=true:=by rfl) (hpl:es.all notStar=true:=by rfl):QE X E (.Call (.Name x p) (e::es) [] pos) (dFn f tr):=
 (ZMe hc hg hm hv ha hn hdb (Nu e es X.env he) (R6 pos X.env es hpl)).mono λσ H Q h=>ZBz h
theorem Bf {CX:CXT} {f:xW} {fd:xq} {ps:List Str} {F:List D->DH->R D} (FF:FnOk X.prog X.w X.K X.mg X.base CX k f fd ps (lF X.K F)) (hr:Room k X.A) (hg:Gl X x) (hm:X.mg x=some (.ref f)) (hk:PySem.W.keepIn X.K (.ref f)=true) (hb:Binds X.K fd ps [])
  (hx:Passes CX X E) (ha:QA X E (e::es) tr) (hdb:(x == ("__debug__":Str))=false:=by decide) (he:notStar e=true:=by rfl) (hpl:es.all notStar=true:=by rfl):
  QE X E (.Call (.Name x p) (e::es) [] pos) (dFn F tr):=
 (ZOE FF hr hg hm hk hb .nil hx ha hdb (Nu e es X.env he) (R6 pos X.env es hpl)).mono λσ H Q h=>by obtain ⟨a,S,G,hk,rfl,s,r,h⟩:=ZBz h;refine ⟨a,S,G,hk,rfl,s,r,h.imp ?_⟩;rintro vs _ ⟨b,G1,ds,hk,rfl,s1,q,h1⟩;exact ⟨b,G1,ds,hk,rfl,s1,by rw [q8];exact q,h1⟩
theorem Am (hr:IxR X (lR2 X.K E f)) (ha:QE X E a ta) (hb:QE X E b tb) (hs:PlainIx b:=by intro _ _;rfl):QE X E (.Subscript a b pos) (dOp f ta tb):=
 (ZRr hr ha hb hs).mono λ_ _ _ h=>two h
end
instance (i j:Int):Decidable (CMul i j):=by unfold CMul;infer_instance
instance (i j:Int):Decidable (CPow i j):=by unfold CPow;infer_instance
def CDivL (j:Int):Prop:=0 < j/\j.natAbs.log2 < 9000
instance (j:Int):Decidable (CDivL j):=by unfold CDivL;infer_instance
def Ho:D->D->DH->R D
 | .int i,.int j,G=>.ok (.int (i - j)) G
 | _,_,_=>.bad
noncomputable def Gb:D->D->DH->R D
 | .int i,.int j,G=>if CDivL j then .ok (.int (i / j)) G else .bad
 | _,_,_=>.bad
noncomputable def Bm:D->D->DH->R D
 | .int i,.int j,G=>if 0 < j then .ok (.int (i % j)) G else .bad
 | _,_,_=>.bad
noncomputable def Jo:D->D->DH->R D
 | .int i,.int j,G=>if CPow i j then .ok (.int (i ^ j.toNat)) G else .bad
 | _,_,_=>.bad
noncomputable def V5:D->D->DH->R D
 | .int i,.int j,G=>.ok (.bl (decide (i < j))) G
 | .str i,.str j,G=>.ok (.bl (decide (i.cps.toList < j.cps.toList))) G
 | _,_,_=>.bad
noncomputable def ZBi:D->D->DH->R D
 | .int i,.int j,G=>.ok (.bl (decide (i<=j))) G
 | .str i,.str j,G=>.ok (.bl (!decide (j.cps.toList < i.cps.toList))) G
 | _,_,_=>.bad
noncomputable def Jf:D->D->DH->R D
 | .int i,.int j,G=>.ok (.bl (decide (j < i))) G
 | .str i,.str j,G=>.ok (.bl (decide (j.cps.toList < i.cps.toList))) G
 | _,_,_=>.bad
noncomputable def ZAo:D->D->DH->R D
 | .int i,.int j,G=>.ok (.bl (decide (j<=i))) G
 | .str i,.str j,G=>.ok (.bl (!decide (i.cps.toList < j.cps.toList))) G
 | _,_,_=>.bad
noncomputable def Hq (d:D) (G:DH):Option (List D):=match d with
 | .fl xs=>some xs
 | .ref i=>match G[i]? with
  | some (.lst xs)=>some xs
  | _=>none
 | _=>none
noncomputable def Av:D->D->DH->R D
 | .int i,.int j,G=>.ok (.int (i + j)) G
 | .str i,.str j,G=>if i.length + j.length<=1000000 then .ok (.str (i++j)) G else .bad
 | .tup xs,.tup ys,G=>if xs≠ []/\xs.length + ys.length<=1000000 then .ok (.tup (xs++ys)) G else .bad
 | d,e,G=>match Hq d G,Hq e G with
  | some xs,some ys=>if xs.length + ys.length<=1000000 then .ok (.ref G.length) (G++ [.lst (xs++ys)]) else .bad
  | _,_=>.bad
section
variable {X:Cx} {E:XK}
theorem Hm {f:x9->x9->Sem x9} {r:R2} {F:D->D->DH->R D} (ho:OpR X f r)
  (h:∀(a:Wd) (G:DH) (d e:D) (x y:V) (Q:VK),a.K=X.K->Sim a G->Rep a d x->Rep a e y->out E a (F d e G) Q->r x y a.H Q):OpR X f (lR2 X.K E F):=
 ho.mono λx y H Q ⟨a,G,d,e,hk,hH,s,rd,re,q⟩=>by subst hH;exact h a G d e x y Q hk s rd re q
theorem Jm:OpR X (xG .Sub) (lR2 X.K E Ho):=Hm ZP8 λa G d e x y Q hk s rd re q=>by
 cases d <;> cases e <;> first
  | exact q.elim
  | exact ⟨_,_,rd,re,q a _ (Ext.refl a) s rfl⟩
theorem ZPX:OpR X (xG .FloorDiv) (rI (λ_ j=>CDivL j) λi j=>.int (i / j)):=opI λi j _ _ _ _ _ hc q=>by have e:i.fdiv j=i / j:=Int.fdiv_eq_ediv_of_nonneg _ (Int.le_of_lt hc.1);refine floordiv_int (by have:=hc.1;lia) (by rw [e];exact q) (.inl (PyProof.noPylong_of_log2 hc.2))
theorem Hj:OpR X (xG .FloorDiv) (lR2 X.K E Gb):=Hm ZPX λa G d e x y Q hk s rd re q=>by
 cases d <;> cases e <;> first
  | exact q.elim
  | (
    rename_i i j;unfold Gb at q;dsimp only at q;split at q
    ·exact ⟨_,_,rd,re,by assumption,q a _ (Ext.refl a) s rfl⟩
    ·exact q.elim)
theorem Bt:OpR X (xG .Mod) (lR2 X.K E Bm):=Hm ZMH λa G d e x y Q hk s rd re q=>by
 cases d <;> cases e <;> first
  | exact q.elim
  | (
    rename_i i j;unfold Bm at q;dsimp only at q;split at q
    ·exact ⟨_,_,rd,re,by assumption,q a _ (Ext.refl a) s rfl⟩
    ·exact q.elim)
theorem Mv:OpR X (xG .Pow) (lR2 X.K E Jo):=Hm ZKH λa G d e x y Q hk s rd re q=>by
 cases d <;> cases e <;> first
  | exact q.elim
  | (
    rename_i i j;unfold Jo at q;dsimp only at q;split at q
    ·exact ⟨_,_,rd,re,by assumption,q a _ (Ext.refl a) s rfl⟩
    ·exact q.elim)
theorem ZCU:OpR X (xN .Lt) (lR2 X.K E V5):=Hm (ZM5.or ZN6) λa G d e x y Q hk s rd re q=>by
 cases d <;> cases e <;> first
  | exact q.elim
  | exact .inl ⟨_,_,rd,re,q a _ (Ext.refl a) s rfl⟩
  | exact .inr ⟨_,_,rd,re,q a _ (Ext.refl a) s rfl⟩
theorem ZKO:OpR X (xN .LtE) (λx y H Q=>∃i j,x=.str i/\y=.str j/\Q (.bl (!decide (j.cps.toList < i.cps.toList))) H):=by intro vG s σ H x y v u Q I rx ry h;obtain ⟨i,j,rfl,rfl,q⟩:=h;obtain ⟨t,rfl⟩:=rx;obtain ⟨t',rfl⟩:=ry;exact PySem.P.le_str ⟨.bl _,H,I,rfl,q⟩
theorem ZRz:OpR X (xN .Gt) (λx y H Q=>∃i j,x=.str i/\y=.str j/\Q (.bl (decide (j.cps.toList < i.cps.toList))) H):=by intro vG s σ H x y v u Q I rx ry h;obtain ⟨i,j,rfl,rfl,q⟩:=h;obtain ⟨t,rfl⟩:=rx;obtain ⟨t',rfl⟩:=ry;exact PySem.P.gt_str ⟨.bl _,H,I,rfl,q⟩
theorem ZL5:OpR X (xN .GtE) (λx y H Q=>∃i j,x=.str i/\y=.str j/\Q (.bl (!decide (i.cps.toList < j.cps.toList))) H):=by intro vG s σ H x y v u Q I rx ry h;obtain ⟨i,j,rfl,rfl,q⟩:=h;obtain ⟨t,rfl⟩:=rx;obtain ⟨t',rfl⟩:=ry;exact PySem.P.ge_str ⟨.bl _,H,I,rfl,q⟩
theorem o_le:OpR X (xN .LtE) (lR2 X.K E ZBi):=Hm (ZMZ.or ZKO) λa G d e x y Q hk s rd re q=>by
 cases d <;> cases e <;> first
  | exact q.elim
  | exact .inl ⟨_,_,rd,re,q a _ (Ext.refl a) s rfl⟩
  | exact .inr ⟨_,_,rd,re,q a _ (Ext.refl a) s rfl⟩
theorem Kw:OpR X (xN .Gt) (lR2 X.K E Jf):=Hm (ZPh.or ZRz) λa G d e x y Q hk s rd re q=>by
 cases d <;> cases e <;> first
  | exact q.elim
  | exact .inl ⟨_,_,rd,re,q a _ (Ext.refl a) s rfl⟩
  | exact .inr ⟨_,_,rd,re,q a _ (Ext.refl a) s rfl⟩
theorem o_ge:OpR X (xN .GtE) (lR2 X.K E ZAo):=Hm (ZN3.or ZL5) λa G d e x y Q hk s rd re q=>by
 cases d <;> cases e <;> first
  | exact q.elim
  | exact .inl ⟨_,_,rd,re,q a _ (Ext.refl a) s rfl⟩
  | exact .inr ⟨_,_,rd,re,q a _ (Ext.refl a) s rfl⟩
theorem Sim.lst (s:Sim a G) (h:G[i]? =some (.lst xs)):∃vs,a.H (a.m i)=some (.lst vs)/\Reps a xs vs:=s.obj i _ h
theorem M9 (s:Sim a G) (r:Reps a ds vs) (h:out E a (.ok (.ref G.length) (G++ [.lst ds])) Q) (p:xW) (hp:a.H p=none):Q (.ref p) (upd a.H p (.lst vs)):=by
 refine h (a.push p (.lst vs)) (.ref p) (Ext.push hp) (s.push hp ⟨vs,rfl,r.mono (Ext.push hp)⟩) ⟨?_,?_⟩
 ·rw [s.len];exact qW _
 ·rw [s.len];show V.ref p=.ref (if a.n=a.n then p else a.m a.n);rw [if_pos rfl]
theorem ZAz (s:Sim a G) (r:Reps a ds vs) (h:out E a (.ok (.tup ds) G) Q) (p:xW) (hp:a.H p=none):Q (.ref p) (upd a.H p (.tup vs)):=
 h (a.put p (.tup vs)) (.ref p) (Ext.put hp) (s.put hp) ⟨p,vs,rfl,.of Gh,r.mono (Ext.put hp)⟩
theorem Uc {x:V} (s:Sim a G) (r:Rep a d x) (h:Hq d G=some xs):∃p vs,x=.ref p/\SqL a.K a.H p vs/\Reps a xs vs:=by
 cases d with
 | fl ys=>
  have e:ys=xs:=Option.some.inj h;subst e;obtain ⟨p,vs,e,q,rr⟩:=r;exact ⟨p,vs,e,q.sq,rr⟩
 | ref i=>
  unfold Hq at h;dsimp only at h;split at h
  ·rename_i ys hi;have e:ys=xs:=Option.some.inj h;subst e;obtain ⟨vs,e1,r1⟩:=s.lst hi;exact ⟨a.m i,vs,r.2,.of e1,r1⟩
  ·cases h
 | _=>cases h
noncomputable def ZJc (K:PySem.W.Frag):R2:=λx y H Q=>∃l b xs zs,x=.ref l/\y=.ref b/\SqL K H l xs/\SqL K H b zs/\xs.length + zs.length<=sizeLine/\∀p,H p=none->Q (.ref p) (upd H p (.lst (xs++zs)))
theorem ZMN:OpR X (xG .Add) (ZJc X.K):=by
 intro vG s σ H x y v u Q I rx ry h;obtain ⟨l,b,xs,zs,rfl,rfl,hH,hB,hz,q⟩:=h;cases rx;cases ry;obtain ⟨its,r,p1,_⟩:=I.list hH;obtain ⟨its2,r2,p2,_⟩:=I.list hB;obtain ⟨⟨cls,dd,data,sl⟩,n,ho,hc,_,hd⟩:=p1;obtain ⟨⟨cls2,dd2,data2,sl2⟩,n2,ho2,hc2,_,hd2⟩:=p2;cases hc;cases hd;cases hc2;cases hd2;have hl:=r.length;have hl2:=r2.length;refine concat_meets ⟨_,ho,rfl⟩ ⟨_,ho2,rfl⟩ noFill_list_add seq_list_add PySem.F.slot_list_add PySem.F.entry_list_add (PySem.F.args_list_add_2 _ _) (list_addW l b its.toArray its2.toArray n n2 dd dd2 sl sl2 (by rw [zY,zY];lia)) ⟨ho,ho2,?_⟩
 have ea:its.toArray++its2.toArray=(its++its2).toArray:=by simp
 rw [ea];exact ⟨.ref _,_,I.lnew (t':=s.toks) (r.append r2) (by rw [qQ];lia),rfl,q _ I.fresh⟩
theorem Bc:OpR X (xG .Add) (lR2 X.K E Av):=Hm (ZQx.or (ZKb.or (ZMN.or ZQY))) λa G d e x y Q hk s rd re q=>by
 have lst:out E a (match Hq d G,Hq e G with
  | some xs,some ys=>if xs.length + ys.length<=1000000 then .ok (.ref G.length) (G++ [.lst (xs++ys)]) else .bad
  | _,_=>.bad) Q->ZJc X.K x y a.H Q:=λq=>by
  split at q
  ·rename_i xs ys h1 h2;split at q
   ·rename_i hl;obtain ⟨p,vs,e1,q1,r1⟩:=Uc s rd h1;obtain ⟨p',vs',e2,q2,r2⟩:=Uc s re h2;rw [hk] at q1 q2;exact ⟨p,p',vs,vs',e1,e2,q1,q2,by rw [<-r1.length,<-r2.length];exact zB hl size6,λp hp=>M9 s (r1.append r2) q p hp⟩
   ·exact q.elim
  ·exact q.elim
 have L:=λq=>Or.inr (a:=rI0 (λi j=>V.int (i + j)) x y a.H Q) (Or.inr (a:=∃i j,x=.str i/\y=.str j/\i.length + j.length<=sizeLine/\Q (.str (i++j)) a.H) (Or.inl (b:=ZH3 X.K x y a.H Q) (lst q)))
 cases d <;> cases e <;> first
  | exact .inl ⟨_,_,rd,re,q a _ (Ext.refl a) s rfl⟩
  | exact L q
  | skip
 ·rename_i i j;unfold Av at q;dsimp only at q;split at q
  ·rename_i hl;exact .inr (.inl ⟨_,_,rd,re,zB hl size6,q a _ (Ext.refl a) s rfl⟩)
  ·exact q.elim
 ·rename_i xs ys;unfold Av at q;dsimp only at q;split at q
  ·rename_i hl;obtain ⟨p,vs,e1,h1,r1⟩:=rd;obtain ⟨p',vs',e2,h2,r2⟩:=re;rw [hk] at h1 h2;refine .inr (.inr (.inr ⟨p,p',vs,vs',e1,e2,h1,h2,λz=>hl.1 (List.eq_nil_of_length_eq_zero (by rw [r1.length,z];rfl)),by rw [<-r1.length,<-r2.length];exact zB hl.2 size6,λz=> ?_,λ_ p0 hp=> ?_⟩))
   ·refine q a (.ref p) (Ext.refl a) s ⟨p,vs,rfl,by rw [hk];exact h1,?_⟩;have e3:ys= []:=List.eq_nil_of_length_eq_zero (by rw [r2.length,z];rfl);rw [e3,q8];exact r1
   ·exact ZAz s (r1.append r2) q p0 hp
  ·exact q.elim
inductive VD where
 | flat (v:V)
 | lst (xs:List D)
 | tup (xs:List D)
 | bad
noncomputable def view (G:DH):D->VD
 | .non=>.flat .non
 | .bl b=>.flat (.bl b)
 | .int i=>.flat (.int i)
 | .str x=>.flat (.str x)
 | .ty _=>.bad
 | .tup xs=>.tup xs
 | .fl xs=>.lst xs
 | .ref i=>match G[i]? with
  | some (.lst xs)=>.lst xs
  | _=>.bad
noncomputable def eqZ (f:D->D->Option Bool):List D->List D->Option Bool
 | x::xs,y::ys=>match f x y,eqZ f xs ys with
  | some a,some b=>some (a && b)
  | _,_=>none
 | _,_=>some true
noncomputable def eqD:Nat->DH->D->D->Option Bool
 | 0=>λ_ _ _=>none
 | n + 1=>λG d e=>match view G d,view G e with
  | .flat a,.flat b=>some (eqV a b)
  | .lst xs,.lst ys=>if xs.length=ys.length then eqZ (eqD n G) xs ys else some false
  | .tup xs,.tup ys=>match eqZ (eqD n G) xs ys with
   | some b=>some (b && xs.length == ys.length)
   | none=>none
  | .bad,_=>none
  | _,.bad=>none
  | _,_=>some false
theorem Ze {f:D->D->Option Bool}:∀{xs ys:List D} {k:Bool},eqZ f xs ys=some k->∃e:Nat->Bool,(∀(j:Nat) (x y:D),xs[j]? =some x->ys[j]? =some y->f x y=some (e j))/\k=(zX (min xs.length ys.length)).all e
 | [],ys,k,h=>⟨λ_=>true,λj x y e1 _=>by simp at e1,by
   have h':some true=some k:=by cases ys <;> exact h
   cases h';simp⟩
 | x::xs,[],k,h=>⟨λ_=>true,λj x y _ e1=>by simp at e1,by have h':some true=some k:=h;cases h';simp⟩
 | x::xs,y::ys,k,h=>by
  unfold eqZ at h;split at h
  ·rename_i a b h1 h2;obtain ⟨e,he,hk⟩:=Ze h2;have h':(a && b)=k:=Option.some.inj h
   refine ⟨λj=>match j with | 0=>a | j + 1=>e j,λj x' y' e1 e2=> ?_,?_⟩
   ·cases j with
    | zero=>simp at e1 e2;subst e1;subst e2;exact h1
    | succ j=>exact he j x' y' (by simpa using e1) (by simpa using e2)
   ·rw [<-h',hk];have:min (x::xs).length (y::ys).length=min xs.length ys.length + 1:=by simp only [zP];lia
    rw [this,qO,jX,List.all_map]
    rfl
  ·cases h
theorem ZAO (s:Sim a G) {x:V} (r:Rep a d x):match view G d with
  | .flat v=>x=v/\Fo v=true
  | .lst xs=>∃p vs,x=.ref p/\SqL a.K a.H p vs/\Reps a xs vs
  | .tup xs=>∃p vs,x=.ref p/\SqT a.K a.H p vs/\Reps a xs vs
  | .bad=>True:=by
 cases d with
 | non=>exact ⟨r,rfl⟩
 | bl b=>exact ⟨r,rfl⟩
 | int b=>exact ⟨r,rfl⟩
 | str b=>exact ⟨r,rfl⟩
 | ty n=>trivial
 | tup xs=>
  obtain ⟨p,vs,e,h,q⟩:=r;exact ⟨p,vs,e,h,q⟩
 | fl xs=>
  obtain ⟨p,vs,e,h,q⟩:=r;exact ⟨p,vs,e,h.sq,q⟩
 | ref i=>
  unfold view;dsimp only;split
  ·rename_i v hv
   split at hv <;> cases hv
  ·rename_i xs hv;split at hv
   ·rename_i ys hi;cases hv;obtain ⟨vs,e1,r1⟩:=s.lst hi;exact ⟨a.m i,vs,r.2,.of e1,r1⟩
   ·cases hv
  ·rename_i xs hv
   split at hv <;> cases hv
  ·trivial
theorem ZOp {x:V} {u v:x9} (ry:RelV y u) (rx:RelV x v) (fy:Fo y=true) (fx:Fo x=true):SeqAt.RcAt A s u v (eqV y x):=by
 cases y with
 | non=>
  cases ry;cases x with
  | non=>cases rx;exact SeqAt.RcAt.none_none
  | bl b=>cases rx;exact SeqAt.RcAt.none_bool b
  | int b=>obtain ⟨t,rfl⟩:=rx;exact SeqAt.RcAt.none_int b t
  | str b=>obtain ⟨t,rfl⟩:=rx;exact SeqAt.RcAt.none_str b t
  | _=>exact absurd (show false=true from fx) zy
 | bl a=>
  cases ry;cases x with
  | non=>cases rx;exact SeqAt.RcAt.bool_none a
  | bl b=>cases rx;exact SeqAt.RcAt.bool_bool a b
  | int b=>obtain ⟨t,rfl⟩:=rx;exact SeqAt.RcAt.bool_int a b t
  | str b=>obtain ⟨t,rfl⟩:=rx;exact SeqAt.RcAt.bool_str a b t
  | _=>exact absurd (show false=true from fx) zy
 | int a=>
  obtain ⟨t',rfl⟩:=ry;cases x with
  | non=>cases rx;exact SeqAt.RcAt.int_none a t'
  | bl b=>cases rx;exact SeqAt.RcAt.int_bool a t' b
  | int b=>obtain ⟨t,rfl⟩:=rx;exact SeqAt.RcAt.int_int a t' b t
  | str b=>obtain ⟨t,rfl⟩:=rx;exact SeqAt.RcAt.int_str a t' b t
  | _=>exact absurd (show false=true from fx) zy
 | str a=>
  obtain ⟨t',rfl⟩:=ry;cases x with
  | non=>cases rx;exact SeqAt.RcAt.str_none a t'
  | bl b=>cases rx;exact SeqAt.RcAt.str_bool a t' b
  | int b=>obtain ⟨t,rfl⟩:=rx;exact SeqAt.RcAt.str_int a t' b t
  | str b=>obtain ⟨t,rfl⟩:=rx;exact SeqAt.RcAt.str_str a t' b t
  | _=>exact absurd (show false=true from fx) zy
 | _=>exact absurd (show false=true from fy) zy
theorem ZPV {x:V} {u v:x9} (ry:RelV y u) (rx:RelV x v) (fy:Fo y=true) (fx:Fo x=true):SeqAt.RcNeAt A s u v (!eqV y x):=by
 cases y with
 | non=>
  cases ry;cases x with
  | non=>cases rx;exact SeqAt.RcNeAt.none_none
  | bl b=>cases rx;exact SeqAt.RcNeAt.none_bool b
  | int b=>obtain ⟨t,rfl⟩:=rx;exact SeqAt.RcNeAt.none_int b t
  | str b=>obtain ⟨t,rfl⟩:=rx;exact SeqAt.RcNeAt.none_str b t
  | _=>exact absurd (show false=true from fx) zy
 | bl a=>
  cases ry;cases x with
  | non=>cases rx;exact SeqAt.RcNeAt.bool_none a
  | bl b=>cases rx;exact SeqAt.RcNeAt.bool_bool a b
  | int b=>obtain ⟨t,rfl⟩:=rx;exact SeqAt.RcNeAt.bool_int a b t
  | str b=>obtain ⟨t,rfl⟩:=rx;exact SeqAt.RcNeAt.bool_str a b t
  | _=>exact absurd (show false=true from fx) zy
 | int a=>
  obtain ⟨t',rfl⟩:=ry;cases x with
  | non=>cases rx;exact SeqAt.RcNeAt.int_none a t'
  | bl b=>cases rx;exact SeqAt.RcNeAt.int_bool a t' b
  | int b=>obtain ⟨t,rfl⟩:=rx;exact SeqAt.RcNeAt.int_int a t' b t
  | str b=>obtain ⟨t,rfl⟩:=rx;exact SeqAt.RcNeAt.int_str a t' b t
  | _=>exact absurd (show false=true from fx) zy
 | str a=>
  obtain ⟨t',rfl⟩:=ry;cases x with
  | non=>cases rx;exact SeqAt.RcNeAt.str_none a t'
  | bl b=>cases rx;exact SeqAt.RcNeAt.str_bool a t' b
  | int b=>obtain ⟨t,rfl⟩:=rx;exact SeqAt.RcNeAt.str_int a t' b t
  | str b=>obtain ⟨t,rfl⟩:=rx;exact SeqAt.RcNeAt.str_str a t' b t
  | _=>exact absurd (show false=true from fx) zy
 | _=>exact absurd (show false=true from fy) zy
end
section
variable {X:Cx} {E:XK} {vG:List (xW×Obj)} {σ:St} {s:xk}
theorem ZKM (v:V) (h:Fo v=true):eqV v v=true:=by cases v <;> first | rfl | exact absurd (show false=true from h) zy | (simp [eqV])
theorem ZIY (I:Inv X vG σ a.H s) (hk:a.K=X.K) (sm:Sim a G):∀(n:Nat) {d e:D} {x:V} {k:Bool},Rep a d x->Rep a e x->eqD n G d e=some k->k=true
 | 0,_,_,_,_,_,_,h=>by cases h
 | n + 1,d,e,x,k,rd,re,h=>by
  have vd:=ZAO sm rd;have ve:=ZAO sm re;have items:∀{xs ys:List D} {vs:List V} {b:Bool},Reps a xs vs->Reps a ys vs->eqZ (eqD n G) xs ys=some b->b=true:=λ{xs ys vs b} r1 r2 hz=>by obtain ⟨f,hf,hb⟩:=Ze hz;rw [hb,qj];intro j hj;have hj':j < min xs.length ys.length:=qX.mp hj;have h1:xs[j]? =some (xs[j]'(by lia)):=zQ (by lia);have h2:ys[j]? =some (ys[j]'(by lia)):=zQ (by lia);obtain ⟨v1,e1,q1⟩:=r1.get h1;obtain ⟨v2,e2,q2⟩:=r2.get h2;rw [e1] at e2;cases e2;exact ZIY I hk sm n q1 q2 (hf j _ _ h1 h2)
  unfold eqD at h
  try dsimp only at h
  revert h vd ve
  cases view G d <;> cases view G e <;> intro vd ve h <;> dsimp only at h vd ve <;> first
   | cases h
   | skip
  ·
   rename_i v w;obtain ⟨rfl,f1⟩:=vd;obtain ⟨rfl,f2⟩:=ve;exact ZKM _ f1
  ·obtain ⟨rfl,f1⟩:=vd;obtain ⟨p,vs,e1,_⟩:=ve;subst e1;cases f1
  ·obtain ⟨rfl,f1⟩:=vd;obtain ⟨p,vs,e1,_⟩:=ve;subst e1;cases f1
  ·obtain ⟨rfl,f1⟩:=ve;obtain ⟨p,vs,e1,_⟩:=vd;subst e1;cases f1
  ·obtain ⟨p,vs,e1,h1,r1⟩:=vd;obtain ⟨p',vs',e2,h2,r2⟩:=ve;rw [e1] at e2;cases e2;rw [hk] at h1 h2;cases I.ZCg h1 h2;split at h
   ·exact items r1 r2 h
   ·rename_i hl;exact absurd (r1.length.trans r2.length.symm) hl
  ·obtain ⟨p,vs,e1,h1,r1⟩:=vd;obtain ⟨p',vs',e2,h2,r2⟩:=ve;rw [e1] at e2;cases e2;rw [hk] at h1 h2;obtain ⟨_,_,pl,_⟩:=I.list h1;obtain ⟨_,_,pt,_⟩:=I.tuple h2;exact absurd rfl (SeqAt.ne_of_list_tuple pl.isList pt)
  ·obtain ⟨rfl,f1⟩:=ve;obtain ⟨p,vs,e1,_⟩:=vd;subst e1;cases f1
  ·obtain ⟨p,vs,e1,h1,r1⟩:=vd;obtain ⟨p',vs',e2,h2,r2⟩:=ve;rw [e1] at e2;cases e2;rw [hk] at h1 h2;obtain ⟨_,_,pl,_⟩:=I.list h2;obtain ⟨_,_,pt,_⟩:=I.tuple h1;exact absurd rfl (SeqAt.ne_of_list_tuple pl.isList pt)
  ·obtain ⟨p,vs,e1,h1,r1⟩:=vd;obtain ⟨p',vs',e2,h2,r2⟩:=ve;rw [e1] at e2;cases e2;rw [hk] at h1 h2;cases I.ZBS h1 h2;split at h
   ·rename_i b hz;have h':(b && _)=k:=Option.some.inj h;rw [<-h',items r1 r2 hz,r1.length,r2.length];simp
   ·cases h
theorem Xd {its:List x9} (r:Reps a xs vs) (q:Vals vs its) (h:j < its.toArray.size):∃d v,xs[j]? =some d/\Rep a d v/\RelV v its.toArray[j]:=by
 have hl:j < its.length:=by simpa using h
 have h2:j < vs.length:=by rw [q.length];exact hl
 obtain ⟨v,e1⟩:∃v,vs[j]? =some v:=⟨vs[j],zQ h2⟩;obtain ⟨d,e2,rd⟩:=r.get' e1;obtain ⟨u,e3,ru⟩:=q.get e1;have e4:u=its.toArray[j]:=by have:its[j]? =some its[j]:=zQ hl;rw [this] at e3;simpa using (Option.some.inj e3).symm
 exact ⟨d,v,e2,rd,by rw [<-e4];exact ru⟩
theorem Wi (I:Inv X vG σ a.H s) (hk:a.K=X.K) (sm:Sim a G):∀(n:Nat) {A:xK} {d e:D} {x y:V} {u w:x9} {k:Bool},A.units + n < cLine->Rep a d x->Rep a e y->RelV x u->RelV y w->eqD n G d e=some k->
  SeqAt.EqAt A s u w k/\SeqAt.RcAt A s u w k/\SeqAt.RcNeAt A s u w (!k)
 | 0,_,_,_,_,_,_,_,_,_,_,_,_,_,h=>by cases h
 | n + 1,A,d,e,x,y,u,w,k,hu,rd,re,ru,rw',h=>by
  have vd:=ZAO sm rd;have ve:=ZAO sm re;have hu1:A.units < cLine:=by lia
  have hu2:A.in1.units + n < cLine:=by show A.units + 1 + n < cLine;lia
  have same:∀{z:V},Rep a d z->Rep a e z->eqD (n + 1) G d e=some k->k=true:=λr1 r2 r3=>ZIY I hk sm (n + 1) r1 r2 r3
  have h0:=h;unfold eqD at h
  try dsimp only at h
  have refs:∀{p q:xW} {k:Bool},(p=q->k=true)->SeqAt.RcAt A s (.ref p) (.ref q) k->SeqAt.EqAt A s (.ref p) (.ref q) k:=λ{p q k} hs hr=>by
   by_cases e:p=q
   ·rw [hs e,e];exact SeqAt.EqAt.same _
   ·exact SeqAt.EqAt.of_refs e hr
  revert h vd ve
  cases hvd:view G d <;> cases hve:view G e <;> intro vd ve h <;> dsimp only at h vd ve <;> first
   | cases h
   | skip
  ·
   obtain ⟨rfl,f1⟩:=vd;obtain ⟨rfl,f2⟩:=ve;exact ⟨ZFl ru rw' f1 f2,ZOp ru rw' f1 f2,ZPV ru rw' f1 f2⟩
  ·
   obtain ⟨rfl,f1⟩:=vd;obtain ⟨q,vs,rfl,h2,r2⟩:=ve;cases rw';rw [hk] at h2;obtain ⟨its,qv,pl,_⟩:=I.list h2;cases x with
   | non=>cases ru;exact ⟨SeqAt.EqAt.none_list pl.isList hu1,SeqAt.RcAt.none_list pl.isList hu1,SeqAt.RcNeAt.none_list pl.isList hu1⟩
   | bl b=>cases ru;exact ⟨SeqAt.EqAt.bool_list b pl.isList hu1,SeqAt.RcAt.bool_list b pl.isList hu1,SeqAt.RcNeAt.bool_list b pl.isList hu1⟩
   | int b=>obtain ⟨t,rfl⟩:=ru;exact ⟨SeqAt.EqAt.int_list b t pl.isList hu1,SeqAt.RcAt.int_list b t pl.isList hu1,SeqAt.RcNeAt.int_list b t pl.isList hu1⟩
   | str b=>obtain ⟨t,rfl⟩:=ru;exact ⟨SeqAt.EqAt.str_list b t pl.isList hu1,SeqAt.RcAt.str_list b t pl.isList hu1,SeqAt.RcNeAt.str_list b t pl.isList hu1⟩
   | _=>exact absurd (show false=true from f1) zy
  ·
   obtain ⟨rfl,f1⟩:=vd;obtain ⟨q,vs,rfl,h2,r2⟩:=ve;cases rw';rw [hk] at h2;obtain ⟨its,qv,pl,_⟩:=I.tuple h2;cases x with
   | non=>cases ru;exact ⟨SeqAt.EqAt.none_tuple pl hu1,SeqAt.RcAt.none_tuple pl hu1,SeqAt.RcNeAt.none_tuple pl hu1⟩
   | bl b=>cases ru;exact ⟨SeqAt.EqAt.bool_tuple b pl hu1,SeqAt.RcAt.bool_tuple b pl hu1,SeqAt.RcNeAt.bool_tuple b pl hu1⟩
   | int b=>obtain ⟨t,rfl⟩:=ru;exact ⟨SeqAt.EqAt.int_tuple b t pl hu1,SeqAt.RcAt.int_tuple b t pl hu1,SeqAt.RcNeAt.int_tuple b t pl hu1⟩
   | str b=>obtain ⟨t,rfl⟩:=ru;exact ⟨SeqAt.EqAt.str_tuple b t pl hu1,SeqAt.RcAt.str_tuple b t pl hu1,SeqAt.RcNeAt.str_tuple b t pl hu1⟩
   | _=>exact absurd (show false=true from f1) zy
  ·
   obtain ⟨rfl,f1⟩:=ve;obtain ⟨q,vs,rfl,h2,r2⟩:=vd;cases ru;rw [hk] at h2;obtain ⟨its,qv,pl,_⟩:=I.list h2;cases y with
   | non=>cases rw';exact ⟨SeqAt.EqAt.list_none pl.isList hu1,SeqAt.RcAt.list_none pl.isList hu1,SeqAt.RcNeAt.list_none pl.isList hu1⟩
   | bl b=>cases rw';exact ⟨SeqAt.EqAt.list_bool b pl.isList hu1,SeqAt.RcAt.list_bool b pl.isList hu1,SeqAt.RcNeAt.list_bool b pl.isList hu1⟩
   | int b=>obtain ⟨t,rfl⟩:=rw';exact ⟨SeqAt.EqAt.list_int b t pl.isList hu1,SeqAt.RcAt.list_int b t pl.isList hu1,SeqAt.RcNeAt.list_int b t pl.isList hu1⟩
   | str b=>obtain ⟨t,rfl⟩:=rw';exact ⟨SeqAt.EqAt.list_str b t pl.isList hu1,SeqAt.RcAt.list_str b t pl.isList hu1,SeqAt.RcNeAt.list_str b t pl.isList hu1⟩
   | _=>exact absurd (show false=true from f1) zy
  ·
   obtain ⟨p,vs,rfl,h1,r1⟩:=vd;obtain ⟨q,vs',rfl,h2,r2⟩:=ve;cases ru;cases rw';rw [hk] at h1 h2;obtain ⟨its,q1,p1,_⟩:=I.list h1;obtain ⟨its',q2,p2,_⟩:=I.list h2;have sz1:its.toArray.size=vs.length:=by rw [zY];exact q1.length.symm
   have sz2:its'.toArray.size=vs'.length:=by rw [zY];exact q2.length.symm
   split at h
   ·rename_i hl;obtain ⟨f,hf,hb⟩:=Ze h;have hsz:its.toArray.size=its'.toArray.size:=by rw [sz1,sz2,<-r1.length,<-r2.length];exact hl
    have he:∀j (g1:j < its.toArray.size) (g2:j < its'.toArray.size),SeqAt.EqAt A.in1 s its.toArray[j] its'.toArray[j] (f j):=λj g1 g2=>by obtain ⟨d1,v1,e1,rd1,rv1⟩:=Xd r1 q1 g1;obtain ⟨d2,v2,e2,rd2,rv2⟩:=Xd r2 q2 g2;exact (Wi I hk sm n hu2 rd1 rd2 rv1 rv2 (hf j d1 d2 e1 e2)).1
    have hk':k=(zX its.toArray.size).all f:=by
     rw [hb]
     congr 2
     rw [sz1,<-r1.length,hl];lia
    have rc:SeqAt.RcAt A s (.ref p) (.ref q) k:=by rw [hk'];exact SeqAt.RcAt.lists p1.isList p2.isList hsz hu1 he
    refine ⟨refs (λe=> ?_) rc,rc,by rw [hk'];exact SeqAt.RcNeAt.lists p1.isList p2.isList hsz hu1 he⟩;subst e;exact same rd re h0
   ·rename_i hl;have h':false=k:=Option.some.inj h;subst h';have hsz:(its.toArray.size != its'.toArray.size)=true:=by rw [bne_iff_ne,sz1,sz2,<-r1.length,<-r2.length];exact hl
    refine ⟨refs (λe=> ?_) (SeqAt.RcAt.lists_lengths p1.isList p2.isList hsz hu1),SeqAt.RcAt.lists_lengths p1.isList p2.isList hsz hu1,SeqAt.RcNeAt.lists_lengths p1.isList p2.isList hsz hu1⟩;subst e;exact same rd re h0
  ·
   obtain ⟨p,vs,rfl,h1,r1⟩:=vd;obtain ⟨q,vs',rfl,h2,r2⟩:=ve;cases ru;cases rw';rw [hk] at h1 h2;obtain ⟨its,q1,p1,_⟩:=I.list h1;obtain ⟨its',q2,p2,_⟩:=I.tuple h2;exact ⟨SeqAt.EqAt.list_tuple p1.isList p2 hu1,SeqAt.RcAt.list_tuple p1.isList p2 hu1,SeqAt.RcNeAt.list_tuple p1.isList p2 hu1⟩
  ·
   obtain ⟨rfl,f1⟩:=ve;obtain ⟨q,vs,rfl,h2,r2⟩:=vd;cases ru;rw [hk] at h2;obtain ⟨its,qv,pl,_⟩:=I.tuple h2;cases y with
   | non=>cases rw';exact ⟨SeqAt.EqAt.tuple_none pl hu1,SeqAt.RcAt.tuple_none pl hu1,SeqAt.RcNeAt.tuple_none pl hu1⟩
   | bl b=>cases rw';exact ⟨SeqAt.EqAt.tuple_bool b pl hu1,SeqAt.RcAt.tuple_bool b pl hu1,SeqAt.RcNeAt.tuple_bool b pl hu1⟩
   | int b=>obtain ⟨t,rfl⟩:=rw';exact ⟨SeqAt.EqAt.tuple_int b t pl hu1,SeqAt.RcAt.tuple_int b t pl hu1,SeqAt.RcNeAt.tuple_int b t pl hu1⟩
   | str b=>obtain ⟨t,rfl⟩:=rw';exact ⟨SeqAt.EqAt.tuple_str b t pl hu1,SeqAt.RcAt.tuple_str b t pl hu1,SeqAt.RcNeAt.tuple_str b t pl hu1⟩
   | _=>exact absurd (show false=true from f1) zy
  ·
   obtain ⟨p,vs,rfl,h1,r1⟩:=vd;obtain ⟨q,vs',rfl,h2,r2⟩:=ve;cases ru;cases rw';rw [hk] at h1 h2;obtain ⟨its,q1,p1,_⟩:=I.tuple h1;obtain ⟨its',q2,p2,_⟩:=I.list h2;exact ⟨SeqAt.EqAt.tuple_list p1 p2.isList hu1,SeqAt.RcAt.tuple_list p1 p2.isList hu1,SeqAt.RcNeAt.tuple_list p1 p2.isList hu1⟩
  ·
   rename_i xs ys;obtain ⟨p,vs,rfl,h1,r1⟩:=vd;obtain ⟨q,vs',rfl,h2,r2⟩:=ve;cases ru;cases rw';rw [hk] at h1 h2;obtain ⟨its,q1,p1,_⟩:=I.tuple h1;obtain ⟨its',q2,p2,_⟩:=I.tuple h2;have sz1:its.toArray.size=xs.length:=by rw [zY,r1.length];exact q1.length.symm
   have sz2:its'.toArray.size=ys.length:=by rw [zY,r2.length];exact q2.length.symm
   split at h
   ·rename_i b hz;have h':(b && xs.length == ys.length)=k:=Option.some.inj h;obtain ⟨f,hf,hb⟩:=Ze hz;have he:∀j (g1:j < its.toArray.size) (g2:j < its'.toArray.size),SeqAt.EqAt A.in1 s its.toArray[j] its'.toArray[j] (f j):=λj g1 g2=>by obtain ⟨d1,v1,e1,rd1,rv1⟩:=Xd r1 q1 g1;obtain ⟨d2,v2,e2,rd2,rv2⟩:=Xd r2 q2 g2;exact (Wi I hk sm n hu2 rd1 rd2 rv1 rv2 (hf j d1 d2 e1 e2)).1
    have hk':k=((zX (min its.toArray.size its'.toArray.size)).all f && its.toArray.size == its'.toArray.size):=by rw [<-h',hb,sz1,sz2]
    have rc:SeqAt.RcAt A s (.ref p) (.ref q) k:=by rw [hk'];exact SeqAt.RcAt.tuples p1 p2 hu1 he
    refine ⟨refs (λe=> ?_) rc,rc,by rw [hk'];exact SeqAt.RcNeAt.tuples p1 p2 hu1 he⟩;subst e;exact same rd re h0
   ·cases h
noncomputable def Cv (d e:D) (G:DH):R D:=match eqD 30 G d e with
 | some k=>.ok (.bl k) G
 | none=>.bad
noncomputable def Ge (d e:D) (G:DH):R D:=match eqD 30 G d e with
 | some k=>.ok (.bl (!k)) G
 | none=>.bad
theorem Dp (hu:X.A.units + 64 < cLine):OpR X (xN .Eq) (lR2 X.K E Cv):=by
 intro vG s σ H x y v u Q I rx ry ⟨a,G,d,e,hk,hH,sm,rd,re,q⟩;subst hH;unfold Cv at q;split at q
 ·rename_i k hd;exact (Wi I hk sm 30 (by lia) rd re rx ry hd).2.1 _ _ _ _ ⟨.bl k,a.H,I,rfl,q a _ (Ext.refl a) sm rfl⟩
 ·exact q.elim
theorem M8 (hu:X.A.units + 64 < cLine):OpR X (xN .NotEq) (lR2 X.K E Ge):=by
 intro vG s σ H x y v u Q I rx ry ⟨a,G,d,e,hk,hH,sm,rd,re,q⟩;subst hH;unfold Ge at q;split at q
 ·rename_i k hd;exact (Wi I hk sm 30 (by lia) rd re rx ry hd).2.2 _ _ _ _ ⟨.bl (!k),a.H,I,rfl,q a _ (Ext.refl a) sm rfl⟩
 ·exact q.elim
end
abbrev DG:=D->DSt->DH->R DSt
variable {g:DG}
noncomputable def Gd (E:XK) (a:Wd) (r:R DSt) (Q:St->Hp->Prop):Prop:=match r with
 | .ok S G=>∀(b:Wd) (σ:St),Ext a b->Sim b G->RepS b S σ->Q σ b.H
 | .err x G=>XOk E a x G
 | .bad=>False
noncomputable def lG (K:PySem.W.Frag) (E:XK) (t:DG):TG:=λv σ H Q=>∃(a:Wd) (S:DSt) (G:DH) (d:D),a.K=K/\a.H=H/\Sim a G/\RepS a S σ/\Rep a d v/\Gd E a (t d S G) Q
def QG (X:Cx) (E:XK) (tg:xY) (t:DG):Prop:=PG X tg (lG X.K E t)
abbrev DGs:=List D->DSt->DH->R DSt
noncomputable def lGs (K:PySem.W.Frag) (E:XK) (t:DGs):TGs:=λvs σ H Q=>∃(a:Wd) (S:DSt) (G:DH) (ds:List D),a.K=K/\a.H=H/\Sim a G/\RepS a S σ/\Reps a ds vs/\Gd E a (t ds S G) Q
def QGs (X:Cx) (E:XK) (tg:List xY) (t:DGs):Prop:=PGs X tg (lGs X.K E t)
def gV (i:Nat):DG:=λd S G=>.ok (S.set i (some d)) G
def Bs:DGs:=λds S G=>match ds with
 | []=>.ok S G
 | _=>.bad
noncomputable def An (t:DG) (u:DGs):DGs:=λds S G=>match ds with
 | d::r=>(t d S G).bind λS1 G1=>u r S1 G1
 | []=>.bad
noncomputable def Bq (n:Nat) (t:DGs):DG:=λd S G=>match d with
 | .tup ds=>if ds.length=n then t ds S G else .bad
 | _=>.bad
theorem Gd.imp {r:R DSt} {Q Q':St->Hp->Prop} (h:Gd E a r Q) (w:∀v H,Q v H->Q' v H):Gd E a r Q':=by
 cases r with
 | ok d G=>exact λb v x s q=>w _ _ (h b v x s q)
 | err e G=>exact h
 | bad=>exact h
theorem Gd.mono (x:Ext a b) {r:R DSt} {Q:St->Hp->Prop} (h:Gd E a r Q):Gd E b r Q:=by
 cases r with
 | ok d G=>exact λc v y s q=>h c v (x.trans y) s q
 | err e G=>exact XOk.mono (E:=E) (e:=e) (G:=G) x h
 | bad=>exact h
theorem ZMp {r:R DSt} {f:DSt->DH->R DSt} {Q:St->Hp->Prop} (h:Gd E a (r.bind f) Q):
  Gd E a r (λσ H=>∃(b:Wd) (S:DSt) (G:DH),b.H=H/\Ext a b/\Sim b G/\RepS b S σ/\r=.ok S G/\Gd E b (f S G) Q):=by
 cases r with
 | ok d G=>exact λb v x s q=>⟨b,d,G,rfl,x,s,q,rfl,Gd.mono x h⟩
 | err e G=>exact h
 | bad=>exact h
theorem ZJN {f:D->DH->R DSt} {Q:St->Hp->Prop} (h:Gd E a (r.bind f) Q):
  out E a r (λv H=>∃(b:Wd) (d:D) (G:DH),b.H=H/\Ext a b/\Sim b G/\Rep b d v/\r=.ok d G/\Gd E b (f d G) Q):=by
 cases r with
 | ok d G=>exact λb v x s q=>⟨b,d,G,rfl,x,s,q,rfl,Gd.mono x h⟩
 | err e G=>exact h
 | bad=>exact h
theorem ZGJ {r:R DSt} {f:DSt->DH->SR} (h:Cz E a (r.toS f) W):
  Gd E a r (λσ H=>∃(b:Wd) (S:DSt) (G:DH),b.H=H/\Ext a b/\Sim b G/\RepS b S σ/\r=.ok S G/\Cz E b (f S G) W):=by
 cases r with
 | ok d G=>exact λb v x s q=>⟨b,d,G,rfl,x,s,q,rfl,Cz.mono x h⟩
 | err e G=>exact h
 | bad=>exact h
section
variable {X:Cx} {E:XK}
theorem _root_.L2.PG.mono {t t':TG} (h:PG X e t) (w:∀v σ H Q,t' v σ H Q->t v σ H Q):PG X e t':=λvG s σ H v u Q I r q=>h vG s σ H v u Q I r (w v σ H Q q)
theorem _root_.L2.PGs.mono {e:List xY} {t t':TGs} (h:PGs X e t) (w:∀v σ H Q,t' v σ H Q->t v σ H Q):PGs X e t':=λvG s σ H v u Q I r q=>h vG s σ H v u Q I r (w v σ H Q q)
theorem Ax (i:Nat) {pos:Pos} (hN:X.N.Nodup) (hi:X.N[i]? =some x:=by rfl) (hx:Loc X.env.scope x:=by first | exact Or.inl rfl | exact Or.inr rfl)
  (hf:X.fn x=true∨X.env.scope.names.lookup x=some .local:=by first | exact .inl rfl | exact .inr rfl | assumption):QG X E (.Name x pos) (gV i):=
 (ZPg hN hi hx hf).mono λv σ H Q h=>by obtain ⟨a,S,G,d,hk,rfl,s,r,q,h⟩:=h;exact h a _ (Ext.refl a) s (r.set i q)
theorem Fd:QGs X E [] Bs:=ZQB.mono λvs σ H Q h=>by
 obtain ⟨a,S,G,ds,hk,rfl,s,r,q,h⟩:=h;cases ds with
 | nil=>exact ⟨q,h a σ (Ext.refl a) s r⟩
 | cons d ds=>exact h.elim
theorem Ce {es:List xY} {t:DG} {u:DGs} (h1:QG X E e t) (h2:QGs X E es u)
  (hs:(xB (e::es) X.env).map (·.2)=assign e X.env::(xB es X.env).map (·.2):=by rfl):QGs X E (e::es) (An t u):=(ZLr h1 h2 hs).mono λvs σ H Q h=>by
 obtain ⟨a,S,G,ds,hk,rfl,s,r,q,h⟩:=h;cases ds with
 | nil=>exact h.elim
 | cons d ds=>
  obtain ⟨v,rest,e1,q1,q2⟩:=q;refine ⟨v,rest,e1,a,S,G,d,hk,rfl,s,r,q1,(ZMp h).imp ?_⟩;rintro σ' _ ⟨b,S1,G1,rfl,x,s1,r1,_,h1⟩;exact ⟨b,S1,G1,ds,x.k.trans hk,rfl,s1,r1,q2.mono x,h1⟩
theorem Ey {es:List xY} {k:Nat} {t:DGs} {n:Nat} {pos:Pos} (hc:X.calm=true) (h:QGs X E es t)
  (hn:(xB es X.env).length=n:=by rfl) (hst:(xB es X.env).findIdx? (·.1)=none:=by rfl):QG X E (.Tuple es k pos) (Bq n t):=(ZKN hc h hn hst).mono λv σ H Q h=>by
 obtain ⟨a,S,G,d,hk,rfl,s,r,q,h⟩:=h;cases d with
 | tup ds=>
  obtain ⟨p,vs,e,h1,r1⟩:=q;unfold Bq at h;dsimp only at h;split at h
  ·rename_i hl;exact ⟨p,vs,e,by rw [<-hk];exact h1,by rw [<-r1.length];exact hl,a,S,G,ds,hk,rfl,s,r,r1,h⟩
  ·exact h.elim
 | _=>exact h.elim
noncomputable def Mx (o i v:D) (G:DH):R D:=match o,i with
 | .ref p,.int k=>match G[p]? with
  | some (.lst xs)=>match ixN xs.length k with
   | some j=>.ok .non (G.set p (.lst (xs.set j v)))
   | none=>.bad
  | _=>.bad
 | _,_=>.bad
noncomputable def gIx (to ti:DE):DG:=λv S G=>(to S G).bind λo G1=>(ti S G1).bind λi G2=>(Mx o i v G2).bind λ_ G3=>.ok S G3
theorem ZD8 {vs':List V} {ds':List D} (s:Sim a G) (hi:i < a.n) (h:a.H (a.m i)=some (.lst vs)) (r:Reps a ds' vs'):
  Ext a (a.put (a.m i) (.lst vs'))/\Sim (a.put (a.m i) (.lst vs')) (G.set i (.lst ds')):=⟨Ext.wr h,s.wr hi h (r.mono (Ext.wr h))⟩
theorem W8 {o i:xY} {to ti:DE} {pos:Pos} (ho:QE X E o to) (hi:QE X E i ti)
  (ha:∀v,assign (.Subscript o i pos) X.env v=(do
   let ov<-holding [v] (eval o X.env);let iv<-holding [v,ov] (eval i X.env)
   standAt pos
   holding [v,ov,iv] (setItem ov iv v)
   release [v,ov,iv] []):=by intro _;rfl):QG X E (.Subscript o i pos) (gIx to ti):=(ZOz ho hi set_list ha).mono λv σ H Q h=>by
 obtain ⟨a,S,G,d,hk,rfl,s,r,q,h⟩:=h;refine ⟨a,S,G,hk,rfl,s,r,(ZJN h).imp ?_⟩;rintro ov _ ⟨b,e,G1,rfl,x,s1,q1,_,h1⟩;refine ⟨b,S,G1,x.k.trans hk,rfl,s1,r.mono x,(ZJN h1).imp ?_⟩;rintro iv _ ⟨c,f,G2,rfl,y,s2,q2,_,h2⟩;cases e with
 | ref p=>
  cases f with
  | int k=>
   unfold Mx at h2;dsimp only at h2;split at h2
   ·rename_i xs hx;split at h2
    ·rename_i j hj;obtain ⟨vs,e1,r1⟩:=s2.lst hx;have q1':=q1.mono y;have rv:=(q.mono x).mono y;obtain ⟨x3,s3⟩:=ZD8 s2 q1'.1 e1 (r1.set rv j);refine ⟨c.m p,vs,k,j,q1'.2,q2,e1,by rw [<-r1.length];exact hj,?_⟩;exact h2 _ σ x3 s3 (((r.mono x).mono y).mono x3)
    ·exact h2.elim
   ·exact h2.elim
  | _=>exact h2.elim
 | _=>exact h2.elim
variable {st:xy} {rest:List xy} {t u:DS} {e:xY} {te:DE} {pos:Pos}
def sNx:DS:=λS G=>.nx S G
def Ai (t u:DS):DS:=λS G=>match t S G with
 | .nx S1 G1=>u S1 G1
 | r=>r
def sEx (te:DE):DS:=λS G=>(te S G).toS λ_ G1=>.nx S G1
def sRt (te:DE):DS:=λS G=>(te S G).toS λd G1=>.rt d G1
noncomputable def sIf (c:DB) (t u:DS):DS:=λS G=>(c S G).toS λk G1=>if k=true then t S G1 else u S G1
noncomputable def sAs (te:DE) (g:DG):DS:=λS G=>(te S G).toS λd G1=>(g d S G1).toS λS2 G2=>.nx S2 G2
noncomputable def sAu (i:Nat) (te:DE) (f:D->D->DH->R D):DS:=λS G=>match S[i]? with
 | some (some x)=>(te S G).toS λy G1=>(f x y G1).toS λz G2=>.nx (S.set i (some z)) G2
 | _=>.bad
theorem Dg:QSs X E [] sNx:=ZPD.mono λW σ H h=>by obtain ⟨a,S,G,hk,rfl,s,r,h⟩:=h;exact h a σ (Ext.refl a) s r
theorem Cz.nxOf {t:DS} (hk:a.K=K) (h:Cz E a (Ai t u S G) W):Cz E a (t S G) {W with nx:=lS K E u W}:=by
 unfold Ai at h
 revert h
 cases t S G <;> intro h
 ·exact λb σ x s r=>⟨b,_,_,x.k.trans hk,rfl,s,r,Cz.mono x h⟩
 all_goals exact h
theorem Aj (h1:QS X E st t) (h2:QSs X E rest u):QSs X E (st::rest) (Ai t u):=(ZOB h1 h2).mono λW σ H h=>by obtain ⟨a,S,G,hk,rfl,s,r,h⟩:=h;exact ⟨a,S,G,hk,rfl,s,r,h.nxOf hk⟩
theorem Aq (h1:QS X E st t):QSs X E [st] t:=ZRT h1
theorem Fi (he:QE X E e te) (hs:swapsWith e none pos.line X.env=pure false:=by rfl):QS X E (.Expr e pos) (sEx te):=(ZPH he hs).mono λW σ H h=>by obtain ⟨a,S,G,hk,rfl,s,r,h⟩:=h;refine ⟨a,S,G,hk,rfl,s,r,(Im h).imp ?_⟩;rintro v _ ⟨b,d,G1,rfl,x,s1,q,_,h1⟩;exact h1 b σ (Ext.refl b) s1 (r.mono x)
theorem Bv (he:QE X E e te):QS X E (.Return (some e) pos) (sRt te):=(ZN2 he).mono λW σ H h=>by obtain ⟨a,S,G,hk,rfl,s,r,h⟩:=h;refine ⟨a,S,G,hk,rfl,s,r,(Im h).imp ?_⟩;rintro v _ ⟨b,d,G1,rfl,x,s1,q,_,h1⟩;exact h1 b v (Ext.refl b) s1 q
theorem Cu {c:xY} {tc:DB} {a b:List xy} (hc:QT X E c tc) (ha:QSs X E a t) (hb:QSs X E b u):QS X E (.If c a b pos) (sIf tc t u):=(ZQV hc ha hb).mono λW σ H h=>by
 obtain ⟨a,S,G,hk,rfl,s,r,h⟩:=h;refine ⟨a,S,G,hk,rfl,s,r,(ZGY h).imp ?_⟩;rintro k _ ⟨b,G1,rfl,x,s1,_,h1⟩;cases k with
 | true=>exact ⟨b,S,G1,x.k.trans hk,rfl,s1,r.mono x,h1⟩
 | false=>exact ⟨b,S,G1,x.k.trans hk,rfl,s1,r.mono x,h1⟩
theorem ZKy (h:lS K E (sAs te g) W σ H):ZCM (lE K E te) (lG K E g) W σ H:=by obtain ⟨a,S,G,hk,rfl,s,r,h⟩:=h;refine ⟨a,S,G,hk,rfl,s,r,(Im h).imp ?_⟩;rintro v _ ⟨b,d,G1,rfl,x,s1,q,_,h1⟩;refine ⟨b,S,G1,d,x.k.trans hk,rfl,s1,r.mono x,q,(ZGJ h1).imp ?_⟩;rintro σ' _ ⟨c,S2,G2,rfl,y,s2,r2,_,h2⟩;exact h2 c σ' (Ext.refl c) s2 r2
theorem K5 (he:QE X E e te) (hg:QG X E tg g) (hs:swapsWithSole [tg] e pos.line X.env=pure false:=by rfl) (hw:swappedStores [tg] e X.env=pure none:=by rfl)
  (h1:(xB [tg] X.env).map (·.2)= [assign tg X.env]:=by rfl):QS X E (.Assign [tg] e pos) (sAs te g):=(ZOl he hg hs hw h1).mono λ_ _ _ h=>ZKy h
theorem Ao (i:Nat) {pos':Pos} (hN:X.N.Nodup) (he:QE X E e te) (hi:X.N[i]? =some x:=by rfl) (hx:Loc X.env.scope x:=by first | exact Or.inl rfl | exact Or.inr rfl) (hs:swapsWith e (some (.Name x pos')) pos.line X.env=pure false:=by rfl)
  (hf:X.fn x=true∨X.env.scope.names.lookup x=some .local:=by first | exact .inl rfl | exact .inr rfl | assumption):QS X E (.Assign [.Name x pos'] e pos) (sAs te (gV i)):=
 (ZR6 hN hi hx he hs hf).mono λW σ H h=>by obtain ⟨a,S,G,hk,rfl,s,r,h⟩:=h;refine ⟨a,S,G,hk,rfl,s,r,(Im h).imp ?_⟩;rintro v _ ⟨b,d,G1,rfl,x,s1,q,_,h1⟩;exact h1 b _ (Ext.refl b) s1 ((r.mono x).set i q)
theorem ZEp (i:Nat) {op:Operator} {pos':Pos} (hN:X.N.Nodup) (he:QE X E e te) (ho:OpR X (inplaceOp op) (lR2 X.K E f)) (hi:X.N[i]? =some x:=by rfl) (hx:Loc X.env.scope x:=by first | exact Or.inl rfl | exact Or.inr rfl)
  (hf:X.fn x=true∨X.env.scope.names.lookup x=some .local:=by first | exact .inl rfl | exact .inr rfl | assumption):QS X E (.AugAssign (.Name x pos') op e pos) (sAu i te f):=
 (ZLX (ti:=lR2 X.K E f) hN hi hx he ho hf).mono λW σ H h=>by
  obtain ⟨a,S,G,hk,rfl,s,r,h⟩:=h;unfold sAu at h;split at h
  ·rename_i d hd;obtain ⟨v,e1,q⟩:=r.get i d hd;refine ⟨v,e1,a,S,G,hk,rfl,s,r,(Im h).imp ?_⟩;rintro w _ ⟨b,d1,G1,rfl,x,s1,q1,_,h1⟩;refine ⟨b,G1,d,d1,x.k.trans hk,rfl,s1,q.mono x,q1,(Im h1).imp ?_⟩;rintro z _ ⟨c,d2,G2,rfl,y,s2,q2,_,h2⟩;exact h2 c _ (Ext.refl c) s2 (((r.mono x).mono y).set i q2)
  ·exact h.elim
noncomputable def Mg:D->D->DH->R D
 | .int i,.int j,G=>.ok (.int (i + j)) G
 | .str i,.str j,G=>if i.length + j.length<=1000000 then .ok (.str (i++j)) G else .bad
 | _,_,_=>.bad
theorem V4:OpR X (inplaceOp .Add) (lR2 X.K E Mg):=Hm (OpR.or (r:=ipI λi j=>i + j) ZNB ZK1) λa G d e x y Q hk s rd re q=>by
 cases d <;> cases e <;> first
  | exact q.elim
  | exact .inl ⟨_,_,rd,re,q a _ (Ext.refl a) s rfl⟩
  | (
    unfold Mg at q;dsimp only at q;split at q
    ·rename_i hl;exact .inr ⟨_,_,rd,re,zB hl size6,q a _ (Ext.refl a) s rfl⟩
    ·exact q.elim)
theorem ZP2:OpR X (inplaceOp .Sub) (lR2 X.K E Ho):=Hm (r:=ipI λi j=>i - j) ZNW λa G d e x y Q hk s rd re q=>by
 cases d <;> cases e <;> first
  | exact q.elim
  | exact ⟨_,_,rd,re,q a _ (Ext.refl a) s rfl⟩
end
noncomputable def aft (r:SR) (k:DSt->DH->SR):SR:=match r with
 | .nx S G=>k S G
 | .ct S G=>k S G
 | .bk S G=>.nx S G
 | r=>r
noncomputable def Bx (g:DG) (b:DS):List D->DS
 | [],S,G=>.nx S G
 | x::xs,S,G=>(g x S G).toS λS1 G1=>aft (b S1 G1) (Bx g b xs)
noncomputable def forM (i:Nat) (g:DG) (b:DS):Nat->Nat->DS
 | 0,j,S,G=>match G[i]? with
  | some (.lst xs)=>if xs.length<=j then .nx S G else .bad
  | _=>.bad
 | k + 1,j,S,G=>match G[i]? with
  | some (.lst xs)=>match xs[j]? with
   | some x=>(g x S G).toS λS1 G1=>aft (b S1 G1) (forM i g b k (j + 1))
   | none=>.nx S G
  | _=>.bad
noncomputable def Ef (f:Nat->DH->Option (Option D)) (g:DG) (b:DS):Nat->Nat->DS
 | 0,j,S,G=>match f j G with
  | some none=>.nx S G
  | _=>.bad
 | k + 1,j,S,G=>match f j G with
  | some (some x)=>(g x S G).toS λS1 G1=>aft (b S1 G1) (Ef f g b k (j + 1))
  | some none=>.nx S G
  | none=>.bad
inductive ItD where
 | pure (xs:List D)
 | mt (i:Nat)
 | fn (n:Nat) (f:Nat->DH->Option (Option D))
abbrev DI:=DSt->DH->R ItD
noncomputable def Ei (it:DI) (g:DG) (b:DS):DS:=λS G=>(it S G).toS λJ G1=>match J with
 | .pure xs=>Bx g b xs S G1
 | .mt i=>match G1[i]? with
  | some (.lst xs)=>forM i g b xs.length 0 S G1
  | _=>.bad
 | .fn n f=>Ef f g b n 0 S G1
noncomputable def RepI (a:Wd):ItD->It->Prop
 | .pure xs,J=>∃vs:List V,Reps a xs vs/\∀b:Wd,Ext a b->∀i,(∀v,vs[i]? =some v->J.go i b.H/\∀x H',J.yld i b.H x H'->x=v/\H'=b.H)/\(vs.length<=i->J.stop i b.H)
 | .mt k,J=>k < a.n/\∀b:Wd,Ext a b->∀vs,b.H (b.m k)=some (.lst vs)->∀i,(∀v,vs[i]? =some v->J.go i b.H/\∀x H',J.yld i b.H x H'->x=v/\H'=b.H)/\(vs.length<=i->J.stop i b.H)
 | .fn _ f,J=>∀b:Wd,Ext a b->∀G,Sim b G->∀i,(∀d,f i G=some (some d)->J.go i b.H/\∀x H',J.yld i b.H x H'->∃c:Wd,c.H=H'/\Ext b c/\Sim c G/\Rep c d x)/\(f i G=some none->J.stop i b.H)
noncomputable def outI (E:XK) (a:Wd) (r:R ItD) (Q:It->Hp->Prop):Prop:=match r with
 | .ok J G=>∀(b:Wd) (JJ:It),Ext a b->Sim b G->RepI b J JJ->Q JJ b.H
 | .err x G=>XOk E a x G
 | .bad=>False
noncomputable def lI (K:PySem.W.Frag) (E:XK) (t:DI):TI:=λσ H Q=>∃(a:Wd) (S:DSt) (G:DH),a.K=K/\a.H=H/\Sim a G/\RepS a S σ/\outI E a (t S G) Q
def QI (X:Cx) (E:XK) (tg iter:xY) (t:DI):Prop:=PI X tg iter (lI X.K E t)
theorem outI.imp {r:R ItD} {Q Q':It->Hp->Prop} (h:outI E a r Q) (w:∀v H,Q v H->Q' v H):outI E a r Q':=by
 cases r with
 | ok d G=>exact λb v x s q=>w _ _ (h b v x s q)
 | err e G=>exact h
 | bad=>exact h
theorem ZKW {r:R ItD} {f:ItD->DH->SR} (h:Cz E a (r.toS f) W):
  outI E a r (λJ H=>∃(b:Wd) (d:ItD) (G:DH),b.H=H/\Ext a b/\Sim b G/\RepI b d J/\r=.ok d G/\Cz E b (f d G) W):=by
 cases r with
 | ok d G=>exact λb v x s q=>⟨b,d,G,rfl,x,s,q,rfl,Cz.mono x h⟩
 | err e G=>exact h
 | bad=>exact h
theorem ZHh {r:SR} {k:DSt->DH->SR} (h:Cz E a (aft r k) W):
  Cz E a r {W with
            nx:=λσ H=>∃(b:Wd) (S:DSt) (G:DH),b.H=H/\Ext a b/\Sim b G/\RepS b S σ/\Cz E b (k S G) W,
            ct:=λσ H=>∃(b:Wd) (S:DSt) (G:DH),b.H=H/\Ext a b/\Sim b G/\RepS b S σ/\Cz E b (k S G) W,bk:=W.nx}:=by
 cases r with
 | nx S G=>exact λb σ x s q=>⟨b,S,G,rfl,x,s,q,Cz.mono x h⟩
 | ct S G=>exact λb σ x s q=>⟨b,S,G,rfl,x,s,q,Cz.mono x h⟩
 | bk S G=>exact h
 | rt d G=>exact h
 | err x G=>exact h
 | bad=>exact h
noncomputable def mtF (i j:Nat) (G:DH):Option (Option D):=match G[i]? with
 | some (.lst xs)=>some xs[j]?
 | _=>none
theorem ZGS {J:It} {n:Nat} (r:RepI a (.pure xs) J):RepI a (.fn n λj _=>some xs[j]?) J:=by
 obtain ⟨vs,rv,h⟩:=r;refine λb x G sm i=>⟨λd e=> ?_,λe=> ?_⟩
 ·obtain ⟨v,ev,q⟩:=rv.get (Option.some.inj e);obtain ⟨h1,h2⟩:=(h b x i).1 v ev;refine ⟨h1,λy H' hy=> ?_⟩;obtain ⟨rfl,rfl⟩:=h2 y H' hy;exact ⟨b,rfl,Ext.refl b,sm,q.mono x⟩
 ·exact (h b x i).2 (by rw [<-rv.length];exact qR.mp (Option.some.inj e))
theorem ZHc {J:It} {n:Nat} (r:RepI a (.mt k) J):RepI a (.fn n (mtF k)) J:=by
 obtain ⟨hk,h⟩:=r;refine λb x G sm i=> ?_
 unfold mtF;cases hG:G[k]? with
 | none=>exact ⟨λd e=>(by cases e),λe=>(by cases e)⟩
 | some o=>
  cases o with
  | lst xs=>
   obtain ⟨vs,e1,rv⟩:=sm.lst hG;refine ⟨λd e=> ?_,λe=> ?_⟩
   ·obtain ⟨v,ev,q⟩:=rv.get (Option.some.inj e);obtain ⟨h1,h2⟩:=(h b x vs e1 i).1 v ev;refine ⟨h1,λy H' hy=> ?_⟩;obtain ⟨rfl,rfl⟩:=h2 y H' hy;exact ⟨b,rfl,Ext.refl b,sm,q⟩
   ·exact (h b x vs e1 i).2 (by rw [<-rv.length];exact qR.mp (Option.some.inj e))
  | _=>exact ⟨λd e=>(by cases e),λe=>(by cases e)⟩
theorem ZHi {b:DS} :∀(n j:Nat),j + n=xs.length->Bx g b (xs.drop j)=Ef (λj _=>some xs[j]?) g b n j
 | 0,j,h=>by
  funext S G;rw [zR (by lia)]
  show SR.nx S G=(match some xs[j]? with | some none=>SR.nx S G | _=>.bad)
  rw [z0 (by lia)]
 | n + 1,j,h=>by
  funext S G;have hj:j < xs.length:=by lia
  rw [zN hj]
  show (g xs[j] S G).toS (λS1 G1=>aft (b S1 G1) (Bx g b (xs.drop (j + 1))))=(match some xs[j]? with | some (some x)=>(g x S G).toS (λS1 G1=>aft (b S1 G1) (Ef (λj _=>some xs[j]?) g b n (j + 1))) | some none=>SR.nx S G | none=>.bad)
  rw [zQ hj,ZHi n (j + 1) (by lia)]
theorem ZG8 {b:DS} :∀(n j:Nat),forM i g b n j=Ef (mtF i) g b n j
 | 0,j=>by
  funext S G;unfold forM Ef mtF;cases G[i]? with
  | none=>rfl
  | some o=>
   cases o with
   | lst xs=>
    dsimp only;by_cases hj:j < xs.length
    ·rw [if_neg (by lia),zQ hj]
    ·rw [if_pos (by lia),z0 (by lia)]
   | _=>rfl
 | n + 1,j=>by
  funext S G;unfold forM Ef;rw [ZG8 n (j + 1)];unfold mtF;cases G[i]? with
  | none=>rfl
  | some o=>
   cases o with
   | lst xs=>
    dsimp only
    cases xs[j]? <;> rfl
   | _=>rfl
section
variable {X:Cx} {E:XK} {tg iter:xY} {pos:Pos}
theorem ZRb {it:DI} {b:DS} (h:lS K E (Ei it g b) W σ H):tFor (lI K E it) (lG K E g) (lS K E b) W σ H:=by
 obtain ⟨a,S,G,hk,rfl,s,r,h⟩:=h;refine ⟨a,S,G,hk,rfl,s,r,(ZKW h).imp ?_⟩;rintro J _ ⟨a1,d,G1,rfl,x1,s1,q1,_,h1⟩;have k1:a1.K=K:=x1.k.trans hk
 suffices fnc:∃n f,RepI a1 (.fn n f) J/\Cz E a1 (Ef f g b n 0 S G1) W by
  obtain ⟨n,f,q1,h1⟩:=fnc;have walk:∀b:Wd,Ext a1 b->∀G,Sim b G->∀i,(∀d,f i G=some (some d)->J.go i b.H/\∀x H',J.yld i b.H x H'->∃c:Wd,c.H=H'/\Ext b c/\Sim c G/\Rep c d x)/\(f i G=some none->J.stop i b.H):=q1;refine ⟨λi m σ H=>∃(c:Wd) (S:DSt) (G:DH),c.H=H/\Ext a1 c/\Sim c G/\RepS c S σ/\Cz E c (Ef f g b m i S G) W,⟨_,a1,S,G1,rfl,Ext.refl _,s1,r.mono x1,h1⟩,?_⟩;rintro i m σ2 _ ⟨c,S2,G2,rfl,x2,s2,r2,h2⟩
  cases m with
  | zero=>
   unfold Ef at h2;split at h2
   ·rename_i hf;exact .inl ⟨(walk c x2 G2 s2 i).2 hf,h2 c σ2 (Ext.refl c) s2 r2⟩
   ·exact h2.elim
  | succ m=>
   unfold Ef at h2;split at h2
   ·rename_i d hf;obtain ⟨go,yl⟩:=(walk c x2 G2 s2 i).1 d hf;refine .inr ⟨go,λσ' H'=>∃(c:Wd) (S:DSt) (G:DH),c.H=H'/\Ext a1 c/\Sim c G/\RepS c S σ'/\Cz E c (Ef f g b m (i + 1) S G) W,λσ' H' z=>⟨m,qW _,z⟩,λw H' y=> ?_⟩;obtain ⟨cc,rfl,xx,ss,rd⟩:=yl w H' y;refine ⟨cc,S2,G2,d,xx.k.trans (x2.k.trans k1),rfl,ss,r2.mono xx,rd,(ZGJ (Cz.mono xx h2)).imp ?_⟩;rintro σ3 _ ⟨c3,S3,G3,rfl,x3,s3,r3,_,h3⟩
    have fin:=ZHh h3;refine ⟨c3,S3,G3,x3.k.trans (xx.k.trans (x2.k.trans k1)),rfl,s3,r3,?_⟩
    revert fin
    cases b S3 G3 with
    | nx S4 G4=>
      intro fin c4 σ4 x4 s4 q4;obtain ⟨c5,S5,G5,hh,x5,s5,r5,h5⟩:=fin c4 σ4 x4 s4 q4;exact ⟨c5,S5,G5,hh,x2.trans (xx.trans (x3.trans x5)),s5,r5,h5⟩
    | ct S4 G4=>
      intro fin c4 σ4 x4 s4 q4;obtain ⟨c5,S5,G5,hh,x5,s5,r5,h5⟩:=fin c4 σ4 x4 s4 q4;exact ⟨c5,S5,G5,hh,x2.trans (xx.trans (x3.trans x5)),s5,r5,h5⟩
    | bk S4 G4=>exact λfin=>fin
    | rt S4 G4=>exact λfin=>fin
    | err S4 G4=>exact λfin=>fin
    | bad=>exact λfin=>fin
   ·rename_i hf;exact .inl ⟨(walk c x2 G2 s2 i).2 hf,h2 c σ2 (Ext.refl c) s2 r2⟩
   ·exact h2.elim
 cases d with
 | pure xs=>
  have h1':Cz E a1 (Bx g b (xs.drop 0) S G1) W:=h1;rw [ZHi xs.length 0 (by lia)] at h1';exact ⟨_,_,ZGS q1,h1'⟩
 | mt k=>
  dsimp only at h1;split at h1
  ·rw [ZG8] at h1;exact ⟨_,_,ZHc q1,h1⟩
  ·exact h1.elim
 | fn n f=>exact ⟨n,f,q1,h1⟩
theorem Eu {body:List xy} {it:DI} {b:DS} (hp:PassesOwn (vV X.prog X.w) X.A X.env X.xe) (hc:X.calm=true) (hi:QI X E tg iter it) (hg:QG X E tg g) (hb:QSs X E body b)
  (hs:∀x,foldedSetIterable iter X.env x=pure x:=by intro _;rfl):QS X E (.For tg iter body [] pos) (Ei it g b):=(ZR3 hp hc hi hg hb hs).mono λ_ _ _ h=>ZRb h
theorem _root_.L2.PI.mono {t t':TI} (h:PI X tg iter t) (w:∀σ H Q,t' σ H Q->t σ H Q):PI X tg iter t':=λvG s σ H Q I q=>h vG s σ H Q I (w σ H Q q)
def sgn (c:Nat):D:=.str ⟨#[c]⟩
def signs (x:Str):List D:=x.cps.toList.map sgn
noncomputable def Its (x:Str):It:=⟨λi _=>i < x.cps.size,λi H v H'=>H'=H/\∃c,x.cps[i]? =some c/\v=.str ⟨#[c]⟩,λi _=>x.cps.size<=i⟩
theorem ZQh (it:xW) (x:Str) (t:Tok):Turn P w K tg (Its x) [it] it (λi h=>h.IsStrIter it "str_ascii_iterator" x t i) where
 mem:=by simp
 obj:=λi h st b hb=>by
  have e:b=it:=by simpa using hb
  subst e;obtain ⟨o,e,c,d⟩:=st;exact ⟨o,e,λv z=>by rw [d] at z;cases z⟩
 keep:=λi h h' st k=>let ⟨o,ho,r⟩:=st;⟨o,k it (by simp) o ho,r⟩
 item:=by
  intro X hP hw hK hc i vG s σ H E I hf st hg;subst hP hw hK;obtain ⟨f0,f1,f2,f3,f4,f5⟩:=hf it (by simp);have hi:i < x.cps.size:=hg;refine wpAny_pyNext_ascii_item st (c:=x.cps[i]) (by simp [hi]) λh' st' sb=> ?_
  have I1:Inv X vG σ H {s with heap:=h',toks:=s.toks + 1}:=I.turned (λb o hb e=>(sb.2 b hb).trans e) f0 f1 f3 f4 f5;obtain ⟨o,e,c,d⟩:=id st';exact ⟨_,rfl,Py (s:={s with heap:=h',toks:=s.toks + 1}) e c d (by decide) ⟨.str ⟨#[x.cps[i]]⟩,H,I1,⟨_,rfl⟩,⟨rfl,_,by simp [hi],rfl⟩,st',λb hb=>(hf b hb).1⟩⟩
 done:=by intro X hP hw hK hc i vG s σ H E I hf st hg;subst hP hw hK;obtain ⟨f0,f1,f2,f3,f4,f5⟩:=hf it (by simp);have hi:x.cps.size<=i:=hg;exact wpAny_pyNext_ascii_end (I.ok.hd hc) st (by simp [hi]) λh' eb=>⟨rfl,I.turned (t':=s.toks) (λb o hb e=>eb b o hb e) f0 f1 f3 f4 f5⟩
 self:=λ_ _ _ _ _ st h=>wpAny_pyIter_striter_ascii st h
theorem ZQP (it:xW) (x:Str) (t:Tok):Turn P w K tg (Its x) [it] it (λi h=>h.IsStrIter it "str_iterator" x t i) where
 mem:=by simp
 obj:=λi h st b hb=>by
  have e:b=it:=by simpa using hb
  subst e;obtain ⟨o,e,c,d⟩:=st;exact ⟨o,e,λv z=>by rw [d] at z;cases z⟩
 keep:=λi h h' st k=>let ⟨o,ho,r⟩:=st;⟨o,k it (by simp) o ho,r⟩
 item:=by
  intro X hP hw hK hc i vG s σ H E I hf st hg;subst hP hw hK;obtain ⟨f0,f1,f2,f3,f4,f5⟩:=hf it (by simp);have hi:i < x.cps.size:=hg;refine wpAny_pyNext_wide_item st (c:=x.cps[i]) (by simp [hi]) λh' st' sb=> ?_
  have I1:Inv X vG σ H {s with heap:=h',toks:=s.toks + 1}:=I.turned (λb o hb e=>(sb.2 b hb).trans e) f0 f1 f3 f4 f5;obtain ⟨o,e,c,d⟩:=id st';exact ⟨_,rfl,Py (s:={s with heap:=h',toks:=s.toks + 1}) e c d (by decide) ⟨.str ⟨#[x.cps[i]]⟩,H,I1,⟨_,rfl⟩,⟨rfl,_,by simp [hi],rfl⟩,st',λb hb=>(hf b hb).1⟩⟩
 done:=by intro X hP hw hK hc i vG s σ H E I hf st hg;subst hP hw hK;obtain ⟨f0,f1,f2,f3,f4,f5⟩:=hf it (by simp);have hi:x.cps.size<=i:=hg;exact wpAny_pyNext_wide_end (I.ok.hd hc) st (by simp [hi]) λh' eb=>⟨rfl,I.turned (t':=s.toks) (λb o hb e=>eb b o hb e) f0 f1 f3 f4 f5⟩
 self:=λ_ _ _ _ _ st h=>wpAny_pyIter_striter_wide st h
def iStr (tl:TE):TI:=λσ H R=>tl σ H λx H1=>∃z,x=.str z/\R (Its z) H1
theorem ZLB {l:xY} {tl:TE} (hl:PE X l tl):PI X tg l (iStr tl):=by
 intro vG s σ H R I h;refine thn (hl vG s σ H _ I h) λv s1 ⟨x,H1,I1,r1,q1⟩=> ?_
 obtain ⟨z,e,q⟩:=q1;subst e;obtain ⟨t,rfl⟩:=r1;have fp:∀b∈ [s1.heap.objs.size],FpOk X vG H1 b:=λb hb=>by
  have e:b=s1.heap.objs.size:=by simpa using hb
  subst e;exact I1.K8 (zK _) (I1.hok.fresh (zK _))
 cases ha:z.cps.all (· < 128)
 ·refine wpAny_pyIter_wide ha ?_;exact ⟨s1.heap.objs.size,[s1.heap.objs.size],_,_,H1,rfl,I1.kept (t':=s1.toks) λb o e=>zJ _ e,ZQP _ z t,⟨_,z9 _ rfl,rfl,rfl⟩,fp,q⟩
 ·refine wpAny_pyIter_ascii ha ?_;exact ⟨s1.heap.objs.size,[s1.heap.objs.size],_,_,H1,rfl,I1.kept (t':=s1.toks) λb o e=>zJ _ e,ZQh _ z t,⟨_,z9 _ rfl,rfl,rfl⟩,fp,q⟩
theorem Reps.signs (x:Str):Reps a (signs x) (x.cps.toList.map λc=>V.str ⟨#[c]⟩):=by
 unfold DL.signs
 induction x.cps.toList with
 | nil=>exact rfl
 | cons c r ih=>exact ⟨_,_,rfl,rfl,ih⟩
noncomputable def G8:D->DH->R ItD
 | .tup xs,G=>.ok (.pure xs) G
 | .str x,G=>.ok (.pure (signs x)) G
 | .fl xs,G=>.ok (.pure xs) G
 | .ref i,G=>match G[i]? with
  | some (.lst _)=>.ok (.mt i) G
  | _=>.bad
 | _,_=>.bad
def Di (te:DE):DI:=λS G=>(te S G).bind G8
theorem Ds (he:QE X E iter te):QI X E tg iter (Di te):=by
 intro vG s σ H R I h;obtain ⟨a,S,G,hk,rfl,sm,r,h⟩:=h;cases ht:te S G with
 | bad=>
  have h':outI E a ((te S G).bind G8) R:=h;rw [ht] at h';exact h'.elim
 | err e G1=>
  have h':outI E a ((te S G).bind G8) R:=h;rw [ht] at h';refine ZBZ (tg:=tg) he vG s σ a.H R I ⟨a,S,G,hk,rfl,sm,r,?_⟩;rw [ht];exact h'
 | ok d G1=>
  have h':outI E a ((te S G).bind G8) R:=h;rw [ht] at h';cases d with
  | tup xs=>
   refine ZPN (tg:=tg) he vG s σ a.H R I ⟨a,S,G,hk,rfl,sm,r,?_⟩;rw [ht];rintro b v x sb ⟨p,vs,rfl,hq,rv⟩;have hq':SqT X.K b.H p vs:=by rw [<-hk,<-x.k];exact hq
   refine ⟨p,rfl,⟨vs,hq'⟩,h' b _ x sb ⟨vs,rv,λc y i=>⟨λv hv=>⟨⟨vs,v,?_,hv⟩,λw H' z=> ?_⟩,λhl=>⟨vs,?_,hl⟩⟩⟩⟩
   ·have:=y.sqT hq;rw [y.k,x.k,hk] at this;exact this
   ·have:=y.sqT hq;rw [y.k,x.k,hk] at this;exact ⟨Option.some.inj ((z.2 vs this).symm.trans hv),z.1⟩
   ·have:=y.sqT hq;rw [y.k,x.k,hk] at this;exact this
  | fl xs=>
   refine ZBZ (tg:=tg) he vG s σ a.H R I ⟨a,S,G,hk,rfl,sm,r,?_⟩;rw [ht];rintro b v x sb ⟨p,vs,rfl,hq,rv⟩;have hq':SqL X.K b.H p vs:=by rw [<-hk,<-x.k];exact hq.sq
   refine ⟨p,rfl,⟨vs,hq'⟩,h' b _ x sb ⟨vs,rv,λc y i=>⟨λv hv=>⟨⟨vs,v,?_,hv⟩,λw H' z=> ?_⟩,λhl=>⟨vs,?_,hl⟩⟩⟩⟩
   ·have:=(y.fzL hq).sq;rw [y.k,x.k,hk] at this;exact this
   ·have:=(y.fzL hq).sq;rw [y.k,x.k,hk] at this;exact ⟨Option.some.inj ((z.2 vs this).symm.trans hv),z.1⟩
   ·have:=(y.fzL hq).sq;rw [y.k,x.k,hk] at this;exact this
  | ref k=>
   have h2:outI E a (G8 (.ref k) G1) R:=h';unfold G8 at h2;dsimp only at h2;split at h2
   ·rename_i xs hx;refine ZBZ (tg:=tg) he vG s σ a.H R I ⟨a,S,G,hk,rfl,sm,r,?_⟩;rw [ht];rintro b v x sb ⟨hkn,rfl⟩;obtain ⟨vs,hx,_⟩:=sb.lst hx;refine ⟨b.m k,rfl,⟨vs,.of hx⟩,h2 b _ x sb ⟨hkn,λc y us hu i=> ?_⟩⟩;rw [y.m k hkn] at hu;exact ⟨λv hv=>⟨⟨us,v,.of hu,hv⟩,λw H' z=>⟨Option.some.inj ((z.2 us (.of hu)).symm.trans hv),z.1⟩⟩,λhl=>⟨us,.of hu,hl⟩⟩
   ·exact h2.elim
  | str z=>
   refine ZLB (tg:=tg) he vG s σ a.H R I ⟨a,S,G,hk,rfl,sm,r,?_⟩;rw [ht];intro b v x sb rv
   cases (show v=V.str z from rv)
   refine ⟨z,rfl,h' b _ x sb ⟨_,Reps.signs z,λc y i=>⟨λv hv=> ?_,λhl=> ?_⟩⟩⟩
   ·rw [zk,zI] at hv;obtain ⟨k,hk1,rfl⟩:=hv;have hk2:z.cps[i]? =some k:=by rw [<-qS];exact hk1
    refine ⟨(Array.getElem?_eq_some_iff.mp hk2).1,λw H' q=> ?_⟩;obtain ⟨e1,k',e2,e3⟩:=q;rw [hk2] at e2;cases e2;exact ⟨e3,e1⟩
   ·rw [zG,qM] at hl;exact hl
  | _=>exact h'.elim
end
noncomputable def Dc (lo:Int) (n:Nat):List D:=(zX n).map λ(k:Nat)=>D.int (lo + (k:Int))
def inR (j:Int):Prop:= -(2 ^ 62)<=j/\j < 2 ^ 62
instance (j:Int):Decidable (inR j):=by unfold inR;infer_instance
noncomputable def rng1 (ds:List D) (G:DH):R ItD:=match ds with
 | [.int j]=>if inR j then .ok (.pure (Dc 0 j.toNat)) G else .bad
 | _=>.bad
noncomputable def rng2 (ds:List D) (G:DH):R ItD:=match ds with
 | [.int i,.int j]=>if inR i/\inR j then .ok (.pure (Dc i (j - i).toNat)) G else .bad
 | _=>.bad
def Dh (f:List D->DH->R ItD) (ta:DA):DI:=λS G=>(ta S G).bind f
noncomputable def sWh (c:DB) (b:DS):Nat->DS
 | 0,_,_=>.bad
 | n + 1,S,G=>(c S G).toS λk G1=>if k=true then aft (b S G1) (sWh c b n) else .nx S G1
noncomputable def Cd (np nl:Nat) (b:DS):List D->DH->R D:=λds G=>if ds.length=np then tidy G (match b (ds.map some++zC nl none) G with
 | .nx _ G'=>.ok .non G'
 | .rt d G'=>.ok d G'
 | .err x G'=>.err x G'
 | _=>.bad) else .bad
theorem outI.mono (x:Ext a b) {r:R ItD} {Q:It->Hp->Prop} (h:outI E a r Q):outI E b r Q:=by
 cases r with
 | ok d G=>exact λc v y s q=>h c v (x.trans y) s q
 | err e G=>exact XOk.mono (E:=E) (e:=e) (G:=G) x h
 | bad=>exact h
theorem Rf {r:R (List D)} {f:List D->DH->R ItD} {Q:It->Hp->Prop} (h:outI E a (r.bind f) Q):
  Gy E a r (λvs H=>∃(b:Wd) (ds:List D) (G:DH),b.H=H/\Ext a b/\Sim b G/\Reps b ds vs/\r=.ok ds G/\outI E b (f ds G) Q):=by
 cases r with
 | ok d G=>exact λb v x s q=>⟨b,d,G,rfl,x,s,q,rfl,outI.mono x h⟩
 | err e G=>exact h
 | bad=>exact h
section
variable {X:Cx} {E:XK} {tg iter:xY} {pos:Pos}
theorem ZIM (lo:Int) (n:Nat):RepI a (.pure (Dc lo n)) (Itr lo n):=by
 refine ⟨(zX n).map λ(k:Nat)=>V.int (lo + (k:Int)),?_,λb x i=>⟨λv hv=> ?_,λhl=> ?_⟩⟩
 ·unfold Dc;generalize zX n=l
  induction l with
  | nil=>exact rfl
  | cons k l ih=>exact ⟨_,_,rfl,rfl,ih⟩
 ·rw [zk] at hv;by_cases hi:i < n
  ·rw [zL hi] at hv;have hv':V.int (lo + (i:Int))=v:=by simpa using hv
   exact ⟨hi,λw H' y=>⟨y.2.trans hv',y.1⟩⟩
  ·rw [z0 (by simpa using hi)] at hv;cases hv
 ·show n<=i;simpa using hl
theorem Ju {ta:DA} {p pos:Pos} (hg:Gl X "range") (hm:X.mg "range"=none) (ha:QA X E [e] ta) (hs:vq [e] X.env= [(false,eval e X.env)]:=by rfl):QI X E tg (.Call (.Name "range" p) [e] [] pos) (Dh rng1 ta):=
 (ZKB hg hm ha hs).mono λσ H Q h=>by
  obtain ⟨a,S,G,hk,rfl,s,r,h⟩:=h;refine ⟨a,S,G,hk,rfl,s,r,(Rf h).imp ?_⟩;rintro vs _ ⟨b,ds,G1,rfl,x,s1,q,-,h1⟩;unfold rng1 at h1;split at h1
  ·rename_i j;split at h1
   ·rename_i hj;obtain ⟨v,r,e1,q1,q2⟩:=q
    cases (show v=V.int j from q1)
    cases (show r= [] from q2)
    exact ⟨j,e1,hj.1,hj.2,h1 b _ (Ext.refl b) s1 (ZIM 0 j.toNat)⟩
   ·exact h1.elim
  ·exact h1.elim
theorem ZNi {e':xY} {ta:DA} {p pos:Pos} (hg:Gl X "range") (hm:X.mg "range"=none) (ha:QA X E [e,e'] ta) (hs:vq [e,e'] X.env= [(false,eval e X.env),(false,eval e' X.env)]:=by rfl) (hs2:vq [e'] X.env= [(false,eval e' X.env)]:=by rfl):
  QI X E tg (.Call (.Name "range" p) [e,e'] [] pos) (Dh rng2 ta):=
 (ZNM hg hm ha hs hs2).mono λσ H Q h=>by
  obtain ⟨a,S,G,hk,rfl,s,r,h⟩:=h;refine ⟨a,S,G,hk,rfl,s,r,(Rf h).imp ?_⟩;rintro vs _ ⟨b,ds,G1,rfl,x,s1,q,-,h1⟩;unfold rng2 at h1;split at h1
  ·rename_i i j;split at h1
   ·rename_i hj;obtain ⟨v,r,e1,q1,v2,r2,e2,q2,q3⟩:=q
    cases (show v=V.int i from q1)
    cases (show v2=V.int j from q2)
    cases (show r2= [] from q3)
    subst e2;exact ⟨i,j,e1,⟨hj.1.1,hj.1.2,hj.2.1,hj.2.2⟩,h1 b _ (Ext.refl b) s1 (ZIM i (j - i).toNat)⟩
   ·exact h1.elim
  ·exact h1.elim
theorem ZJ5 (n:Nat) {c:xY} {body:List xy} {tc:DB} {tb:DS} (hp:PassesOwn (vV X.prog X.w) X.A X.env X.xe) (hc:QT X E c tc) (hb:QSs X E body tb):QS X E (.While c body [] pos) (sWh tc tb n):=(ZNs hp hc hb).mono λW σ H h=>by
 obtain ⟨a,S,G,hk,rfl,s,r,h⟩:=h;refine ⟨λm σ H=>∃(b:Wd) (S:DSt) (G:DH),b.H=H/\Ext a b/\Sim b G/\RepS b S σ/\Cz E b (sWh tc tb m S G) W,⟨n,a,S,G,rfl,Ext.refl a,s,r,h⟩,?_⟩;rintro m σ2 _ ⟨b,S2,G2,rfl,x2,s2,r2,h2⟩;cases m with
 | zero=>exact h2.elim
 | succ m=>
  refine ⟨b,S2,G2,x2.k.trans hk,rfl,s2,r2,(ZGY h2).imp ?_⟩;rintro k _ ⟨c3,G3,rfl,x3,s3,_,h3⟩;cases k with
  | false=>exact h3 c3 σ2 (Ext.refl c3) s3 (r2.mono x3)
  | true=>
   refine ⟨λσ' H'=>∃(b:Wd) (S:DSt) (G:DH),b.H=H'/\Ext a b/\Sim b G/\RepS b S σ'/\Cz E b (sWh tc tb m S G) W,λσ' H' z=>⟨m,qW _,z⟩,c3,S2,G3,x3.k.trans (x2.k.trans hk),rfl,s3,r2.mono x3,?_⟩;have fin:=ZHh h3
   revert fin
   cases tb S2 G3 with
   | nx S4 G4=>
    intro fin c4 σ4 x4 s4 q4;obtain ⟨c5,S5,G5,hh,x5,s5,r5,h5⟩:=fin c4 σ4 x4 s4 q4;exact ⟨c5,S5,G5,hh,x2.trans (x3.trans x5),s5,r5,h5⟩
   | ct S4 G4=>
    intro fin c4 σ4 x4 s4 q4;obtain ⟨c5,S5,G5,hh,x5,s5,r5,h5⟩:=fin c4 σ4 x4 s4 q4;exact ⟨c5,S5,G5,hh,x2.trans (x3.trans x5),s5,r5,h5⟩
   | bk S4 G4=>exact λfin=>fin
   | rt S4 G4=>exact λfin=>fin
   | err S4 G4=>exact λfin=>fin
   | bad=>exact λfin=>fin
end
theorem ZRn (r:Reps a ds vs) (n m:Nat) (h:n=m):RepS a (ds.map some++zC n none) (vs.map some++zC m none):=by
 subst h;refine ⟨by simp [r.length],λi d hd=> ?_⟩;by_cases hi:i < ds.length
 ·rw [zT (by simpa using hi),zk] at hd;cases e:ds[i]? with
  | none=>rw [e] at hd;cases hd
  | some d'=>
   rw [e] at hd;have hd':d'=d:=by simpa using hd
   subst hd';obtain ⟨v,ev,q⟩:=r.get e;exact ⟨v,by rw [zT (by rw [zG,<-r.length];exact hi),zk,ev];rfl,q⟩
 ·rw [zH (by simpa using hi),jZ] at hd
  split at hd <;> cases hd
theorem Ci {mg:Str->Option x9} {base:Heap} {qual:Str} {st:xy} {f:xW} {fd:xq} {N ps:List Str} {b:DS} (F:Fun K x qual st f fd) (S:FnScope N ps (Aw st))
  (hbody:∀(cdv:x9) (A:xK) (outer:List Env) (s:xk) (H:Hp) (E:XK),Room k (A.deeper (envOfC qual (Aw st) s.heap.objs.size f cdv))->QSs (Ng CX0 P w K mg base N qual (Aw st) f cdv A outer s H E).nox E0 (Jb st) b):
  FnOk P w K mg base CX0 (k + 1) f fd ps (lF K (Cd ps.length (N.length - ps.length) b)):=by
 have hlen:∀vs H Q E,lF K (Cd ps.length (N.length - ps.length) b) vs H Q E->vs.length=ps.length:=λvs H Q E h=>by
  obtain ⟨a,G,ds,hk,rfl,sm,r,h⟩:=h;unfold Cd at h;split at h
  ·rename_i hl;rw [<-r.length];exact hl
  ·exact h.elim
 refine F.ok S hlen (λcdv A outer s H vs Q E hr h=> ?_);refine ⟨lS K E0 b,hbody cdv A outer s H E hr,?_⟩;have hl:=hlen vs H Q E h;obtain ⟨a,G,ds,hk,rfl,sm,r,h⟩:=h;unfold Cd at h;split at h
 ·have h2:=ZFM sm h;refine ⟨a,ds.map some++zC (N.length - ps.length) none,G,hk,rfl,sm,ZRn r _ _ (by rw [hl]),?_⟩
  revert h2
  cases b (ds.map some++zC (N.length - ps.length) none) G with
  | nx S1 G1=>exact λh2 c σ x s1 _=>h2 c .non x s1 rfl
  | rt d G1=>exact λh2=>h2
  | err e G1=>exact λh2=>h2
  | bk S1 G1=>exact λh2=>h2.elim
  | ct S1 G1=>exact λh2=>h2.elim
  | bad=>exact λh2=>h2
 ·exact h.elim
theorem Jw {x:V} (s:Sim a G) (r:Rep a d x) (h:Bu d G=some xs):∃p vs,x=.ref p/\(SqL a.K a.H p vs∨SqT a.K a.H p vs)/\Reps a xs vs:=by
 cases d with
 | tup ys=>
  have e:ys=xs:=Option.some.inj h;subst e;obtain ⟨p,vs,e,q,rr⟩:=r;exact ⟨p,vs,e,.inr q,rr⟩
 | fl ys=>
  have e:ys=xs:=Option.some.inj h;subst e;obtain ⟨p,vs,e,q,rr⟩:=r;exact ⟨p,vs,e,.inl q.sq,rr⟩
 | ref i=>
  unfold Bu at h;dsimp only at h;split at h
  ·rename_i ys hi;have e:ys=xs:=Option.some.inj h;subst e;obtain ⟨vs,e1,r1⟩:=s.lst hi;exact ⟨a.m i,vs,r.2,.inl (.of e1),r1⟩
  ·cases h
 | _=>cases h
noncomputable def Ah (d e:D) (G:DH):R D:=match e with
 | .int i=>match d with
  | .str z=>if z.length<=1000000 then (match atI z.cps.toList i with
    | some c=>.ok (.str ⟨#[c]⟩) G
    | none=>.bad) else .bad
  | d=>match Bu d G with
   | some xs=>match atI xs i with
    | some v=>.ok v G
    | none=>.bad
   | none=>.bad
 | _=>.bad
theorem ZEg {i:Int} (r:Reps a xs vs) (h:atI xs i=some d):∃v,atI vs i=some v/\Rep a d v:=by
 unfold atI at h ⊢;rw [<-r.length];cases e:ixN xs.length i with
 | none=>rw [e] at h;cases h
 | some j=>
  rw [e] at h
  obtain ⟨v,ev,q⟩:=r.get (show xs[j]? =some d from h)
  exact ⟨v,ev,q⟩
section
variable {X:Cx} {E:XK}
theorem _root_.L2.IxR.mono {r r':R2} (h:IxR X r) (w:∀x y H Q,r' x y H Q->r x y H Q):IxR X r':=λvalue slice vG s σ H x y v u Q I rx ry q hs=>h value slice vG s σ H x y v u Q I rx ry (w _ _ _ _ q) hs
theorem _root_.L2.CallR.mono {f:x9} {r r':List V->Hp->VK->Prop} (h:CallR X f r) (w:∀xs H Q,r' xs H Q->r xs H Q):CallR X f r':=λvG s σ H xs us Q I rs q=>h vG s σ H xs us Q I rs (w _ _ _ q)
theorem _root_.L2.MtM.mono {id:String} {r r':V->List V->Hp->VK->Prop} (h:MtM X id r) (w:∀x xs H Q,r' x xs H Q->r x xs H Q):MtM X id r':=λvG s σ H x xs v us Q I rx rs q=>h vG s σ H x xs v us Q I rx rs (w _ _ _ _ q)
theorem Al:IxR X (lR2 X.K E Ah):=ZQS.mono λx y H Q h=>by
 obtain ⟨a,G,d,e,hk,rfl,s,rd,re,q⟩:=h;cases e with
 | int i=>
  have fin:∀{xs:List D},Bu d G=some xs->out E a (match atI xs i with | some v=>.ok v G | none=>.bad) Q->rIx X.K x y a.H Q:=λ{xs} hs q=>by
   obtain ⟨p,vs,e1,h1,r1⟩:=Jw s rd hs;rw [hk] at h1;split at q
   ·rename_i v hv;obtain ⟨u,hu,ru⟩:=ZEg r1 hv;have z:=q a u (Ext.refl a) s ru;rcases h1 with h1 | h1
    ·exact .inl ⟨p,vs,i,u,e1,re,h1,hu,z⟩
    ·exact .inr (.inl ⟨p,vs,i,u,e1,re,h1,hu,z⟩)
   ·exact q.elim
  have fin':out E a (match Bu d G with | some xs=>(match atI xs i with | some v=>.ok v G | none=>.bad) | none=>.bad) Q->rIx X.K x y a.H Q:=λq=>by
   cases hs:Bu d G with
   | none=>rw [hs] at q;exact q.elim
   | some xs=>rw [hs] at q;exact fin hs q
  cases d with
  | str z=>
   unfold Ah at q;dsimp only at q;split at q
   ·rename_i hl;split at q
    ·rename_i c hc;exact .inr (.inr ⟨z,i,c,rd,re,zB hl size6,hc,q a _ (Ext.refl a) s rfl⟩)
    ·exact q.elim
   ·exact q.elim
  | tup ys=>exact fin' q
  | fl ys=>exact fin' q
  | ref j=>exact fin' q
  | _=>exact fin' q
 | _=>exact q.elim
noncomputable def Gr (ds:List D) (G:DH):R D:=match ds with
 | [.str z]=>if z.length<=1000000 then .ok (.int z.length) G else .bad
 | [d]=>match Bu d G with
  | some xs=>.ok (.int xs.length) G
  | none=>.bad
 | _=>.bad
theorem reps1 (r:Reps a [d] vs):∃v,vs= [v]/\Rep a d v:=by
 obtain ⟨v,r',e,q,z⟩:=r
 cases (show r'= [] from z)
 exact ⟨v,e,q⟩
theorem reps2 {d':D} (r:Reps a [d,d'] vs):∃v v',vs= [v,v']/\Rep a d v/\Rep a d' v':=by obtain ⟨v,r',e,q,z⟩:=r;obtain ⟨v',e',q'⟩:=reps1 z;subst e';exact ⟨v,v',e,q,q'⟩
theorem Jt:CallR X (.builtin "len") (lRn X.K E Gr):=(ZNx.or ZMJ).mono λvs H Q h=>by
 obtain ⟨a,G,ds,hk,rfl,s,r,q⟩:=h;unfold Gr at q;split at q
 ·rename_i z;split at q
  ·rename_i hl;obtain ⟨v,rfl,rv⟩:=reps1 r
   cases (show v=V.str z from rv)
   exact .inr ⟨z,rfl,zB hl size6,q a _ (Ext.refl a) s rfl⟩
  ·exact q.elim
 ·rename_i d _;split at q
  ·rename_i xs hs;obtain ⟨v,rfl,rv⟩:=reps1 r;obtain ⟨p,us,rfl,h1,r1⟩:=Jw s rv hs;rw [hk] at h1;exact .inl ⟨p,us,rfl,h1,q a _ (Ext.refl a) s (by rw [<-r1.length];exact rfl)⟩
  ·exact q.elim
 ·exact q.elim
noncomputable def Ha (ds:List D) (G:DH):R D:=match ds with
 | [d]=>match Bu d G with
  | some xs=>.ok (.tup xs) G
  | none=>.bad
 | _=>.bad
theorem Je:CallR X (.type "tuple") (lRn X.K E Ha):=ZPW.mono λvs H Q h=>by
 obtain ⟨a,G,ds,hk,rfl,s,r,q⟩:=h;unfold Ha at q;split at q
 ·rename_i d;split at q
  ·rename_i xs hs;obtain ⟨v,rfl,rv⟩:=reps1 r;obtain ⟨p,us,rfl,h1,r1⟩:=Jw s rv hs;refine ⟨p,us,rfl,?_⟩;rcases h1 with h1 | h1
   ·exact .inl ⟨by rw [<-hk];exact h1,λl hl=>ZAz s r1 q l hl⟩
   ·exact .inr ⟨by rw [<-hk];exact h1,q a _ (Ext.refl a) s ⟨p,us,rfl,h1,r1⟩⟩
  ·exact q.elim
 ·exact q.elim
noncomputable def Li (ds:List D) (G:DH):R D:=match ds with
 | [.str z]=>if z.length<=1000000 then .ok (.ref G.length) (G++ [.lst (signs z)]) else .bad
 | [d]=>match Bu d G with
  | some xs=>.ok (.ref G.length) (G++ [.lst xs])
  | none=>.bad
 | _=>.bad
theorem ZDb:∀{vs:List V} {us:List x9},vs.length=us.length->(∀(i:Nat) (v:V) (u:x9),vs[i]? =some v->us[i]? =some u->RelV v u)->Vals vs us
 | [],[],_,_=>.nil
 | [],_::_,h,_=>by cases h
 | _::_,[],h,_=>by cases h
 | v::vs,u::us,h,f=>.cons (f 0 v u rfl rfl) (ZDb (by simpa using h) λi v' u' h1 h2=>f (i + 1) v' u' (by simpa using h1) (by simpa using h2))
theorem ZKu (hc:X.calm=true):CallR X (.type "list") (λxs H Q=>∃z:Str,xs= [.str z]/\z.length<=sizeLine/\∀l,H l=none->Q (.ref l) (upd H l (.lst (z.cps.toList.map λc=>V.str ⟨#[c]⟩)))):=by
 intro vG s σ H xs us Q I r h;obtain ⟨z,rfl,hz,q⟩:=h;obtain ⟨u,rfl,t,rfl⟩:=vals1 r;refine PySem.call_list_str (I.ok.hd hc) z t (λh' tk acc c hk hS hacc=> ?_) hz;have hn:H s.heap.objs.size=none:=I.hok.fresh (zK _);refine ⟨.ref s.heap.objs.size,upd H s.heap.objs.size (.lst (z.cps.toList.map λc=>V.str ⟨#[c]⟩)),I.laid (t':=tk) (h':=h') hk (zK _) ?_,rfl,q _ hn⟩;refine ⟨by rw [zG,qM];exact hz,acc.toList,c,ZDb ?_ λi v u h1 h2=> ?_,by simpa using hS⟩
 ·rw [zG,qM,qM];exact hacc.1.symm
 ·rw [zk,zI] at h1;obtain ⟨k,e1,rfl⟩:=h1;obtain ⟨k',t',e2,rfl⟩:=hacc.2 i u (by rw [<-qS];exact h2);rw [qS,e2] at e1;cases e1;exact ⟨t',rfl⟩
theorem Z2 (hc:X.calm=true):CallR X (.type "list") (lRn X.K E Li):=(ZKJ.or (ZKu hc)).mono λvs H Q h=>by
 obtain ⟨a,G,ds,hk,rfl,s,r,q⟩:=h;unfold Li at q;split at q
 ·rename_i z;split at q
  ·rename_i hl;obtain ⟨v,rfl,rv⟩:=reps1 r
   cases (show v=V.str z from rv)
   exact .inr ⟨z,rfl,zB hl size6,λl hl=>M9 s (Reps.signs z) q l hl⟩
  ·exact q.elim
 ·rename_i d _;split at q
  ·rename_i xs hs;obtain ⟨v,rfl,rv⟩:=reps1 r;obtain ⟨p,us,rfl,h1,r1⟩:=Jw s rv hs;exact .inl ⟨p,us,rfl,by rw [<-hk];exact h1,λl hl=>M9 s r1 q l hl⟩
  ·exact q.elim
 ·exact q.elim
noncomputable def Ut (ds:List D) (G:DH):R D:=match ds with
 | [.int i,.int j]=>.ok (.int (if j > i then j else i)) G
 | _=>.bad
noncomputable def Oj (ds:List D) (G:DH):R D:=match ds with
 | [.int i,.int j]=>.ok (.int (if j < i then j else i)) G
 | _=>.bad
theorem ZGB (hc:X.calm=true):CallR X (.builtin "max") (lRn X.K E Ut):=(ZQ8 hc).mono λvs H Q h=>by
 obtain ⟨a,G,ds,hk,rfl,s,r,q⟩:=h;unfold Ut at q;split at q
 ·obtain ⟨v,v',rfl,h1,h2⟩:=reps2 r
  cases (show v=V.int _ from h1)
  cases (show v'=V.int _ from h2)
  exact ⟨_,_,rfl,q a _ (Ext.refl a) s rfl⟩
 ·exact q.elim
theorem Xb (hc:X.calm=true):CallR X (.builtin "min") (lRn X.K E Oj):=(ZNu hc).mono λvs H Q h=>by
 obtain ⟨a,G,ds,hk,rfl,s,r,q⟩:=h;unfold Oj at q;split at q
 ·obtain ⟨v,v',rfl,h1,h2⟩:=reps2 r
  cases (show v=V.int _ from h1)
  cases (show v'=V.int _ from h2)
  exact ⟨_,_,rfl,q a _ (Ext.refl a) s rfl⟩
 ·exact q.elim
noncomputable def V0 (ds:List D) (G:DH):R D:=match ds with
 | [.int i]=>.ok (.int i) G
 | [.bl k]=>.ok (.int (if k then 1 else 0)) G
 | _=>.bad
theorem ZFH:CallR X (.type "int") (lRn X.K E V0):=ZNa.mono λvs H Q h=>by
 obtain ⟨a,G,ds,hk,rfl,s,r,q⟩:=h;unfold V0 at q;split at q
 ·obtain ⟨v,rfl,h1⟩:=reps1 r
  cases (show v=V.int _ from h1)
  exact .inl ⟨_,rfl,q a _ (Ext.refl a) s rfl⟩
 ·obtain ⟨v,rfl,h1⟩:=reps1 r
  cases (show v=V.bl _ from h1)
  exact .inr ⟨_,rfl,q a _ (Ext.refl a) s rfl⟩
 ·exact q.elim
noncomputable def H8 (o:D) (ds:List D) (G:DH):R D:=match o,ds with
 | .ref i,[d]=>match G[i]? with
  | some (.lst xs)=>if xs.length < 1000000 then .ok .non (G.set i (.lst (xs++ [d]))) else .bad
  | _=>.bad
 | _,_=>.bad
noncomputable def lRm (K:PySem.W.Frag) (E:XK) (f:D->List D->DH->R D):V->List V->Hp->VK->Prop:=λx xs H Q=>∃(a:Wd) (G:DH) (d:D) (ds:List D),a.K=K/\a.H=H/\Sim a G/\Rep a d x/\Reps a ds xs/\out E a (f d ds G) Q
theorem Sim.isList (s:Sim a G) (h:G[i]? =some (.lst xs)):∃vs,SqL a.K a.H (a.m i) vs:=let ⟨vs,e,_⟩:=s.lst h;⟨vs,.of e⟩
theorem Ii:MtM X "list.append" (lRm X.K E H8):=ZLE.mono λx xs H Q h=>by
 obtain ⟨a,G,d,ds,hk,rfl,s,rd,r,q⟩:=h;unfold H8 at q;split at q
 ·rename_i i d;obtain ⟨v,rfl,rv⟩:=reps1 r;split at q
  ·rename_i ys hy;split at q
   ·rename_i hl;obtain ⟨vs,e1,r1⟩:=s.lst hy;obtain ⟨x3,s3⟩:=ZD8 s rd.1 e1 (r1.append (Reps.cons rv Reps.nil));refine ⟨a.m i,vs,v,rd.2,rfl,e1,by rw [<-r1.length];exact zq hl size6,?_⟩;exact q _ .non x3 s3 rfl
   ·exact q.elim
  ·exact q.elim
 ·exact q.elim
variable {o e:xY} {es:List xY} {to:DE} {t:DA} {name:Str} {apos cpos:Pos} {T id:String} {f:D->List D->DH->R D}
noncomputable def isL (d:D) (G:DH):Bool:=match d with
 | .ref i=>match G[i]? with
  | some (.lst _)=>true
  | _=>false
 | .fl _=>true
 | _=>false
noncomputable def Gq (f:D->List D->DH->R D) (o:DE) (t:DA):DE:=λS G=>(o S G).bind λx G1=>if isL x G1=true then (t S G1).bind λxs G2=>f x xs G2 else .bad
theorem ZL4 {x:V} (s:Sim a G) (r:Rep a d x) (h:isL d G=true):tyV a.K "list" x a.H:=by
 cases d with
 | ref i=>
  unfold isL at h;dsimp only at h;split at h
  ·rename_i xs hx;cases r.2;exact .inl ⟨rfl,s.isList hx⟩
  ·cases h
 | fl xs=>
  obtain ⟨p,vs,rfl,q,_⟩:=r;exact .inl ⟨rfl,vs,q.sq⟩
 | _=>cases h
theorem Hx (slot:Slot "list" name id) (hty:typeOf (.builtin id)=pure (.type "method_descriptor")) (hm:MtM X id (lRm X.K E f)) (ho:QE X E o to) (ha:QA X E (e::es) t)
  (hbase:xC o name X.env (eval o X.env)=eval o X.env:=by rfl)
  (hfew:((xD cpos (vq (e::es) X.env)).all (λx=> !x.1) && (xE cpos (vZ [] X.env)).all (λx=>x.1.isSome)
   && decide ((e::es).length + ([]:List Keyword).length + (if ([]:List Keyword).isEmpty then 0 else 1) < 30))=true:=by rfl)
  (hline:(apos.endLine == cpos.line)=true:=by rfl) (hs:vq (e::es) X.env=(false,eval e X.env)::vq es X.env:=by rfl) (hplain:(xD cpos (vq es X.env)).any (·.1)=false:=by rfl):
  QE X E (.Call (.Attribute o name apos) (e::es) [] cpos) (Gq f to t):=(ZHQ PySem.F.plainAttrs_list slot hty hm ho ha hbase hfew hline hs hplain).mono λσ H Q h=>by
 obtain ⟨a,S,G,hk,rfl,s,r,h⟩:=h;refine ⟨a,S,G,hk,rfl,s,r,(Ig h).imp ?_⟩;rintro v _ ⟨b,d,G1,rfl,x,s1,q,-,h1⟩;split at h1
 ·rename_i hl;have ty:=ZL4 s1 q hl;rw [x.k,hk] at ty;refine ⟨ty,b,S,G1,x.k.trans hk,rfl,s1,r.mono x,(Mr h1).imp ?_⟩;rintro vs _ ⟨c,ds,G2,rfl,y,s2,q2,-,h2⟩;exact ⟨c,G2,d,ds,y.k.trans (x.k.trans hk),rfl,s2,q.mono y,q2,h2⟩
 ·exact h1.elim
end
inductive Ty where | non | bl | int | str | tup | lst
noncomputable def tyD (G:DH):D->Option Ty
 | .non=>some .non
 | .bl _=>some .bl
 | .int _=>some .int
 | .str _=>some .str
 | .tup _=>some .tup
 | .fl _=>some .lst
 | .ref i=>match G[i]? with
  | some (.lst _)=>some .lst
  | _=>none
 | .ty _=>none
noncomputable def Ty.sub (t:Ty):String->Option Bool
 | "int"=>some (match t with | .int=>true | .bl=>true | _=>false)
 | "bool"=>some (match t with | .bl=>true | _=>false)
 | "str"=>some (match t with | .str=>true | _=>false)
 | "tuple"=>some (match t with | .tup=>true | _=>false)
 | "list"=>some (match t with | .lst=>true | _=>false)
 | _=>none
noncomputable def Jr (ds:List D) (G:DH):R D:=match ds with
 | [d,.ty T]=>match tyD G d with
  | some t=>match t.sub T with
   | some k=>.ok (.bl k) G
   | none=>.bad
  | none=>.bad
 | _=>.bad
section
variable {prog:xj} {w:xA} {A:xK} {E:x9->xk->Prop} {s:xk}
theorem O8 {x:x9} {Tx T:String} {Q:x9->xk->Prop} (hx:s.TypeIs x Tx) (hty:typeOf (.type T)=pure (.type "type")) (hsub:xP (.type Tx) (.type T)=pure true) (h:Q (.bool true) s):
  vj (vV prog w) A (call (.builtin "isinstance") [x,.type T]) Q E s:=xI (isinstance_true hty hsub) ⟨hx,h⟩
end
theorem ty_int:typeOf (.type "int")=pure (.type "type"):=by with_unfolding_all rfl
theorem ty_bool:typeOf (.type "bool")=pure (.type "type"):=by with_unfolding_all rfl
theorem ty_str:typeOf (.type "str")=pure (.type "type"):=by with_unfolding_all rfl
theorem ty_tuple:typeOf (.type "tuple")=pure (.type "type"):=by with_unfolding_all rfl
theorem ty_list:typeOf (.type "list")=pure (.type "type"):=by with_unfolding_all rfl
theorem ZKG:xP (.type "NoneType") (.type "int")=pure false:=by with_unfolding_all rfl
theorem ZOQ:xP (.type "NoneType") (.type "bool")=pure false:=by with_unfolding_all rfl
theorem ZNO:xP (.type "NoneType") (.type "str")=pure false:=by with_unfolding_all rfl
theorem ZQa:xP (.type "NoneType") (.type "tuple")=pure false:=by with_unfolding_all rfl
theorem ZP3:xP (.type "NoneType") (.type "list")=pure false:=by with_unfolding_all rfl
theorem ZO0:xP (.type "bool") (.type "int")=pure true:=by with_unfolding_all rfl
theorem ZPl:xP (.type "bool") (.type "bool")=pure true:=by with_unfolding_all rfl
theorem ZKF:xP (.type "bool") (.type "str")=pure false:=by with_unfolding_all rfl
theorem ZRB:xP (.type "bool") (.type "tuple")=pure false:=by with_unfolding_all rfl
theorem ZR0:xP (.type "bool") (.type "list")=pure false:=by with_unfolding_all rfl
theorem ZP1:xP (.type "int") (.type "int")=pure true:=by with_unfolding_all rfl
theorem ZR5:xP (.type "int") (.type "bool")=pure false:=by with_unfolding_all rfl
theorem ZP9:xP (.type "int") (.type "str")=pure false:=by with_unfolding_all rfl
theorem ZQr:xP (.type "int") (.type "tuple")=pure false:=by with_unfolding_all rfl
theorem ZLz:xP (.type "int") (.type "list")=pure false:=by with_unfolding_all rfl
theorem ZLq:xP (.type "str") (.type "int")=pure false:=by with_unfolding_all rfl
theorem ZN7:xP (.type "str") (.type "bool")=pure false:=by with_unfolding_all rfl
theorem ZO9:xP (.type "str") (.type "str")=pure true:=by with_unfolding_all rfl
theorem ZMX:xP (.type "str") (.type "tuple")=pure false:=by with_unfolding_all rfl
theorem ZOa:xP (.type "str") (.type "list")=pure false:=by with_unfolding_all rfl
theorem ZMu:xP (.type "tuple") (.type "int")=pure false:=by with_unfolding_all rfl
theorem ZQd:xP (.type "tuple") (.type "bool")=pure false:=by with_unfolding_all rfl
theorem ZRw:xP (.type "tuple") (.type "str")=pure false:=by with_unfolding_all rfl
theorem ZLh:xP (.type "tuple") (.type "tuple")=pure true:=by with_unfolding_all rfl
theorem ZKR:xP (.type "tuple") (.type "list")=pure false:=by with_unfolding_all rfl
theorem ZGU:xP (.type "list") (.type "int")=pure false:=by with_unfolding_all rfl
theorem ZGZ:xP (.type "list") (.type "bool")=pure false:=by with_unfolding_all rfl
theorem ZIW:xP (.type "list") (.type "str")=pure false:=by with_unfolding_all rfl
theorem ZID:xP (.type "list") (.type "tuple")=pure false:=by with_unfolding_all rfl
theorem ZFg:xP (.type "list") (.type "list")=pure true:=by with_unfolding_all rfl
section
variable {X:Cx} {E:XK}
theorem ZCR:CallR X (.builtin "isinstance") (lRn X.K E Jr):=by
 intro vG s σ H vs us Q I rs h;obtain ⟨a,G,ds,hk,rfl,sm,r,q⟩:=h;unfold Jr at q;split at q
 ·rename_i d T;obtain ⟨v,v',rfl,h1,h2⟩:=reps2 r
  cases (show v'=V.ty T from h2)
  obtain ⟨u,u',rfl,ru,ru'⟩:∃u u',us= [u,u']/\RelV v u/\RelV (.ty T) u':=by
   cases rs with
   | cons p q=>cases q with
    | cons p' q'=>cases q';exact ⟨_,_,rfl,p,p'⟩
  cases (show u'=Value.type T from ru')
  split at q
  ·rename_i t ht;split at q
   ·rename_i k hk';have fin:∀{n:Nat},EP X vG σ Q (.bool k) {s with toks:=n}:=λ{n}=>⟨.bl k,a.H,I.tok _,rfl,q a _ (Ext.refl a) sm rfl⟩
    have fin0:EP X vG σ Q (.bool k) s:=⟨.bl k,a.H,I,rfl,q a _ (Ext.refl a) sm rfl⟩;unfold Ty.sub at hk';split at hk'
    ·cases d with
     | non=>
      cases ht;cases hk'
      cases (show v=_ from h1)
      cases ru;exact xI (xT (by decide) ty_int ZKG) fin
     | bl b=>
      cases ht;cases hk'
      cases (show v=_ from h1)
      cases ru;exact O8 (Tx:="bool") rfl ty_int ZO0 fin0
     | int b=>
      cases ht;cases hk'
      cases (show v=_ from h1)
      obtain ⟨tk,rfl⟩:=ru;exact O8 (Tx:="int") (typeIs_int s _ _) ty_int ZP1 fin0
     | str b=>
      cases ht;cases hk'
      cases (show v=_ from h1)
      obtain ⟨tk,rfl⟩:=ru;exact xI (xU (by decide) ty_int ZLq) fin
     | tup b=>
      cases ht;cases hk';obtain ⟨p,ws,rfl,hq,_⟩:=h1;cases ru;rw [hk] at hq;obtain ⟨its,_,pl,_⟩:=I.tuple hq;exact xI (vQ (by decide) ty_int ZMu) ⟨(let ⟨o,e,c,_⟩:=pl;⟨o,e,c⟩),fin⟩
     | fl b=>
      cases ht;cases hk';obtain ⟨p,ws,rfl,hq,_⟩:=h1;cases ru;have hq:=hq.sq;rw [hk] at hq;obtain ⟨its,_,pl,_⟩:=I.list hq;exact xI (xS (by decide) ty_int ZGU) ⟨(let ⟨o,e,c,_⟩:=pl.isList;⟨o,e,c⟩),fin⟩
     | ref b=>
      unfold tyD at ht;dsimp only at ht;split at ht
      ·rename_i xs hx;cases ht;cases hk';obtain ⟨ws,e1,_⟩:=sm.lst hx;cases h1.2;cases ru;obtain ⟨its,_,pl,_⟩:=I.list (.of e1);exact xI (xS (by decide) ty_int ZGU) ⟨(let ⟨o,e,c,_⟩:=pl.isList;⟨o,e,c⟩),fin⟩
      ·cases ht
     | ty n=>cases ht
    ·cases d with
     | non=>
      cases ht;cases hk'
      cases (show v=_ from h1)
      cases ru;exact xI (xT (by decide) ty_bool ZOQ) fin
     | bl b=>
      cases ht;cases hk'
      cases (show v=_ from h1)
      cases ru;exact O8 (Tx:="bool") rfl ty_bool ZPl fin0
     | int b=>
      cases ht;cases hk'
      cases (show v=_ from h1)
      obtain ⟨tk,rfl⟩:=ru;exact xI (xR (by decide) ty_bool ZR5) fin
     | str b=>
      cases ht;cases hk'
      cases (show v=_ from h1)
      obtain ⟨tk,rfl⟩:=ru;exact xI (xU (by decide) ty_bool ZN7) fin
     | tup b=>
      cases ht;cases hk';obtain ⟨p,ws,rfl,hq,_⟩:=h1;cases ru;rw [hk] at hq;obtain ⟨its,_,pl,_⟩:=I.tuple hq;exact xI (vQ (by decide) ty_bool ZQd) ⟨(let ⟨o,e,c,_⟩:=pl;⟨o,e,c⟩),fin⟩
     | fl b=>
      cases ht;cases hk';obtain ⟨p,ws,rfl,hq,_⟩:=h1;cases ru;have hq:=hq.sq;rw [hk] at hq;obtain ⟨its,_,pl,_⟩:=I.list hq;exact xI (xS (by decide) ty_bool ZGZ) ⟨(let ⟨o,e,c,_⟩:=pl.isList;⟨o,e,c⟩),fin⟩
     | ref b=>
      unfold tyD at ht;dsimp only at ht;split at ht
      ·rename_i xs hx;cases ht;cases hk';obtain ⟨ws,e1,_⟩:=sm.lst hx;cases h1.2;cases ru;obtain ⟨its,_,pl,_⟩:=I.list (.of e1);exact xI (xS (by decide) ty_bool ZGZ) ⟨(let ⟨o,e,c,_⟩:=pl.isList;⟨o,e,c⟩),fin⟩
      ·cases ht
     | ty n=>cases ht
    ·cases d with
     | non=>
      cases ht;cases hk'
      cases (show v=_ from h1)
      cases ru;exact xI (xT (by decide) ty_str ZNO) fin
     | bl b=>
      cases ht;cases hk'
      cases (show v=_ from h1)
      cases ru;exact xI (isinstance_false_bool (by decide) ty_str ZKF) fin
     | int b=>
      cases ht;cases hk'
      cases (show v=_ from h1)
      obtain ⟨tk,rfl⟩:=ru;exact xI (xR (by decide) ty_str ZP9) fin
     | str b=>
      cases ht;cases hk'
      cases (show v=_ from h1)
      obtain ⟨tk,rfl⟩:=ru;exact O8 (Tx:="str") (typeIs_str s _ _) ty_str ZO9 fin0
     | tup b=>
      cases ht;cases hk';obtain ⟨p,ws,rfl,hq,_⟩:=h1;cases ru;rw [hk] at hq;obtain ⟨its,_,pl,_⟩:=I.tuple hq;exact xI (vQ (by decide) ty_str ZRw) ⟨(let ⟨o,e,c,_⟩:=pl;⟨o,e,c⟩),fin⟩
     | fl b=>
      cases ht;cases hk';obtain ⟨p,ws,rfl,hq,_⟩:=h1;cases ru;have hq:=hq.sq;rw [hk] at hq;obtain ⟨its,_,pl,_⟩:=I.list hq;exact xI (xS (by decide) ty_str ZIW) ⟨(let ⟨o,e,c,_⟩:=pl.isList;⟨o,e,c⟩),fin⟩
     | ref b=>
      unfold tyD at ht;dsimp only at ht;split at ht
      ·rename_i xs hx;cases ht;cases hk';obtain ⟨ws,e1,_⟩:=sm.lst hx;cases h1.2;cases ru;obtain ⟨its,_,pl,_⟩:=I.list (.of e1);exact xI (xS (by decide) ty_str ZIW) ⟨(let ⟨o,e,c,_⟩:=pl.isList;⟨o,e,c⟩),fin⟩
      ·cases ht
     | ty n=>cases ht
    ·cases d with
     | non=>
      cases ht;cases hk'
      cases (show v=_ from h1)
      cases ru;exact xI (xT (by decide) ty_tuple ZQa) fin
     | bl b=>
      cases ht;cases hk'
      cases (show v=_ from h1)
      cases ru;exact xI (isinstance_false_bool (by decide) ty_tuple ZRB) fin
     | int b=>
      cases ht;cases hk'
      cases (show v=_ from h1)
      obtain ⟨tk,rfl⟩:=ru;exact xI (xR (by decide) ty_tuple ZQr) fin
     | str b=>
      cases ht;cases hk'
      cases (show v=_ from h1)
      obtain ⟨tk,rfl⟩:=ru;exact xI (xU (by decide) ty_tuple ZMX) fin
     | tup b=>
      cases ht;cases hk';obtain ⟨p,ws,rfl,hq,_⟩:=h1;cases ru;rw [hk] at hq;obtain ⟨its,_,pl,_⟩:=I.tuple hq;exact O8 (Tx:="tuple") pl.typeIs ty_tuple ZLh fin0
     | fl b=>
      cases ht;cases hk';obtain ⟨p,ws,rfl,hq,_⟩:=h1;cases ru;have hq:=hq.sq;rw [hk] at hq;obtain ⟨its,_,pl,_⟩:=I.list hq;exact xI (xS (by decide) ty_tuple ZID) ⟨(let ⟨o,e,c,_⟩:=pl.isList;⟨o,e,c⟩),fin⟩
     | ref b=>
      unfold tyD at ht;dsimp only at ht;split at ht
      ·rename_i xs hx;cases ht;cases hk';obtain ⟨ws,e1,_⟩:=sm.lst hx;cases h1.2;cases ru;obtain ⟨its,_,pl,_⟩:=I.list (.of e1);exact xI (xS (by decide) ty_tuple ZID) ⟨(let ⟨o,e,c,_⟩:=pl.isList;⟨o,e,c⟩),fin⟩
      ·cases ht
     | ty n=>cases ht
    ·cases d with
     | non=>
      cases ht;cases hk'
      cases (show v=_ from h1)
      cases ru;exact xI (xT (by decide) ty_list ZP3) fin
     | bl b=>
      cases ht;cases hk'
      cases (show v=_ from h1)
      cases ru;exact xI (isinstance_false_bool (by decide) ty_list ZR0) fin
     | int b=>
      cases ht;cases hk'
      cases (show v=_ from h1)
      obtain ⟨tk,rfl⟩:=ru;exact xI (xR (by decide) ty_list ZLz) fin
     | str b=>
      cases ht;cases hk'
      cases (show v=_ from h1)
      obtain ⟨tk,rfl⟩:=ru;exact xI (xU (by decide) ty_list ZOa) fin
     | tup b=>
      cases ht;cases hk';obtain ⟨p,ws,rfl,hq,_⟩:=h1;cases ru;rw [hk] at hq;obtain ⟨its,_,pl,_⟩:=I.tuple hq;exact xI (vQ (by decide) ty_list ZKR) ⟨(let ⟨o,e,c,_⟩:=pl;⟨o,e,c⟩),fin⟩
     | fl b=>
      cases ht;cases hk';obtain ⟨p,ws,rfl,hq,_⟩:=h1;cases ru;have hq:=hq.sq;rw [hk] at hq;obtain ⟨its,_,pl,_⟩:=I.list hq;exact O8 (Tx:="list") pl.isList.typeIs ty_list ZFg fin0
     | ref b=>
      unfold tyD at ht;dsimp only at ht;split at ht
      ·rename_i xs hx;cases ht;cases hk';obtain ⟨ws,e1,_⟩:=sm.lst hx;cases h1.2;cases ru;obtain ⟨its,_,pl,_⟩:=I.list (.of e1);exact O8 (Tx:="list") pl.isList.typeIs ty_list ZFg fin0
      ·cases ht
     | ty n=>cases ht
    ·cases hk'
   ·exact q.elim
  ·exact q.elim
 ·exact q.elim
end
noncomputable def Gu:List D->Option (List Int)
 | []=>some []
 | .int i::r=>(Gu r).map (i::·)
 | _=>none
noncomputable def Iw:List D->Option (List Bool)
 | []=>some []
 | .bl i::r=>(Iw r).map (i::·)
 | _=>none
@[simp] theorem ZAw (ns:List Int):Gu (ns.map D.int)=some ns:=by
 induction ns with
 | nil=>rfl
 | cons n ns ih=>simp [Gu,ih]
theorem Sg:∀{xs:List D} {ns:List Int},Gu xs=some ns->xs=ns.map D.int
 | [],ns,h=>by cases h;rfl
 | .int i::r,ns,h=>by simp only [Gu,zI] at h;obtain ⟨ms,h1,rfl⟩:=h;rw [zW,Sg h1]
 | .non::r,ns,h=>by simp [Gu] at h
 | .bl _::r,ns,h=>by simp [Gu] at h
 | .str _::r,ns,h=>by simp [Gu] at h
 | .ty _::r,ns,h=>by simp [Gu] at h
 | .tup _::r,ns,h=>by simp [Gu] at h
 | .fl _::r,ns,h=>by simp [Gu] at h
 | .ref _::r,ns,h=>by simp [Gu] at h
theorem ZJk:∀{xs:List D} {ns:List Bool},Iw xs=some ns->xs=ns.map D.bl
 | [],ns,h=>by cases h;rfl
 | .bl i::r,ns,h=>by simp only [Iw,zI] at h;obtain ⟨ms,h1,rfl⟩:=h;rw [zW,ZJk h1]
 | .non::r,ns,h=>by simp [Iw] at h
 | .int _::r,ns,h=>by simp [Iw] at h
 | .str _::r,ns,h=>by simp [Iw] at h
 | .ty _::r,ns,h=>by simp [Iw] at h
 | .tup _::r,ns,h=>by simp [Iw] at h
 | .fl _::r,ns,h=>by simp [Iw] at h
 | .ref _::r,ns,h=>by simp [Iw] at h
noncomputable def Dj (ds:List D) (G:DH):R D:=match ds with
 | [d]=>match Bu d G with
  | some xs=>match Gu xs with
   | some ns=>.ok (.int ns.sum) G
   | none=>.bad
  | none=>.bad
 | _=>.bad
noncomputable def Za (ds:List D) (G:DH):R D:=match ds with
 | [d]=>match Bu d G with
  | some xs=>match Iw xs with
   | some ns=>.ok (.bl (ns.all id)) G
   | none=>.bad
  | none=>.bad
 | _=>.bad
section
variable {X:Cx} {E:XK} {vG:List (xW×Obj)} {σ:St} {s:xk} {H:Hp}
theorem Ye (I:Inv X vG σ H s) (hc:X.calm=true) (h:SqL X.K H p vs∨SqT X.K H p vs) {E':x9->xk->Prop} {Q:x9->xk->Prop}
  (hQ:∀(it:xW) (fp wr:List xW) (its:List x9) (St:Nat->Heap->Prop) (s₂:xk),Vals vs its->Walks X.prog X.w X.A.in1 it fp wr its.toArray.size (λi v=>its.toArray[i]? =some v) St->St 0 s₂.heap->(∀b∈fp,b < s₂.heap.objs.size)->
   (∀h' tk,(∀b o,b ∉ wr->s₂.heap.get? b=some o->h'.get? b=some o)->Inv X vG σ H {s₂ with heap:=h',toks:=tk})->Q (.ref it) s₂):
  vj (vV X.prog X.w) X.A.in1 (pyIter (.ref p)) Q E' s:=by
 have hh:X.A.in1.handled=none:=I.ok.hd hc;rcases h with h | h
 ·obtain ⟨its,r,pl,hz⟩:=I.list h;refine wpAny_pyIter_list pl.isList ?_;have hp:p < s.heap.objs.size:=by obtain ⟨o,e,_⟩:=pl.isList;exact zw e
  refine hQ _ _ _ its _ _ r (Walks.list hh _ p (zD hp) its.toArray) ⟨⟨_,z9 _ rfl,rfl,rfl⟩,?_⟩ (λb hb=> ?_) λh' tk kk=> ?_
  ·obtain ⟨o,e,c⟩:=pl.isList;exact ⟨o,zJ _ e,c⟩
  ·show b < (s.heap.push _).objs.size;rw [qk];rcases zx.mp hb with rfl | hb
   ·exact qW _
   ·have e:b=p:=by simpa using hb
    subst e;exact qL hp
  ·refine I.kept λb o e=>kk b o (λhb=> ?_) (zJ _ e)
   have e2:b=s.heap.objs.size:=by simpa using hb
   subst e2;exact absurd (zw e) (zU _)
 ·obtain ⟨its,r,pl,hz⟩:=I.tuple h
  refine wpAny_pyIter_tuple (show s.heap.IsTuple p its.toArray from pl) ?_
  have hp:p < s.heap.objs.size:=by obtain ⟨o,e,_⟩:=pl;exact zw e
  refine hQ _ _ _ its _ _ r (Walks.tuple hh _ p (zD hp) its.toArray) ⟨⟨_,z9 _ rfl,rfl,rfl⟩,?_⟩ (λb hb=> ?_) λh' tk kk=> ?_
  ·obtain ⟨o,e,c⟩:=pl;exact ⟨o,zJ _ e,c⟩
  ·show b < (s.heap.push _).objs.size;rw [qk];rcases zx.mp hb with rfl | hb
   ·exact qW _
   ·have e:b=p:=by simpa using hb
    subst e;exact qL hp
  ·refine I.kept λb o e=>kk b o (λhb=> ?_) (zJ _ e)
   have e2:b=s.heap.objs.size:=by simpa using hb
   subst e2;exact absurd (zw e) (zU _)
theorem ZEv (ns:List Int):∀n,n<=ns.length->preSum (λi=>ns.getD i 0) n=(ns.take n).sum
 | 0,_=>by simp [preSum]
 | n + 1,h=>by have hn:n < ns.length:=h;rw [preSum,ZEv ns n (by lia),List.take_succ_eq_append_getElem hn,jE];simp [hn]
theorem Yh:∀{ns:List Int} {vs:List V},Reps a (ns.map D.int) vs->vs=ns.map V.int
 | [],vs,h=>h
 | n::ns,vs,h=>by
  obtain ⟨v,r,e,h1,h2⟩:=h
  cases (show v=V.int n from h1)
  rw [e,Yh h2]
  rfl
theorem ZEy:∀{ns:List Bool} {vs:List V},Reps a (ns.map D.bl) vs->vs=ns.map V.bl
 | [],vs,h=>h
 | n::ns,vs,h=>by
  obtain ⟨v,r,e,h1,h2⟩:=h
  cases (show v=V.bl n from h1)
  rw [e,ZEy h2]
  rfl
theorem Hd (hc:X.calm=true):CallR X (.builtin "sum") (lRn X.K E Dj):=by
 intro vG s σ H vs us Q I rs h;obtain ⟨a,G,ds,hk,rfl,sm,r,q⟩:=h;unfold Dj at q;split at q
 ·rename_i d;obtain ⟨v,rfl,rv⟩:=reps1 r;split at q
  ·rename_i xs hs;split at q
   ·rename_i ns hn;cases Sg hn;obtain ⟨p,ws,rfl,h1,r1⟩:=Jw sm rv hs;cases Yh r1;rw [hk] at h1;obtain ⟨u,rfl,ru⟩:=vals1 rs;cases ru;refine call_sum_walkG (Ye I hc h1 λit fp wr its St s₂ hv W st hfp fin=>⟨it,fp,wr,its.toArray.size,_,St,λi=>ns.getD i 0,rfl,W,st,hfp,λi w hw=> ?_,λh' tk t' kk=> ?_⟩)
    ·have hw':its[i]? =some w:=by simpa using hw
     have hl:i < (ns.map V.int).length:=by rw [hv.length];exact (zE.mp hw').1
     have hl':i < ns.length:=by simpa using hl
     obtain ⟨u,hu,ru⟩:=hv.get (i:=i) (x:=V.int ns[i]) (by simp [hl']);rw [hw'] at hu;cases hu;obtain ⟨t,rfl⟩:=ru;exact ⟨t,by simp [hl']⟩
    ·refine ⟨.int ns.sum,a.H,fin h' tk kk,⟨t',?_⟩,q a _ (Ext.refl a) sm rfl⟩;have hl:its.toArray.size=ns.length:=by rw [zY,<-hv.length];simp
     rw [hl,ZEv ns ns.length (zK _),jA]
   ·exact q.elim
  ·exact q.elim
 ·exact q.elim
theorem all_range (ns:List Bool):(zX ns.length).all (λi=>ns.getD i true)=ns.all id:=by
 rw [Bool.eq_iff_iff,qj,qj];constructor
 ·intro h b hb;obtain ⟨i,hi,rfl⟩:=qB hb;simpa [hi] using h i (qX.mpr hi)
 ·intro h i hi;have hi':i < ns.length:=qX.mp hi;simpa [hi'] using h ns[i] (zM hi')
theorem ZP0 (hc:X.calm=true):CallR X (.builtin "all") (lRn X.K E Za):=by
 intro vG s σ H vs us Q I rs h;obtain ⟨a,G,ds,hk,rfl,sm,r,q⟩:=h;unfold Za at q;split at q
 ·rename_i d;obtain ⟨v,rfl,rv⟩:=reps1 r;split at q
  ·rename_i xs hs;split at q
   ·rename_i ns hn;cases ZJk hn;obtain ⟨p,ws,rfl,h1,r1⟩:=Jw sm rv hs;cases ZEy r1;rw [hk] at h1;obtain ⟨u,rfl,ru⟩:=vals1 rs;cases ru;refine call_all_walk (Ye I hc h1 λit fp wr its St s₂ hv W st hfp fin=>⟨it,fp,wr,its.toArray.size,_,St,λi=>ns.getD i true,rfl,W,st,λi w s' Q' E' hw hQ'=> ?_,λh' tk kk=> ?_⟩)
    ·have hw':its[i]? =some w:=by simpa using hw
     have hl:i < (ns.map V.bl).length:=by rw [hv.length];exact (zE.mp hw').1
     have hl':i < ns.length:=by simpa using hl
     obtain ⟨u,hu,ru⟩:=hv.get (i:=i) (x:=V.bl ns[i]) (by simp [hl']);rw [hw'] at hu;cases hu;cases ru;refine vC ?_;simpa [hl'] using hQ'
    ·refine ⟨.bl (ns.all id),a.H,fin h' tk kk,?_,q a _ (Ext.refl a) sm rfl⟩;have hl:its.toArray.size=ns.length:=by rw [zY,<-hv.length];simp
     rw [hl,all_range]
     rfl
   ·exact q.elim
  ·exact q.elim
 ·exact q.elim
end
section
variable {X:Cx} {vG:List (xW×Obj)} {σ:St} {H:Hp} {s:xk}
theorem ZDP {a:xW} {o:HO} (I:Inv X vG σ H s) (hn:H a=none) (hy:X.s₀.heap.objs.size<=a) (hL:a≠X.env.locals) (hc:∀x c,X.env.cells.lookup x=some c->c≠a) (hp:∀p∈X.pn++vG,p.1≠a)
  (new:ObjOk X.prog X.w (upd H a o) s.heap a o):Inv X vG σ (upd H a o) s:=by
 have ne:∀b u,H b=some u->b≠a:=λb u e z=>by rw [z,hn] at e;cases e
 refine ⟨I.ok,I.os,I.bare,⟨I.base.keep,I.base.slot,λb ob q n hx=> ?_,I.base.there,λb xs q=> ?_,λb ob u q=> ?_,λb ps q=> ?_⟩,I.loc,I.cell,?_,λx c e=> ?_,λp hp'=> ?_,λb u e=> ?_,I.len⟩
 ·rw [Bh (zD (zq (zw q) hy))];exact I.base.free b ob q n hx
 ·have:=I.base.tups b xs q;rw [Bh (ne _ _ this)];exact this
 ·have:=I.base.frzs b ob u q;rw [Bh (ne _ _ this)];exact this
 ·obtain ⟨more,this⟩:=I.base.tbls b ps q;exact ⟨more,by rw [Bh (ne _ _ this)];exact this⟩
 ·rw [Bh (Ne.symm hL)];exact I.free
 ·rw [Bh (hc x c e)];exact I.Jq x c e
 ·obtain ⟨e1,e2,e3⟩:=I.pin p hp';exact ⟨e1,by rw [Bh (hp p hp')];exact e2,e3⟩
 ·by_cases hb:b=a
  ·subst hb;rw [Gh] at e;cases e;exact new
  ·rw [Bh hb] at e;exact (I.hok b u e).stay (λ_ _ _ q=>q) (λc q=>by rw [Bh (ne _ _ q)];exact q) λc xs q=>by rw [Bh (ne _ _ q)];exact q
end
noncomputable def G7 (env:Env):List (Str×xz)->List (Str×xW)->List (Str×xW)
 | [],cs=>cs
 | (n,k)::r,cs=>if (k == NameKind.free)=true then G7 env r ((n,(env.cells.lookup n).getD 0)::cs) else G7 env r cs
theorem ZIe (h:∀y∈scope.names,y.2=.free->∃c,env.cells.lookup y.1=some c):closureFor scope env=pure (G7 env scope.names []):=by
 unfold closureFor;obtain ⟨kind,names,g1,g2⟩:=scope;have key:∀(names:List (Str×xz)) (cs:List (Str×xW)),(∀y∈names,y.2=.free->∃c,env.cells.lookup y.1=some c)->
   (forIn names cs (λx r=>match x with
    | (name,kind)=>if (kind == NameKind.free)=true then (do let c<-cellOf env name;pure (ForInStep.yield ((name,c)::r))) else pure (ForInStep.yield r)):Sem (List (Str×xW)))=pure (G7 env names cs):=by
  intro names
  induction names with
  | nil=>intro cs _;rfl
  | cons y r ih=>
   intro cs hy;obtain ⟨n,k⟩:=y;rw [xZ];by_cases hk:(k == NameKind.free)=true
   ·obtain ⟨c,hc⟩:=hy (n,k) zV (by simpa using hk)
    have e1:cellOf env n=pure c:=by unfold cellOf;rw [show env.cells.lookup n=some c from hc]
    have e2:G7 env ((n,k)::r) cs=G7 env r ((n,c)::cs):=by rw [G7,if_pos hk,show env.cells.lookup n=some c from hc];rfl
    rw [e2,<-ih ((n,c)::cs) λy' hy'=>hy y' (zZ _ hy')];simp only [hk,if_true,e1]
    rfl
   ·have e2:G7 env ((n,k)::r) cs=G7 env r cs:=by rw [G7,if_neg hk]
    rw [e2,<-ih cs λy' hy'=>hy y' (zZ _ hy')];simp only [hk]
    rfl
 have:=key names [] h;exact congrArg (λm:Sem (List (Str×xW))=>m >>=λr=>pure r) this
theorem ZB0:∀{names:List (Str×xz)} {cs:List (Str×xW)},(∀y∈names,y.2=.free->∃c,env.cells.lookup y.1=some c)->(∀p∈cs,env.cells.lookup p.1=some p.2)->∀p∈G7 env names cs,env.cells.lookup p.1=some p.2
 | [],cs,_,hc,p,hp=>hc p hp
 | (n,k)::r,cs,hn,hc,p,hp=>by
  rw [G7] at hp;split at hp
  ·rename_i hk;obtain ⟨c,e⟩:=hn (n,k) zV (by simpa using hk);refine ZB0 (λy hy=>hn y (zZ _ hy)) (λq hq=> ?_) p hp;rcases zx.mp hq with rfl | hq
   ·rw [show env.cells.lookup n=some c from e];rfl
   ·exact hc q hq
  ·exact ZB0 (λy hy=>hn y (zZ _ hy)) hc p hp
theorem Xx:∀{names:List (Str×xz)} {cs:List (Str×xW)},((x,.free)∈names∨∃c,(x,c)∈cs)->∃c,(x,c)∈G7 env names cs
 | [],cs,h=>by
  rcases h with h | h
  ·cases h
  ·exact h
 | (n,k)::r,cs,h=>by
  rw [G7];split
  ·refine Xx ?_;rcases h with h | ⟨c,h⟩
   ·rcases zx.mp h with e | h
    ·cases e;exact .inr ⟨_,zV⟩
    ·exact .inl h
   ·exact .inr ⟨c,zZ _ h⟩
  ·rename_i hk;refine Xx ?_;rcases h with h | h
   ·rcases zx.mp h with e | h
    ·cases e;exact absurd rfl hk
    ·exact .inl h
   ·exact .inr h
theorem ZDR {c:xW}:∀{l:List (Str×xW)},(x,c)∈l->∃d,l.lookup x=some d
 | [],h=>by cases h
 | (y,d)::l,h=>by
  by_cases e:x=y
  ·subst e;exact ⟨d,by simp⟩
  ·rcases zx.mp h with z | h
   ·cases z;exact absurd rfl e
   ·obtain ⟨d',q⟩:=ZDR h;exact ⟨d',by rw [jW,beq_eq_false_iff_ne.mpr e];exact q⟩
theorem ZFt (x:Str):(relabel scope env).names.lookup x=(scope.names.lookup x).map λk=>if (k == NameKind.free && env.scope.kind == .function && env.kindOf x == some .cell)=true then .cell else k:=by
 unfold relabel;generalize scope.names=l
 induction l with
 | nil=>rfl
 | cons y r ih=>
  obtain ⟨n,k⟩:=y;by_cases e:x=n
  ·subst e;simp only [zW]
   cases hc:(k == NameKind.free && env.scope.kind == ScopeKind.function && env.kindOf x == some NameKind.cell) <;>
    simp only [hc,if_true,jW,beq_self_eq_true,xJ,Bool.false_eq_true,if_false]
  ·have hb:(x == n)=false:=beq_eq_false_iff_ne.mpr e;simp only [zW];split
   ·rw [jW,jW,hb];exact ih
   ·rw [jW,jW,hb];exact ih
noncomputable def blk (X:Cx) (N:List Str) (scope:xw) (C:xW) (s₀:xk) (H₀:Hp) (ex:List xW):Cx where
 prog:=X.prog
 w:=X.w
 K:=X.K
 mg:=X.mg
 base:=X.base
 A:=X.A
 N:=N
 s₀:=s₀
 H₀:=H₀
 env:=compEnvC scope (G7 X.env scope.names []) C X.env
 outer:=X.stack
 stack:=X.stack
 ex:=ex
 fn:=λ_=>false
 calm:=X.calm
 pn:= []
 xe:=λ_ _=>False
structure CompSc (X:Cx) (N:List Str) (scope:xw) (nt:Nat) (caps:List Nat):Prop where
 kind:scope.kind=.function
 names:∀y∈scope.names,y.2=.local->scope.names.lookup y.1=some .local
 nocell:∀y∈scope.names,y.2≠ .cell
 free:∀y∈scope.names,y.2=.free->X.env.kindOf y.1=some .cell∨X.env.kindOf y.1=some .free
 nd:N.Nodup
 len:N.length=nt + caps.length
 cap:∀(k j:Nat),caps[k]? =some j->∃x,X.N[j]? =some x/\N[nt + k]? =some x/\scope.names.lookup x=some .free
section
variable {X:Cx} {vG:List (xW×Obj)} {σ:St} {H:Hp} {s:xk} {N:List Str} {scope:xw} {nt:Nat} {caps:List Nat}
theorem CompSc.cells (c:CompSc X N scope nt caps) (ok:X.Ok):∀y∈scope.names,y.2=.free->∃c,X.env.cells.lookup y.1=some c:=λy hy hk=>ok.has y.1 (c.free y hy hk)
theorem CompSc.cl (c:CompSc X N scope nt caps) (ok:X.Ok) {d:xW} (h:(G7 X.env scope.names []).lookup x=some d):X.env.cells.lookup x=some d:=
 ZB0 (c.cells ok) (λp hp=>by cases hp) (x,d) (PySem.mem_of_lookup h)
theorem ZO5 (c:CompSc X N scope nt caps) (I:Inv X vG σ H s) {fp:List xW} (hf:∀b∈fp,FpOk X vG H b) {C:xW} (hC:s.heap.objs.size<=C) (hCf:C ∉ fp):(blk X N scope C s H fp).Ok where
 mod:=I.ok.mod
 kind:=c.kind
 glob:=I.ok.glob
 blt:=I.ok.blt
 above:=hC
 inj:=λx y d h1 h2=>I.ok.inj x y d (c.cl I.ok h1) (c.cl I.ok h2)
 has:=λx h=>by
  have h':(relabel scope X.env).names.lookup x=some .cell∨(relabel scope X.env).names.lookup x=some .free:=h;rw [ZFt] at h';have hfree:scope.names.lookup x=some .free:=by
   cases e:scope.names.lookup x with
   | none=>rw [e] at h';rcases h' with h' | h' <;> cases h'
   | some k=>
    rw [e] at h';cases k with
    | free=>rfl
    | cell=>exact absurd rfl (c.nocell _ (PySem.mem_of_lookup e))
    | _=>rcases h' with h' | h' <;> (simp at h')
  obtain ⟨d,hd⟩:=Xx (env:=X.env) (x:=x) (names:=scope.names) (cs:= []) (.inl (PySem.mem_of_lookup hfree));exact ZDR hd
 cab:=λx d h=>by cases h
 hd:=I.ok.hd
 frames:=I.ok.frames
 stk:=.inl rfl
 exf:=λb hb=>⟨λz=>hCf (by rw [<-show b=C from z];exact hb),λx d h=>(hf b hb).2.2.2.2.1 x d (c.cl I.ok h)⟩
 bs:=I.bs
 bsz:=zB I.ok.bsz I.sz
 noex:=λb o e hb=>by
  rcases (hf b hb).2.2.2.1 with h | h
  ·exact I.ok.noex b o e h
  ·exact absurd (zq (zw (I.ok.bs b o e).1) h) (zU _)
 exfs:=λb hb hz=>by
  rcases zx.mp (I.Vm b hz) with z | z
  ·exact (hf b hb).2.1 z
  ·exact (hf b hb).2.2.1 z
 funs:=I.stack
 frf:=I.ZGs
end
noncomputable def Cp (g:DG) (c:DB) (te:DE) (S:DSt):List D->DH->R (List D)
 | [],G=>.ok [] G
 | x::xs,G=>(g x S G).bind λS1 G1=>(c S1 G1).bind λk G2=>
   if k=true then (te S1 G2).bind λd G3=>(Cp g c te S xs G3).bind λds G4=>.ok (d::ds) G4 else Cp g c te S xs G2
noncomputable def Gx (i:Nat) (g:DG) (c:DB) (te:DE) (S:DSt):Nat->Nat->DH->R (List D)
 | 0,j,G=>match G[i]? with
  | some (.lst xs)=>if xs.length<=j then .ok [] G else .bad
  | _=>.bad
 | n + 1,j,G=>match G[i]? with
  | some (.lst xs)=>match xs[j]? with
   | some x=>(g x S G).bind λS1 G1=>(c S1 G1).bind λk G2=>
     if k=true then (te S1 G2).bind λd G3=>(Gx i g c te S n (j + 1) G3).bind λds G4=>.ok (d::ds) G4 else Gx i g c te S n (j + 1) G2
   | none=>.ok [] G
  | _=>.bad
noncomputable def Dk (f:Nat->DH->Option (Option D)) (g:DG) (c:DB) (te:DE) (S:DSt):Nat->Nat->DH->R (List D)
 | 0,j,G=>match f j G with
  | some none=>.ok [] G
  | _=>.bad
 | n + 1,j,G=>match f j G with
  | some (some x)=>(g x S G).bind λS1 G1=>(c S1 G1).bind λk G2=>
     if k=true then (te S1 G2).bind λd G3=>(Dk f g c te S n (j + 1) G3).bind λds G4=>.ok (d::ds) G4 else Dk f g c te S n (j + 1) G2
  | some none=>.ok [] G
  | none=>.bad
noncomputable def Bd (nt:Nat) (caps:List Nat) (S:DSt):DSt:=zC nt none++caps.map λj=>(S[j]?).join
noncomputable def De (it:DI) (nt:Nat) (caps:List Nat) (g:DG) (c:DB) (te:DE):DE:=λS G=>(it S G).bind λJ G1=>(match J with
 | .pure xs=>Cp g c te (Bd nt caps S) xs G1
 | .mt i=>match G1[i]? with
  | some (.lst xs)=>Gx i g c te (Bd nt caps S) xs.length 0 G1
  | _=>.bad
 | .fn n f=>Dk f g c te (Bd nt caps S) n 0 G1).bind Be
def Bj:DB:=λ_ G=>.ok true G
noncomputable def GK (nt:Nat) (g:DG):Prop:=∀d S G S1 G1,g d S G=.ok S1 G1->∀i e,nt<=i->S[i]? =some (some e)->S1[i]? =some (some e)
noncomputable def GKs (nt:Nat) (g:DGs):Prop:=∀d S G S1 G1,g d S G=.ok S1 G1->∀i e,nt<=i->S[i]? =some (some e)->S1[i]? =some (some e)
theorem Cr (h:i < nt):GK nt (gV i):=λd S G S1 G1 e j x hj hx=>by cases e;rw [qU (by lia)];exact hx
theorem Ms:GKs nt Bs:=λd S G S1 G1 e j x hj hx=>by
 cases d with
 | nil=>cases e;exact hx
 | cons _ _=>cases e
theorem Gm {t:DG} {u:DGs} (h1:GK nt t) (h2:GKs nt u):GKs nt (An t u):=λd S G S1 G1 e j x hj hx=>by
 cases d with
 | nil=>cases e
 | cons a r=>
  have e':(t a S G).bind (λS1 G1=>u r S1 G1)=.ok S1 G1:=e;cases ht:t a S G with
  | ok S2 G2=>rw [ht] at e';exact h2 _ _ _ _ _ e' j x hj (h1 _ _ _ _ _ ht j x hj hx)
  | err _ _=>rw [ht] at e';cases e'
  | bad=>rw [ht] at e';cases e'
theorem N6 {n:Nat} {t:DGs} (h:GKs nt t):GK nt (Bq n t):=λd S G S1 G1 e j x hj hx=>by
 cases d with
 | tup ds=>
  unfold Bq at e;dsimp only at e;split at e
  ·exact h _ _ _ _ _ e j x hj hx
  ·cases e
 | _=>cases e
theorem ZMF {r:R DSt} {f:DSt->DH->R D} (h:out E a (r.bind f) Q):
  Gd E a r (λσ H=>∃(b:Wd) (S:DSt) (G:DH),b.H=H/\Ext a b/\Sim b G/\RepS b S σ/\r=.ok S G/\out E b (f S G) Q):=by
 cases r with
 | ok d G=>exact λb v x s q=>⟨b,d,G,rfl,x,s,q,rfl,out.mono x h⟩
 | err e G=>exact h
 | bad=>exact h
theorem R.bind_assoc {β γ:Type} (r:R α) (f:α->DH->R β) (g:β->DH->R γ):(r.bind f).bind g=r.bind λa G=>(f a G).bind g:=by cases r <;> rfl
theorem ZH5 {r:R ItD} {f:ItD->DH->R D} (h:out E a (r.bind f) Q):
  outI E a r (λJ H=>∃(b:Wd) (d:ItD) (G:DH),b.H=H/\Ext a b/\Sim b G/\RepI b d J/\r=.ok d G/\out E b (f d G) Q):=by
 cases r with
 | ok d G=>exact λb v x s q=>⟨b,d,G,rfl,x,s,q,rfl,out.mono x h⟩
 | err e G=>exact h
 | bad=>exact h
section
variable {prog:xj} {w:xA} {A:xK} {R':Result->xk->Prop} {s:xk}
theorem ZRH {elt target iter:xY} {ifs:List xY} {scope:xw} {pos:Pos} {it acc:x9} {env:Env} (I:Nat->xk->Prop)
  (turn:∀n s,I n s->vj (vV prog w) A (pyNext it) (λr s₁=>match r with
   | none=>R' (.ok .next) s₁
   | some v=>vj (vV prog w) A (vJ target it v) (λ_ s₁=>vj (vV prog w) A (assign target env v) (λ_ s₂=>
     vj (vV prog w) A (forIn ifs true λc r=>if r=true then do let ok<-isTrue c env (eval c env);pure (ForInStep.yield ok) else pure (ForInStep.yield r)) (λok s₃=>
      if ok=true then vj (vV prog w) A (eval elt env) (λx s₄=>
       vj (vV prog w) A (call (.builtin "list.append") [acc,x]) (λ_ s₅=>∃m,m < n/\I m s₅) (λ_ _=>False) s₄) (λ_ _=>False) s₃
      else∃m,m < n/\I m s₃) (λ_ _=>False) s₂) (λ_ _=>False) s₁) (λ_ _=>False) s₁) (λ_ _=>False) s)
  (n:Nat) (h:I n s):
  codeAny (vV prog w) A (.compLoop (.ListComp elt [⟨target,iter,ifs,0⟩] scope pos) 0 it acc env) R' s:=by
 refine codeAny_loop rfl I (λn s hI=> ?_) n h
 show vj _ A ((compTurn (.ListComp elt [⟨target,iter,ifs,0⟩] scope pos) 0 it acc env).onRaise (λx=>do noteFrame x env;theTreesLotGoes x)) _ _ s
 refine wpAny_noted ?_;rw [compTurn_list];refine v7 ?_ (λ_ _ q=>q) (λ_ _ (f:False)=>f.elim);refine vv (wpAny_standAt (vv (v7 (turn n s hI) (λr s₁ h₁=> ?_) λ_ _ h'=>h')));cases r with
 | none=>exact vA h₁
 | some v=>
  refine vv (v7 h₁ (λ_ s₂' h₁=> ?_) λ_ _ h'=>h');refine vv (v7 h₁ (λ_ s₂ h₂=>vv (v7 h₂ (λok s₃ h₃=> ?_) λ_ _ h'=>h')) λ_ _ h'=>h');cases ok with
  | false=>exact vA ⟨rfl,h₃⟩
  | true=>
   exact vv (vv (v7 h₃ (λx s₄ h₄=>vv (v7 h₄ (λ_ s₅ h₅=>vA (vA ⟨rfl,h₅⟩)) λ_ _ h'=>h')) λ_ _ h'=>h'))
end
noncomputable def QTs (X:Cx) (E:XK) (ifs:List xY) (t:DB):Prop:=
 ∀(vG:List (xW×Obj)) (s:xk) (σ:St) (H:Hp) (Q:Bool->Hp->Prop),Inv X vG σ H s->lB X.K E t σ H Q->
  vj (vV X.prog X.w) X.A (forIn ifs true λc r=>if r=true then do let ok<-isTrue c X.env (eval c X.env);pure (ForInStep.yield ok) else pure (ForInStep.yield r)) (TP X vG σ Q) X.xe s
theorem Eb:QTs X E [] Bj:=λvG s σ H Q I h=>by obtain ⟨a,S,G,hk,rfl,sm,r,h⟩:=h;exact wpAny_tests_nil ⟨a.H,I,h a (Ext.refl a) sm⟩
theorem Xo {c:xY} {t:DB} (hc:QT X E c t):QTs X E [c] t:=λvG s σ H Q I h=>wpAny_tests_one (hc vG s σ H Q I h)
section
variable {X:Cx} {E:XK} {N:List Str} {scope:xw} {nt:Nat} {caps:List Nat} {tg elt iter:xY} {ifs:List xY} {pos:Pos} {it:DI} {g:DG} {c:DB} {te:DE}
theorem ZLx (r:RepS a S σ):RepS a (Bd nt caps S) (zC nt none++caps.map λj=>(σ[j]?).join):=by
 refine ⟨by simp [Bd],λi d h=> ?_⟩;unfold Bd at h;by_cases hi:i < nt
 ·rw [zT (by simpa using hi),jZ] at h
  split at h <;> cases h
 ·rw [zH (by simpa using hi),zk] at h;rw [zH (by simpa using hi),zk];rw [jM] at h ⊢;cases e:caps[i - nt]? with
  | none=>rw [e] at h;cases h
  | some j=>
   rw [e] at h;have h1:(S[j]?).join=some d:=by simpa using h
   have h2:S[j]? =some (some d):=by
    cases q:S[j]? with
    | none=>rw [q] at h1;cases h1
    | some o=>
     rw [q] at h1;have h1':o=some d:=h1;rw [h1']
   obtain ⟨v,ev,rv⟩:=r.get j d h2;exact ⟨v,by simp [ev],rv⟩
theorem ZQM (h:(Bd nt caps S)[i]? =some (some d)):nt<=i:=by
 unfold Bd at h;by_cases hi:i < nt
 ·rw [zT (by simpa using hi),jZ] at h
  split at h <;> cases h
 ·lia
theorem ZBp (hc:X.calm=true) (cs:CompSc X N scope nt caps)
  (hg:∀C s₀ H₀ ex,QG (blk X N scope C s₀ H₀ ex) E0 tg g) (gk:GK nt g) (hts:∀C s₀ H₀ ex,QTs (blk X N scope C s₀ H₀ ex) E0 ifs c) (he:∀C s₀ H₀ ex,QE (blk X N scope C s₀ H₀ ex) E0 elt te)
  {vG:List (xW×Obj)} {σ:St} {s:xk} {a:Wd} {S:DSt} {G:DH} {J:It} {n0:Nat} {f:Nat->DH->Option (Option D)} {i0:xW} {fp:List xW} {tn:Nat->Heap->Prop} (I:Inv X vG σ a.H s) (hk:a.K=X.K) (sm:Sim a G) (rS:RepS a S σ)
  (T:Turn X.prog X.w X.K tg J fp i0 tn) (t0:tn 0 s.heap) (hf:∀b∈fp,FpOk X vG a.H b) (rJ:RepI a (.fn n0 f) J) {Q:VK}
  (h:out E0 a ((Dk f g c te (Bd nt caps S) n0 0 G).bind Be) Q)
  {RR:x9->xW->Result->xk->Prop} {E':x9->xk->Prop}
  (hRR:∀(D C:xW) (s':xk) (b:Wd) (vs:List V),Inv X vG σ (upd b.H D (.lst vs)) s'->b.H D=none->s.heap.objs.size<=C->D≠C->(∃m,s'.heap.Ns C m)->b.H C=none->Q (.ref D) (upd b.H D (.lst vs))->RR (.ref D) C (.ok .next) s'):
  vj (vV X.prog X.w) X.A (newList []) (λacc s₃=>vj (vV X.prog X.w) X.A (newFunctionEnv scope X.env.globals (G7 X.env scope.names []) [] X.env.qual none .none (some X.env)) (λcenv s₄=>
   codeAny (vV X.prog X.w) X.A (.compStart (.ListComp elt [⟨tg,iter,ifs,0⟩] scope pos) 0 (.ref i0) acc {cenv with scope:=relabel scope X.env}) (RR acc cenv.locals) s₄) E' s₃) E' s:=by
 refine v8 (wpAny_newFunctionEnv cs.nocell (by intro y hy;simp at hy) (λh₁ hns₁ hsb₁=> ?_) cs.kind);dsimp only at hns₁ hsb₁ ⊢;generalize hH2:s.heap.push {cls:=.type "list",dict:=none,data:=.seq ([]:List x9).toArray}=H2 at hns₁ hsb₁ ⊢;have hC:H2.objs.size=s.heap.objs.size + 1:=by rw [<-hH2,qk]
 have hDC:s.heap.objs.size≠H2.objs.size:=by rw [hC];exact zD (qW _)
 have hCle:s.heap.objs.size<=H2.objs.size:=by rw [hC];exact j5 _
 have fpOld:∀b∈fp,b < s.heap.objs.size:=λb hb=>by obtain ⟨o,e,_⟩:=T.obj 0 _ t0 b hb;exact zw e
 have hDf:s.heap.objs.size ∉ fp:=λhm=>zU _ (fpOld _ hm)
 have hCf:H2.objs.size ∉ fp:=λhm=>by have:=fpOld _ hm;rw [hC] at this;exact zU _ (Nat.lt_of_succ_lt this)
 have old:∀b o,s.heap.get? b=some o->h₁.get? b=some o:=λb o e=>
  hsb₁.extBut b o (by rw [hC];exact zD (qL (zw e))) (zJ _ (hH2 ▸ zJ _ e))
 have hacc:h₁.PlainList s.heap.objs.size ([]:List x9).toArray:=⟨_,hsb₁.extBut _ _ hDC (zJ _ (hH2 ▸ z9 _ rfl))⟩;generalize hCe:H2.objs.size=C at *;generalize hDe:s.heap.objs.size=Dd at *;let B:=blk X N scope C s a.H fp;have okB:B.Ok:=ZO5 cs I hf (by rw [hDe];exact hCle) hCf;let σ0:St:=zC nt none++caps.map λj=>(σ[j]?).join
 have start:∀tk,Inv B [] σ0 a.H {s with heap:=h₁,toks:=tk}:=λtk=>by
  refine ⟨okB,rfl,I.bare,Un.kept old,⟨_,hns₁,λi x v e1 e2 e3=> ?_⟩,λx d' e=> ?_,I.hok.fresh (by rw [hDe];exact hCle),λx d' e=> ?_,λp hp=> ?_,I.hok.kept old,?_⟩
  ·have hi:nt<=i:=by
    by_cases hi:i < nt
    ·have e2':σ0[i]? =some (some v):=e2;rw [zT (by simpa using hi),jZ] at e2'
     split at e2' <;> cases e2'
    ·lia
   have e2':σ0[i]? =some (some v):=e2;rw [zH (by simpa using hi),zk,jM] at e2';cases ej:caps[i - nt]? with
   | none=>rw [ej] at e2';cases e2'
   | some j=>
    rw [ej] at e2';have h1:(σ[j]?).join=some v:=by simpa using e2'
    have h2:σ[j]? =some (some v):=by
     cases q:σ[j]? with
     | none=>rw [q] at h1;cases h1
     | some o=>
      rw [q] at h1;have h1':o=some v:=h1;rw [h1']
    obtain ⟨y,ey,en,ek⟩:=cs.cap (i - nt) j ej;have exy:x=y:=by
     have:nt + (i - nt)=i:=by lia
     rw [this] at en;have e1':N[i]? =some x:=e1;rw [e1'] at en;exact Option.some.inj en
    subst exy;have kx:=cs.free (x,.free) (PySem.mem_of_lookup ek) rfl;have vis:Vis X.env.scope x:=by
     rcases kx with kx | kx
     ·exact .inr (.inl kx)
     ·exact .inr (.inr kx)
    obtain ⟨m,hn,hl⟩:=I.loc;obtain ⟨u,ru,lk⟩:=hl j x v ey h2 vis;refine ⟨u,ru,?_⟩;rcases lk with ⟨k1,_⟩ | ⟨k1,c1,ec,hcell⟩
    ·rcases kx with kx | kx
     ·rw [k1] at kx;cases kx
     ·rw [k1] at kx;cases kx
    ·refine .inr ⟨?_,c1,?_,?_⟩
     ·show (relabel scope X.env).names.lookup x=some .cell∨(relabel scope X.env).names.lookup x=some .free;rw [ZFt,ek];simp only [xJ];split
      ·exact .inl rfl
      ·exact .inr rfl
     ·obtain ⟨d1,hd1⟩:=Xx (env:=X.env) (x:=x) (names:=scope.names) (cs:= []) (.inl (PySem.mem_of_lookup ek));obtain ⟨d2,hd2⟩:=ZDR hd1;have:=cs.cl I.ok hd2;rw [ec] at this;cases this;exact hd2
     ·obtain ⟨o,e,dd⟩:=hcell;exact ⟨o,old _ _ e,dd⟩
  ·obtain ⟨v,o,e',dd⟩:=I.cell x d' (cs.cl I.ok e);exact ⟨v,o,old _ _ e',dd⟩
  ·exact I.Jq x d' (cs.cl I.ok e)
  ·exact absurd hp (by simp [B,blk])
  ·show σ0.length=N.length;rw [cs.len];simp [σ0]
 have rS0:RepS a (Bd nt caps S) σ0:=ZLx rS;have aD:a.H Dd=none:=I.hok.fresh (by rw [hDe];exact zK _);have young:∀b∈fp,b≠C:=λb hb z=>hCf (z ▸ hb)
 have fpB:∀{H':Hp} {ps:List (xW×Obj)},(∀b∈fp,H' b=none)->(∀p∈ps,p.1 ∉ fp)->∀b∈fp,FpOk B ps H' b:=λ{H' ps} hn hps b hb=>
  ⟨hn b hb,young b hb,okB.exfs b hb,.inl hb,λx d' e=>(hf b hb).2.2.2.2.1 x d' (cs.cl I.ok e),λp hp z=>by
   have hp':p∈ps:=by simpa [B,blk] using hp
   exact hps p hp' (z ▸ hb)⟩
 have nstk:Dd ∉ frs X.stack:=λz=>by
  rcases zx.mp (I.Vm Dd z) with z | z
  ·have:=I.lt;rw [hDe,<-z] at this;exact zU _ this
  ·exact I.nofs (by rw [hDe];exact zK _) z
 have pinD:∀{σ':St} {H':Hp} {s':xk} {its:List x9} {nD:Nat},Inv B [] σ' H' s'->s'.heap.get? Dd=some {cls:=.type "list",data:=.seq its.toArray nD}->H' Dd=none->Inv B [(Dd,{cls:=.type "list",data:=.seq its.toArray nD})] σ' H' s':=λ{σ' H' s' its nD} J e n=>
  J.N5 λp hp=>by
   have ep:p=(Dd,{cls:=.type "list",data:=.seq its.toArray nD}):=by simpa using hp
   subst ep;exact ⟨e,n,hDC,nstk,λv' z=>by cases z⟩
 have fin:∀(s':xk) (b:Wd) (σ':St) (its:List x9) (ds:List D) (G':DH),Inv B [] σ' b.H s'->Ext a b->Sim b G'->s'.heap.PlainList Dd its.toArray->b.H Dd=none->(∃vs,Vals vs its/\Reps b ds vs)->out E0 b (Be ds G') Q->RR (.ref Dd) C (.ok .next) s':=by
  intro s' b σ' its ds G' IB x sb pl hD ⟨vs,hv,rv⟩ hq;have hz:ds.length<=1000000:=by
   unfold Be at hq;split at hq
   ·assumption
   ·exact hq.elim
  have Ix:Inv X vG σ b.H s':=I.call' IB.os IB.base IB.hok IB.bare λb hb=>⟨(hf b hb).2.2.2.1,(hf b hb).2.1,(hf b hb).2.2.2.2.1,(hf b hb).2.2.2.2.2⟩
  obtain ⟨n,eD⟩:=pl;have ylt:∀{q:xW} {o:Obj},s.heap.get? q=some o->q≠Dd:=λe z=>by rw [z,<-hDe] at e;exact absurd (zw e) (zU _)
  have Ia:Inv X vG σ (upd b.H Dd (.lst vs)) s':=by
   refine ZDP Ix hD (by rw [<-hDe];exact I.sz) ?_ (λy c' ec=> ?_) (λp hp=> ?_) ⟨?_,its,n,hv,eD⟩
   ·rw [<-hDe];exact qP I.lt
   ·obtain ⟨v,o,e,_⟩:=I.cell y c' ec;exact ylt e
   ·exact ylt (I.pin p hp).1
   ·rw [<-rv.length];exact zB hz size6
  refine hRR Dd C s' b vs Ia hD hCle hDC (let ⟨m,hn,_⟩:=IB.loc;⟨m,hn⟩) IB.free ?_;unfold Be at hq;rw [if_pos hz] at hq;exact M9 sb rv hq Dd hD
 have turnX:∀(n:Nat) (P:Nat->xk->Prop) (rest:DH->R (List D)) (s1:xk) (b:Wd) (G1:DH) (σ1:St) (its:List x9) (acc:List D) (u:x9) (v:V) (x:D) (i:Nat),Inv B [] σ1 b.H s1->Ext a b->Sim b G1->RepS b (Bd nt caps S) σ1->tn i s1.heap->(∀q∈fp,b.H q=none)->
   s1.heap.PlainList Dd its.toArray->b.H Dd=none->(∃vs,Vals vs its/\Reps b acc vs)->RelV v u->Rep b x v->
   out E0 b (((g x (Bd nt caps S) G1).bind λS1 G1=>(c S1 G1).bind λk G2=>if k=true then (te S1 G2).bind λd G3=>(rest G3).bind λds G4=>.ok (d::ds) G4 else rest G2).bind λds G=>Be (acc++ds) G) Q->
   (∀(s2:xk) (b2:Wd) (G2:DH) (σ2:St) (its2:List x9) (acc2:List D),Inv B [] σ2 b2.H s2->Ext a b2->Sim b2 G2->RepS b2 (Bd nt caps S) σ2->tn i s2.heap->(∀q∈fp,b2.H q=none)->
    s2.heap.PlainList Dd its2.toArray->b2.H Dd=none->(∃vs,Vals vs its2/\Reps b2 acc2 vs)->out E0 b2 ((rest G2).bind λds G=>Be (acc2++ds) G) Q->∃m,m < n/\P m s2)->
   vj (vV X.prog X.w) X.A (assign tg B.env u) (λ_ s₂=>
     vj (vV X.prog X.w) X.A (forIn ifs true λc r=>if r=true then do let ok<-isTrue c B.env (eval c B.env);pure (ForInStep.yield ok) else pure (ForInStep.yield r)) (λok s₃=>
      if ok=true then vj (vV X.prog X.w) X.A (eval elt B.env) (λx s₄=>
       vj (vV X.prog X.w) X.A (call (.builtin "list.append") [.ref Dd,x]) (λ_ s₅=>∃m,m < n/\P m s₅) (λ_ _=>False) s₄) (λ_ _=>False) s₃
      else∃m,m < n/\P m s₃) (λ_ _=>False) s₂) (λ_ _=>False) s1:=by
  intro n P rest s1 b G1 σ1 its acc u v x i I1 x1 sb rSb t1 hfp pl hD hacc' ru rx hq next
  rw [R.bind_assoc] at hq;obtain ⟨nD,eD⟩:=id pl;let pinD:List (xW×Obj):= [(Dd,{cls:=.type "list",data:=.seq its.toArray nD})];have pinOk:∀{σ':St} {H':Hp} {s':xk},Inv B (pinD++Q6 fp s1.heap) σ' H' s'->s'.heap.PlainList Dd its.toArray/\H' Dd=none/\tn i s'.heap/\∀q∈fp,H' q=none:=λ{σ' H' s'} J=>by
   have p1:=J.pin (Dd,{cls:=.type "list",data:=.seq its.toArray nD}) (zO _ (jT _ (by simp [pinD])));refine ⟨⟨nD,p1.1⟩,p1.2.1,T.keep _ _ _ t1 λq hq' o e=>(J.pin (q,o) (zO _ (zO _ (Vz hq' e)))).1,λq hq'=> ?_⟩;obtain ⟨o,e,_⟩:=T.obj _ _ t1 q hq';exact (J.pin (q,o) (zO _ (zO _ (Vz hq' e)))).2.1
  have I2:Inv B (pinD++Q6 fp s1.heap) σ1 b.H s1:=I1.N5 λp hp=>by
   rcases jC.mp hp with hp | hp
   ·have e:p=(Dd,{cls:=.type "list",data:=.seq its.toArray nD}):=by simpa [pinD] using hp
    subst e;refine ⟨eD,hD,hDC,λz=> ?_,λv' z=>by cases z⟩;exact nstk z
   ·obtain ⟨hb,e⟩:=ZI9 hp;obtain ⟨f0,f1,f2,_⟩:=fpB (ps:= []) hfp (λp hp=>by cases hp) p.1 hb;obtain ⟨o,e',dd⟩:=T.obj _ _ t1 p.1 hb;rw [e] at e';cases e';exact ⟨e,f0,f1,f2,dd⟩
  refine thn (hg C s a.H fp _ s1 σ1 b.H v u _ I2 ru ⟨b,Bd nt caps S,G1,x,x1.k.trans hk,rfl,sb,rSb,rx,(ZMF hq).imp λ_ _ z=>z⟩) ?_;rintro _ s2 ⟨σ2,H2',J2,b2,S2,G2,rfl,y2,sb2,rS2,eg,hq2⟩;rw [R.bind_assoc] at hq2;have rS2':RepS b2 (Bd nt caps S) σ2:=⟨by have h1:=J2.len;have h2:σ1.length=N.length:=I1.len;rw [rSb.len,h2];exact h1.symm,λj e' hj=>rS2.get j e' (gk _ _ _ _ _ eg j e' (ZQM hj) hj)⟩
  refine thn (hts C s a.H fp _ s2 σ2 b2.H _ J2 ⟨b2,S2,G2,y2.k.trans (x1.k.trans hk),rfl,sb2,rS2,(ZFs hq2).imp λ_ _ z=>z⟩) ?_;rintro k s3 ⟨H3,J3,b3,G3,rfl,y3,sb3,_,hq3⟩;cases k with
  | false=>
   obtain ⟨p1,p2,p3,p4⟩:=pinOk J3;have Jn:Inv B [] σ2 b3.H s3:=J3.N5 λp hp=>by cases hp
   obtain ⟨vs,hv,rv⟩:=hacc'
   exact next s3 b3 G3 σ2 its acc Jn (x1.trans (y2.trans y3)) sb3 (rS2'.mono y3) p3 p4 p1 p2 ⟨vs,hv,(rv.mono y2).mono y3⟩ hq3
  | true=>
   have hq3':out E0 b3 (((te S2 G3).bind λd G3=>(rest G3).bind λds G4=>.ok (d::ds) G4).bind λds G=>Be (acc++ds) G) Q:=hq3;rw [R.bind_assoc] at hq3';refine thn (he C s a.H fp _ s3 σ2 b3.H _ J3 ⟨b3,S2,G3,y3.k.trans (y2.k.trans (x1.k.trans hk)),rfl,sb3,rS2.mono y3,(Ig hq3').imp λ_ _ z=>z⟩) ?_;rintro w s4 ⟨vw,H4,J4,rw',b4,d4,G4,rfl,y4,sb4,q4,_,hq4⟩;obtain ⟨p1,p2,p3,p4⟩:=pinOk J4;rw [R.bind_assoc] at hq4
   have hq4':out E0 b4 ((rest G4).bind λds G=>Be ((acc++ [d4])++ds) G) Q:=by
    have e:(λ(ds:List D) (G:DH)=>(R.ok (d4::ds) G).bind λds G=>Be (acc++ds) G)=λds G=>Be ((acc++ [d4])++ds) G:=by funext ds G;simp
    rw [<-e];exact hq4
   obtain ⟨vs,hv,rv⟩:=hacc';have hsz:its.toArray.size<=sizeLine:=by
    have:acc.length<=1000000:=by
     cases hr:rest G4 with
     | ok ds G5=>
      rw [hr] at hq4';have hq5:out E0 b4 (Be ((acc++ [d4])++ds) G5) Q:=hq4';unfold Be at hq5;split at hq5
      ·rename_i hl;simp at hl;lia
      ·exact hq5.elim
     | err e' G5=>rw [hr] at hq4';exact hq4'.elim
     | bad=>rw [hr] at hq4';exact hq4'.elim
    rw [zY,<-hv.length,<-rv.length];exact zB this size6
   refine wpAny_list_append_plain p1 (λh' hpl hsb=> ?_) hsz;have Jn:Inv B [] σ2 b4.H s4:=J4.N5 λp hp=>by cases hp
   have J5:Inv B [] σ2 b4.H {s4 with heap:=h'}:=by refine Jn.turned (it:=Dd) (t':=s4.toks) (λq o hq' e=>(hsb.2 q hq').trans e) p2 hDC (.inr (by show s.heap.objs.size<=Dd;rw [hDe];exact zK _)) (λy c' ec=> ?_) (λp hp=>absurd hp (by simp [B,blk]));obtain ⟨v',o,e,_⟩:=I.cell y c' (cs.cl I.ok ec);intro z;rw [z,<-hDe] at e;exact absurd (zw e) (zU _)
   refine next _ b4 G4 σ2 (its++ [w]) (acc++ [d4]) J5 (x1.trans (y2.trans (y3.trans y4))) sb4 ((rS2'.mono y3).mono y4) (T.keep _ _ _ p3 λq hq' o e=>(hsb.2 q (λz=>hDf (z ▸ hq'))).trans e) p4 (by simpa using hpl) p2 ⟨vs++ [vw],hv.append (.cons rw' .nil),(((rv.mono y2).mono y3).mono y4).append (Reps.cons q4 Reps.nil)⟩ hq4'
 have loop:∀s₃:xk,s₃={s with heap:=h₁,toks:=s.toks + ([]:List (Str×x9)).length}->
   codeAny (vV X.prog X.w) X.A (.compLoop (.ListComp elt [⟨tg,iter,ifs,0⟩] scope pos) 0 (.ref i0) (.ref Dd) B.env) (RR (.ref Dd) C) s₃:=by
  rintro s₃ rfl;have t1:tn 0 h₁:=T.keep _ _ _ t0 λq _ o e=>old q o e
  have fp0:∀q∈fp,a.H q=none:=λq hq=>(hf q hq).1
  have walk:∀b:Wd,Ext a b->∀G,Sim b G->∀i,(∀d,f i G=some (some d)->J.go i b.H/\∀x H',J.yld i b.H x H'->∃c:Wd,c.H=H'/\Ext b c/\Sim c G/\Rep c d x)/\(f i G=some none->J.stop i b.H):=rJ;refine ZRH (λm s'=>∃(i:Nat) (b:Wd) (G':DH) (σ':St) (its:List x9) (acc:List D),Inv B [] σ' b.H s'/\Ext a b/\Sim b G'/\RepS b (Bd nt caps S) σ'/\tn i s'.heap/\(∀q∈fp,b.H q=none)/\s'.heap.PlainList Dd its.toArray/\b.H Dd=none/\(∃vs,Vals vs its/\Reps b acc vs)/\
   out E0 b ((Dk f g c te (Bd nt caps S) m i G').bind λds G=>Be (acc++ds) G) Q) ?_ n0 ⟨0,a,G,σ0,[],[],start _,Ext.refl a,sm,rS0,t1,fp0,hacc,aD,⟨[],.nil,rfl⟩,by simpa using h⟩
  rintro m s' ⟨i,b,G',σ',its,acc,IB,x,sb,rSb,ti,hfp,pl,hD,hac,hq⟩;obtain ⟨nD,eD⟩:=pl;have I0:=pinD IB eD hD;have f0:=fpB (ps:= [(Dd,{cls:=.type "list",data:=.seq its.toArray nD})]) hfp (λp hp=>by
   have ep:p=(Dd,{cls:=.type "list",data:=.seq its.toArray nD}):=by simpa using hp
   subst ep;exact hDf)
  have stop:J.stop i b.H->out E0 b (Be acc G') Q->vj (vV X.prog X.w) X.A (pyNext (.ref i0)) (λr s₁=>match r with
    | none=>RR (.ref Dd) C (.ok .next) s₁
    | some v=>vj (vV X.prog X.w) X.A (vJ tg (.ref i0) v) (λ_ s₁=>vj (vV X.prog X.w) X.A (assign tg B.env v) (λ_ s₂=>
     vj (vV X.prog X.w) X.A (forIn ifs true λc r=>if r=true then do let ok<-isTrue c B.env (eval c B.env);pure (ForInStep.yield ok) else pure (ForInStep.yield r)) (λok s₃=>
      if ok=true then vj (vV X.prog X.w) X.A (eval elt B.env) (λx s₄=>
       vj (vV X.prog X.w) X.A (call (.builtin "list.append") [.ref Dd,x]) (λ_ s₅=>∃m',m' < m/\∃(i:Nat) (b:Wd) (G':DH) (σ':St) (its:List x9) (acc:List D),Inv B [] σ' b.H s₅/\Ext a b/\Sim b G'/\RepS b (Bd nt caps S) σ'/\tn i s₅.heap/\(∀q∈fp,b.H q=none)/\s₅.heap.PlainList Dd its.toArray/\b.H Dd=none/\(∃vs,Vals vs its/\Reps b acc vs)/\
        out E0 b ((Dk f g c te (Bd nt caps S) m' i G').bind λds G=>Be (acc++ds) G) Q) (λ_ _=>False) s₄) (λ_ _=>False) s₃
      else∃m',m' < m/\∃(i:Nat) (b:Wd) (G':DH) (σ':St) (its:List x9) (acc:List D),Inv B [] σ' b.H s₃/\Ext a b/\Sim b G'/\RepS b (Bd nt caps S) σ'/\tn i s₃.heap/\(∀q∈fp,b.H q=none)/\s₃.heap.PlainList Dd its.toArray/\b.H Dd=none/\(∃vs,Vals vs its/\Reps b acc vs)/\
        out E0 b ((Dk f g c te (Bd nt caps S) m' i G').bind λds G=>Be (acc++ds) G) Q) (λ_ _=>False) s₂) (λ_ _=>False) s₁) (λ_ _=>False) s₁) (λ_ _=>False) s':=by
   intro st hq';refine thn (T.done B rfl rfl rfl hc i _ s' σ' b.H _ I0 f0 ti st) ?_;rintro r s1 ⟨rfl,I2⟩;have pD:=(I2.pin (Dd,{cls:=.type "list",data:=.seq its.toArray nD}) (zO _ (by simp))).1;exact fin s1 b σ' its acc G' (I2.N5 λp hp=>by cases hp) x sb ⟨nD,pD⟩ hD hac hq'
  cases m with
  | zero=>
   unfold Dk at hq;split at hq
   ·rename_i hf;exact stop ((walk b x G' sb i).2 hf) (by have hq':out E0 b (Be (acc++ []) G') Q:=hq;rw [q8] at hq';exact hq')
   ·exact hq.elim
  | succ m=>
   unfold Dk at hq;split at hq
   ·rename_i d1 hf;obtain ⟨go,yl⟩:=(walk b x G' sb i).1 d1 hf;refine thn (T.item B rfl rfl rfl hc i _ s' σ' b.H _ I0 f0 ti go) ?_;rintro r s1 ⟨u,rfl,hgo⟩;refine thn hgo ?_;rintro _ s2 ⟨v,H',I2,ru,y,t2,hfp2⟩;obtain ⟨cc,rfl,xx,ss,rd⟩:=yl v H' y;have pD:=I2.pin (Dd,{cls:=.type "list",data:=.seq its.toArray nD}) (zO _ (by simp));obtain ⟨vs1,hv1,rv1⟩:=hac;refine turnX _ _ (λG3=>Dk f g c te (Bd nt caps S) m (i + 1) G3) s2 cc G' σ' its acc u _ d1 (i + 1) (I2.N5 λp hp=>by cases hp) (x.trans xx) ss (rSb.mono xx) t2 hfp2 ⟨nD,pD.1⟩ pD.2.1 ⟨vs1,hv1,rv1.mono xx⟩ ru rd (out.mono xx hq) ?_
    intro s3 b3 G3 σ3 its3 acc3 a1 a2 a3 a4 a5 a6 a7 a8 a9 a10;exact ⟨m,qW _,i + 1,b3,G3,σ3,its3,acc3,a1,a2,a3,a4,a5,a6,a7,a8,a9,a10⟩
   ·rename_i hf;exact stop ((walk b x G' sb i).2 hf) (by have hq':out E0 b (Be (acc++ []) G') Q:=hq;rw [q8] at hq';exact hq')
   ·exact hq.elim
 exact codeAny_compStart_list (loop _ rfl) (T.self _ 0 _ _ _ (T.keep _ _ _ t0 λq _ o e=>old q o e) (loop _ rfl))
theorem ZAm:∀(n j:Nat) (G:DH),j + n=xs.length->Cp g c te S (xs.drop j) G=Dk (λj _=>some xs[j]?) g c te S n j G
 | 0,j,G,h=>by
  rw [zR (by lia)]
  show _=(match some xs[j]? with | some none=>R.ok [] G | _=>.bad)
  rw [z0 (by lia)]
  rfl
 | n + 1,j,G,h=>by
  have hj:j < xs.length:=by lia
  rw [zN hj]
  show (g xs[j] S G).bind _=(match some xs[j]? with | some (some x)=>_ | some none=>R.ok [] G | none=>.bad)
  rw [zQ hj];dsimp only
  congr 1
  funext S1 G1
  congr 1
  funext k G2;rw [ZAm n (j + 1) G2 (by lia)]
  congr 1
  congr 1
  funext d G3;rw [ZAm n (j + 1) G3 (by lia)]
theorem ZFw:∀(n j:Nat) (G:DH),Gx i g c te S n j G=Dk (mtF i) g c te S n j G
 | 0,j,G=>by
  unfold Gx Dk mtF;cases G[i]? with
  | none=>rfl
  | some o=>
   cases o with
   | lst xs=>
    dsimp only;by_cases hj:j < xs.length
    ·rw [if_neg (by lia),zQ hj]
    ·rw [if_pos (by lia),z0 (by lia)]
   | _=>rfl
 | n + 1,j,G=>by
  have ih:(Gx i g c te S n (j + 1))=Dk (mtF i) g c te S n (j + 1):=funext λG=>ZFw n (j + 1) G
  unfold Gx Dk;rw [ih];unfold mtF;cases G[i]? with
  | none=>rfl
  | some o=>
   cases o with
   | lst xs=>
    dsimp only
    cases xs[j]? <;> rfl
   | _=>rfl
theorem ZJA (hc:X.calm=true) (cs:CompSc X N scope nt caps)
  (hg:∀C s₀ H₀ ex,QG (blk X N scope C s₀ H₀ ex) E0 tg g) (gk:GK nt g) (hts:∀C s₀ H₀ ex,QTs (blk X N scope C s₀ H₀ ex) E0 ifs c) (he:∀C s₀ H₀ ex,QE (blk X N scope C s₀ H₀ ex) E0 elt te)
  {vG:List (xW×Obj)} {σ:St} {s:xk} {a:Wd} {S:DSt} {G:DH} {J:It} {d:ItD} {i0:xW} {fp:List xW} {tn:Nat->Heap->Prop} (I:Inv X vG σ a.H s) (hk:a.K=X.K) (sm:Sim a G) (rS:RepS a S σ)
  (T:Turn X.prog X.w X.K tg J fp i0 tn) (t0:tn 0 s.heap) (hf:∀b∈fp,FpOk X vG a.H b) (rJ:RepI a d J) {Q:VK}
  (h:out E0 a ((match d with
   | .pure xs=>Cp g c te (Bd nt caps S) xs G
   | .mt i=>match G[i]? with
    | some (.lst xs)=>Gx i g c te (Bd nt caps S) xs.length 0 G
    | _=>.bad
   | .fn n f=>Dk f g c te (Bd nt caps S) n 0 G).bind Be) Q)
  {RR:x9->xW->Result->xk->Prop} {E':x9->xk->Prop}
  (hRR:∀(D C:xW) (s':xk) (b:Wd) (vs:List V),Inv X vG σ (upd b.H D (.lst vs)) s'->b.H D=none->s.heap.objs.size<=C->D≠C->(∃m,s'.heap.Ns C m)->b.H C=none->Q (.ref D) (upd b.H D (.lst vs))->RR (.ref D) C (.ok .next) s'):
  vj (vV X.prog X.w) X.A (newList []) (λacc s₃=>vj (vV X.prog X.w) X.A (newFunctionEnv scope X.env.globals (G7 X.env scope.names []) [] X.env.qual none .none (some X.env)) (λcenv s₄=>
   codeAny (vV X.prog X.w) X.A (.compStart (.ListComp elt [⟨tg,iter,ifs,0⟩] scope pos) 0 (.ref i0) acc {cenv with scope:=relabel scope X.env}) (RR acc cenv.locals) s₄) E' s₃) E' s:=by
 cases d with
 | pure xs=>
  have h':out E0 a ((Cp g c te (Bd nt caps S) (xs.drop 0) G).bind Be) Q:=h;rw [ZAm xs.length 0 G (by lia)] at h';exact ZBp hc cs hg gk hts he I hk sm rS T t0 hf (ZGS rJ) h' hRR
 | mt k=>
  dsimp only at h;split at h
  ·rename_i xs hx;rw [ZFw] at h;exact ZBp hc cs hg gk hts he I hk sm rS T t0 hf (ZHc rJ) h hRR
  ·exact h.elim
 | fn n0 f=>exact ZBp hc cs hg gk hts he I hk sm rS T t0 hf rJ h hRR
end
section
variable {X:Cx} {N:List Str} {scope:xw} {nt:Nat} {caps:List Nat} {tg elt iter:xY} {ifs:List xY} {pos:Pos} {it:DI} {g:DG} {c:DB} {te:DE}
theorem letGo {vG:List (xW×Obj)} {s2 s':xk} {h':Heap} {C:xW} {t':Nat} {σ2:St} {H2:Hp} (I2:Inv X vG σ2 H2 s2) (Ia:Inv X vG σ H s') (hC:s2.heap.objs.size<=C) (hn:H C=none) (hsb:qy C s'.heap h'):Inv X vG σ H {s' with heap:=h',toks:=t'}:=by
 have young:∀{b:xW} {o:Obj},s2.heap.get? b=some o->b≠C:=λe z=>by rw [z] at e;exact absurd (zq (zw e) hC) (zU _)
 refine Ia.turned (it:=C) (λb o hb e=>(hsb.2 b hb).trans e) hn (qP (zq I2.lt hC)) (.inr (zB I2.sz hC)) (λx c' e=> ?_) λp hp=> ?_
 ·obtain ⟨v,o,e',_⟩:=I2.cell x c' e;exact young e'
 ·exact young (I2.pin p hp).1
theorem Ed (hc:X.calm=true) (cs:CompSc X N scope nt caps) (hi:QI X E0 tg iter it)
  (hg:∀C s₀ H₀ ex,QG (blk X N scope C s₀ H₀ ex) E0 tg g) (gk:GK nt g) (hts:∀C s₀ H₀ ex,QTs (blk X N scope C s₀ H₀ ex) E0 ifs c) (he:∀C s₀ H₀ ex,QE (blk X N scope C s₀ H₀ ex) E0 elt te)
  (hs:∀x,foldedSetIterable iter X.env x=pure x:=by intro _;rfl):QE X E0 (.ListComp elt [⟨tg,iter,ifs,0⟩] scope pos) (De it nt caps g c te):=by
 intro vG s σ H Q I h;obtain ⟨a,S,G,hk,rfl,sm,r,h⟩:=h;rw [eval_ListComp];refine wpAny_comprehension_free (use:=none) rfl hs (ZIe (cs.cells I.ok)) cs.kind cs.names (thn (hi vG s σ a.H _ I ⟨a,S,G,hk,rfl,sm,r,(ZH5 h).imp λ_ _ z=>z⟩) λxv s1 h1=>thn h1 λitv s2 h2=> ?_);obtain ⟨i0,fp,tn,J,H2,rfl,I2,T,t0,f2,b,d,G1,rfl,x,sb,rJ,_,h1⟩:=h2;refine ZJA hc cs hg gk hts he I2 (x.k.trans hk) sb (r.mono x) T t0 f2 rJ h1 (RR:=λacc C=>compPost (vV X.prog X.w) X.A X.xe none (EP X vG σ Q) acc C) ?_
 intro D C s' b vs Ia hD hCle hDC ⟨m,hn⟩ hCn hq;refine ⟨m,hn,λh' hsb=>⟨.ref D,_,letGo I2 Ia hCle ?_ hsb,rfl,hq⟩⟩;rw [Bh (Ne.symm hDC)];exact hCn
theorem Yw (i:Nat) {y:Str} {py spos:Pos} (hc:X.calm=true) (hN:X.N.Nodup) (cs:CompSc X N scope nt caps) (hi:QI X E0 tg iter it)
  (hg:∀C s₀ H₀ ex,QG (blk X N scope C s₀ H₀ ex) E0 tg g) (gk:GK nt g) (hts:∀C s₀ H₀ ex,QTs (blk X N scope C s₀ H₀ ex) E0 ifs c) (he:∀C s₀ H₀ ex,QE (blk X N scope C s₀ H₀ ex) E0 elt te)
  (hy:X.N[i]? =some y:=by rfl) (hx:Loc X.env.scope y:=by first | exact Or.inl rfl | exact Or.inr rfl) (hf:X.fn y=true∨X.env.scope.names.lookup y=some .local:=by first | exact .inl rfl | exact .inr rfl | assumption)
  (hsw:swapsWith (.ListComp elt [⟨tg,iter,ifs,0⟩] scope pos) (some (.Name y py)) spos.line X.env=pure true:=by rfl)
  (hs:∀x,foldedSetIterable iter X.env x=pure x:=by intro _;rfl):QS X E0 (.Assign [.Name y py] (.ListComp elt [⟨tg,iter,ifs,0⟩] scope pos) spos) (sAs (De it nt caps g c te) (gV i)):=by
 intro vG s σ H W I h;obtain ⟨a,S,G,hk,rfl,sm,r,h⟩:=h;have h0:=Im h;rw [exec_Assign_Name_used _ _ _ _ hsw];refine vv (wpAny_standAt (vv ?_))
 show vj _ X.A (do let _<-comprehension (.ListComp elt [⟨tg,iter,ifs,0⟩] scope pos) scope X.env _ (newList []) false (eval iter X.env) (some (assign (.Name y py) X.env))) _ _ s
 refine vv (v7 (wpAny_comprehension_free (use:=some (assign (.Name y py) X.env)) (Q:=λ_ s'=>SP X vG W .next s') rfl hs (ZIe (cs.cells I.ok)) cs.kind cs.names
  (thn (hi vG s σ a.H _ I ⟨a,S,G,hk,rfl,sm,r,(ZH5 h0).imp λ_ _ z=>z⟩) λxv s1 h1=>thn h1 λitv s2 h2=> ?_)) (λ_ s' hq=>vA (vA hq)) λ_ _ e=>e)
 obtain ⟨i0,fp,tn,J,H2,rfl,I2,T,t0,f2,b,d,G1,rfl,x,sb,rJ,_,h1⟩:=h2
 refine ZJA hc cs hg gk hts he I2 (x.k.trans hk) sb (r.mono x) T t0 f2 rJ h1 (RR:=λacc C=>compPost (vV X.prog X.w) X.A X.xe (some (assign (.Name y py) X.env)) (λ_ s'=>SP X vG W .next s') acc C) ?_
 intro D C s' b' vs Ia hD hCle hDC ⟨m,hn⟩ hCn hq;show vj _ X.A (assign (.Name y py) X.env (.ref D)) _ _ _;refine wpAny_assign_Name (ZHa Ia hN hy hx (v:=.ref D) rfl (λs'' I'' hch=> ?_) hf);obtain ⟨a',hsb',ha'⟩:=hch;have hCa:C≠a':=by
  rintro rfl;rcases ha' with rfl | ha'
  ·exact absurd (zq I2.lt hCle) (zU _)
  ·obtain ⟨v,o,e',_⟩:=I2.cell _ _ ha';exact absurd (zq (zw e') hCle) (zU _)
 refine ⟨m,hn.sameBut hsb' hCa,λh' hsb=>⟨_,_,letGo I2 I'' hCle ?_ hsb,?_⟩⟩
 ·rw [Bh (Ne.symm hDC)];exact hCn
 ·obtain ⟨b3,d3,G3,e3,x3,s3,q3,_,h3⟩:=hq;rw [<-e3];exact h3 b3 _ (Ext.refl b3) s3 ((r.mono x3).set i q3)
end
def Ss:D->DH->R D
 | .int i,G=>.ok (.int (-i)) G
 | _,_=>.bad
def Mh:D->Bool
 | .non=>true
 | _=>false
def X7:D->D->DH->R D
 | d,.non,G=>.ok (.bl (Mh d)) G
 | _,_,_=>.bad
def O6:D->D->DH->R D
 | d,.non,G=>.ok (.bl (!Mh d)) G
 | _,_,_=>.bad
noncomputable def Ti:D->Option V
 | .non=>some .non
 | .bl b=>some (.bl b)
 | .int i=>some (.int i)
 | .str x=>some (.str x)
 | _=>none
noncomputable def Lh:List D->Option (List V)
 | []=>some []
 | d::r=>match Ti d,Lh r with
  | some v,some vs=>some (v::vs)
  | _,_=>none
noncomputable def inD (d e:D) (G:DH):Option Bool:=match e with
 | .str j=>match d with
  | .str i=>some (!(Builtin.Str.occurrences j i 0 j.length 1).isEmpty)
  | _=>none
 | e=>match Bu e G,Ti d with
  | some xs,some v=>(Lh xs).map λvs=>inV v vs
  | _,_=>none
noncomputable def U0 (d e:D) (G:DH):R D:=match inD d e G with
 | some k=>.ok (.bl (!k)) G
 | none=>.bad
section
variable {X:Cx} {E:XK} {a b:xY} {ta tb:DE} {pos:Pos}
theorem ZDS:UnR X (unaryOp .USub) (lR1 X.K E Ss):=λvG s σ H x v Q I rx h=>by
 obtain ⟨a,G,d,hk,rfl,sm,rd,q⟩:=h;cases d with
 | int i=>exact ZMw vG s σ a.H x v Q I rx ⟨i,rd,q a _ (Ext.refl a) sm rfl⟩
 | _=>exact q.elim
theorem ZDi {op:UnaryOp} {f:D->DH->R D} (ho:UnR X (unaryOp op) (lR1 X.K E f)) (ha:QE X E a ta):QE X E (.UnaryOp op a pos) (dUn f ta):=(ZOx ho ha).mono λσ H Q h=>by obtain ⟨a,S,G,hk,rfl,s,r,h⟩:=h;refine ⟨a,S,G,hk,rfl,s,r,(Ig h).imp ?_⟩;rintro v _ ⟨b,d,G1,rfl,x,s1,q,-,h1⟩;exact ⟨b,G1,d,x.k.trans hk,rfl,s1,q,h1⟩
theorem ZCX {n:String} (hg:Gl X x) (hm:X.mg x=none) (hv:xH x=some (.type n)) (hn:x≠"__name__":=by decide) (hd:(x == ("__debug__":Str))=false:=by decide):QE X E (.Name x pos) (dC (.ty n)):=
 (ZLc (v:=.ty n) hg hm hv rfl hn hd).mono λσ H Q h=>R0 h λ_ _=>rfl
theorem ZHR {a:Wd} {x:V} (rd:Rep a d x):decide (x=V.non)=Mh d:=by
 cases d with
 | non=>rw [show x=V.non from rd];rfl
 | bl _=>rw [show x=V.bl _ from rd];rfl
 | int _=>rw [show x=V.int _ from rd];rfl
 | str _=>rw [show x=V.str _ from rd];rfl
 | ty _=>rw [show x=V.ty _ from rd];rfl
 | tup _=>obtain ⟨p,vs,rfl,_⟩:=rd;rfl
 | fl _=>obtain ⟨p,vs,rfl,_⟩:=rd;rfl
 | ref _=>rw [rd.2];rfl
theorem o_is:OpR X (xN .Is) (lR2 X.K E X7):=Hm ZMl λa G d e x y Q hk s rd re q=>by
 cases e with
 | non=>exact ⟨re,by rw [ZHR rd];cases d <;> exact q a _ (Ext.refl a) s rfl⟩
 | _=>cases d <;> exact q.elim
theorem U9:OpR X (xN .IsNot) (lR2 X.K E O6):=Hm ZNf λa G d e x y Q hk s rd re q=>by
 cases e with
 | non=>exact ⟨re,by rw [ZHR rd];cases d <;> exact q a _ (Ext.refl a) s rfl⟩
 | _=>cases d <;> exact q.elim
theorem ZF4 {a:Wd} {x:V} (r:Rep a d x) (h:Ti d=some v):x=v/\Fo v=true:=by
 cases d <;> first
  | (cases h;exact ⟨r,rfl⟩)
  | cases h
theorem ZFP {a:Wd}:∀{ds:List D} {xs vs:List V},Reps a ds xs->Lh ds=some vs->xs=vs/\vs.all Fo=true
 | [],xs,vs,r,h=>by cases h;exact ⟨r,rfl⟩
 | d::ds,xs,vs,r,h=>by
  obtain ⟨x,r',rfl,r1,r2⟩:=r;unfold Lh at h;split at h
  ·rename_i v ws h1 h2;cases h;obtain ⟨e1,f1⟩:=ZF4 r1 h1;obtain ⟨e2,f2⟩:=ZFP r2 h2;subst e1;subst e2;exact ⟨rfl,by rw [jX,f1,f2];rfl⟩
  ·cases h
theorem ZOj {a:Wd} {e:D} {x:V} {k:Bool} (s:Sim a G) (rd:Rep a d x) (re:Rep a e y) (h:inD d e G=some k):
  (∃i j,x=.str i/\y=.str j/\k= !(Builtin.Str.occurrences j i 0 j.length 1).isEmpty)∨(∃p xs,y=.ref p/\(SqL a.K a.H p xs∨SqT a.K a.H p xs)/\Fo x=true/\xs.all Fo=true/\k=inV x xs):=by
 have seq:(match Bu e G,Ti d with | some xs,some v=>(Lh xs).map λvs=>inV v vs | _,_=>none)=some k->(∃p xs,y=.ref p/\(SqL a.K a.H p xs∨SqT a.K a.H p xs)/\Fo x=true/\xs.all Fo=true/\k=inV x xs):=λh=>by
  split at h
  ·rename_i xs v h1 h2;obtain ⟨p,ws,e1,q,r1⟩:=Jw s re h1;obtain ⟨e2,f2⟩:=ZF4 rd h2;subst e2;rw [zI] at h;obtain ⟨us,h3,h4⟩:=h;obtain ⟨e3,f3⟩:=ZFP r1 h3;subst e3;exact ⟨p,ws,e1,q,f2,f3,h4.symm⟩
  ·cases h
 cases e with
 | str j=>
  cases d with
  | str i=>exact .inl ⟨i,j,rd,re,(Option.some.inj h).symm⟩
  | _=>cases h
 | tup xs=>exact .inr (seq h)
 | fl xs=>exact .inr (seq h)
 | ref i=>exact .inr (seq h)
 | _=>exact .inr (seq h)
theorem ZMR:OpR X (xN .NotIn) (lR2 X.K E U0):=Hm (ZLw.or ZJx) λa G d e x y Q hk s rd re q=>by
 unfold U0 at q;split at q
 ·rename_i k h;have z:=q a _ (Ext.refl a) s rfl;rcases ZOj s rd re h with ⟨i,j,e1,e2,rfl⟩ | ⟨p,xs,e1,hq,f1,f2,rfl⟩
  ·exact .inl ⟨i,j,e1,e2,z⟩
  ·exact .inr ⟨p,xs,e1,by rw [<-hk];exact hq,f1,f2,z⟩
 ·exact q.elim
end
theorem ZB1:xH "isinstance"=some (.builtin "isinstance"):=by decide +kernel
theorem ZQe:xH "all"=some (.builtin "all"):=by decide +kernel
theorem Hn:xH "sum"=some (.builtin "sum"):=by decide +kernel
theorem ZAc:xH "max"=some (.builtin "max"):=by decide +kernel
theorem U3:xH "min"=some (.builtin "min"):=by decide +kernel
theorem Jj:xH "len"=some (.builtin "len"):=by decide +kernel
theorem ZA9:xH "int"=some (.type "int"):=by decide +kernel
theorem ZPK:xH "bool"=some (.type "bool"):=by decide +kernel
theorem J6:xH "tuple"=some (.type "tuple"):=by decide +kernel
theorem U7:xH "list"=some (.type "list"):=by decide +kernel
def Il:xz->Bool | .local=>true | _=>false
def Kv:xz->Bool | .cell=>true | _=>false
def Kg:xz->Bool | .free=>true | _=>false
def isK (p:xz->Bool):Option xz->Bool | some k=>p k | none=>false
theorem ZHn {k:xz} (h:Il k=true):k=.local:=by cases k <;> first | rfl | cases h
theorem ZJz {k:xz} (h:Kv k=true):k=.cell:=by cases k <;> first | rfl | cases h
theorem ZJb {k:xz} (h:Kg k=true):k=.free:=by cases k <;> first | rfl | cases h
theorem Tn {p:xz->Bool} {k:xz} (hp:∀k',p k'=true->k'=k) {o:Option xz} (h:isK p o=true):o=some k:=by
 cases o with
 | none=>cases h
 | some k'=>rw [hp _ h]
noncomputable def ZFv (dn:List (Str×xz)) (N0 N:List Str) (names:List (Str×xz)) (nt:Nat) (caps:List Nat):Bool:=
 names.all (λy=>(!Il y.2 || isK Il (names.lookup y.1)) && !Kv y.2 && (!Kg y.2 || isK Kv (dn.lookup y.1) || isK Kg (dn.lookup y.1))) && decide N.Nodup && decide (N.length=nt + caps.length) &&
 (zX caps.length).all λk=>match caps[k]? with
  | some j=>match N0[j]? with
   | some x=>decide (N[nt + k]? =some x) && isK Kg (names.lookup x)
   | none=>false
  | none=>true
theorem Dt {X:Cx} {N0 N:List Str} {nt:Nat} {caps:List Nat} {dn:List (Str×xz)} (hk:scope.kind=.function:=by rfl) (hdn:∀x,X.env.kindOf x=dn.lookup x:=by intro _;rfl) (hN:X.N=N0:=by rfl)
  (h:ZFv dn N0 N scope.names nt caps=true:=by decide +kernel):CompSc X N scope nt caps:=by
 unfold ZFv at h;rw [zA,zA,zA] at h;obtain ⟨⟨⟨h1,h2⟩,h3⟩,h4⟩:=h;rw [qj] at h1 h4;have key:=λ(y:Str×xz) (hy:y∈scope.names)=>(by have:=h1 y hy;rw [zA,zA] at this;exact this:((!Il y.2 || isK Il (scope.names.lookup y.1))=true/\(!Kv y.2)=true)/\(!Kg y.2 || isK Kv (dn.lookup y.1) || isK Kg (dn.lookup y.1))=true)
 refine ⟨hk,λy hy hl=> ?_,λy hy hl=> ?_,λy hy hl=> ?_,of_decide_eq_true h2,of_decide_eq_true h3,λk j hj=> ?_⟩
 ·have:=(key y hy).1.1;rw [hl] at this;exact Tn (p:=Il) (λ_ h=>ZHn h) (by have t:(false || isK Il (scope.names.lookup y.1))=true:=this;simpa using t)
 ·have:=(key y hy).1.2;rw [hl] at this;exact absurd this (by decide)
 ·have:=(key y hy).2;rw [hl,xX] at this;rw [hdn];rcases this with h | h
  ·exact .inl (Tn (p:=Kv) (λ_ h=>ZJz h) (by have t:(false || isK Kv (dn.lookup y.1))=true:=h;simpa using t))
  ·exact .inr (Tn (p:=Kg) (λ_ h=>ZJb h) h)
 ·have hk':k < caps.length:=(zE.mp hj).1;have:=h4 k (qX.mpr hk');rw [hj] at this;dsimp only at this;cases e:N0[j]? with
  | none=>rw [e] at this;cases this
  | some x=>
   rw [e] at this;dsimp only at this;rw [zA] at this;exact ⟨x,by rw [hN];exact e,of_decide_eq_true this.1,Tn (p:=Kg) (λ_ h=>ZJb h) this.2⟩
section
section
variable {X:Cx} {vG:List (xW×Obj)} {σ:St} {H:Hp} {s:xk}
theorem ZQJ {xs:List V} (I:Inv X vG σ H s) (h:H p=some (.lst xs)):∃o,Inv X vG σ (upd H p (.frz o (.lst xs))) s:=by
 obtain ⟨hl,its,n,r,e⟩:=I.hok p _ h;have nt:∀b (u:HO),H b=some u->u≠ .lst xs->b≠p:=λb u q d z=>by subst z;rw [h] at q;exact d (Option.some.inj q).symm
 refine ⟨_,I.un (t':=s.toks) (H':=upd H p (.frz {cls:=.type "list",data:=.seq its.toArray n} (.lst xs))) ⟨λb o q _ _ _=>q,λb o q _ _ _=>⟨o.slots,q⟩,λb o q z _=> ?_,λb o q _=>⟨o,q⟩,λb ys q=> ?_,λb o u q=> ?_,λb ps q=>⟨#[],?_⟩⟩ ?_⟩
 ·rw [Bh (λz'=>by subst z';rw [h] at z;cases z)];exact z
 ·rw [Bh (nt b _ q (by intro z;cases z))];exact q
 ·rw [Bh (nt b _ q (by intro z;cases z))];exact q
 ·rw [Bh (nt b _ q (by intro z;cases z)),Array.append_empty];exact q
 ·intro b u q;by_cases hb:b=p
  ·subst hb;rw [Gh] at q;cases q;exact ⟨e,hl,its,n,r,e⟩
  ·rw [Bh hb] at q;exact (I.hok b u q).stay (λc v _ z=>z) (λc z=>by rw [Bh (nt c _ z (by intro z;cases z))];exact z) λc ys z=>by rw [Bh (nt c _ z (by intro z;cases z))];exact z
noncomputable def Fz (P:xW->Prop) (H H':Hp):Prop:=∀p,(H' p=H p/\(∀vs,H p=some (.lst vs)->¬P p))∨∃o vs,P p/\H p=some (.lst vs)/\H' p=some (.frz o (.lst vs))
theorem ZEm (I:Inv X vG σ H s) (m:Nat->xW) (n:Nat):∀k:Nat,∃H',Inv X vG σ H' s/\Fz (λp=>∃i,n<=i/\i < n + k/\p=m i) H H'
 | 0=>⟨H,I,λp=>.inl ⟨rfl,λ_ _ ⟨i,h1,h2,_⟩=>by lia⟩⟩
 | k + 1=>by
  obtain ⟨H',I',F⟩:=ZEm I m n k;have keep:(∀vs,H' (m (n + k))≠some (.lst vs))->Fz (λp=>∃i,n<=i/\i < n + (k + 1)/\p=m i) H H':=λno p=>by
   rcases F p with ⟨e,z⟩ | ⟨o,vs,⟨i,h1,h2,h3⟩,e1,e2⟩
   ·refine .inl ⟨e,λvs e1 ⟨i,h1,h2,h3⟩=> ?_⟩;by_cases hi:i < n + k
    ·exact z vs e1 ⟨i,h1,hi,h3⟩
    ·have:i=n + k:=by lia
     subst this;subst h3;exact no vs (e.trans e1)
   ·exact .inr ⟨o,vs,⟨i,h1,by lia,h3⟩,e1,e2⟩
  cases hH:H' (m (n + k)) with
  | none=>exact ⟨H',I',keep λvs z=>by rw [hH] at z;cases z⟩
  | some u=>
   cases u with
   | lst vs=>
    obtain ⟨o,I2⟩:=ZQJ I' hH;refine ⟨_,I2,λp=> ?_⟩;by_cases hp:p=m (n + k)
    ·subst hp;rcases F (m (n + k)) with ⟨e,z⟩ | ⟨o',vs',_,e1,e2⟩
     ·exact .inr ⟨o,vs,⟨n + k,by lia,by lia,rfl⟩,e.symm.trans hH,Gh⟩
     ·rw [hH] at e2;cases e2
    ·rcases F p with ⟨e,z⟩ | ⟨o',vs',⟨i,h1,h2,h3⟩,e1,e2⟩
     ·refine .inl ⟨by rw [Bh hp];exact e,λvs' e1 ⟨i,h1,h2,h3⟩=> ?_⟩;by_cases hi:i < n + k
      ·exact z vs' e1 ⟨i,h1,hi,h3⟩
      ·have:i=n + k:=by lia
       subst this;exact hp h3
     ·exact .inr ⟨o',vs',⟨i,h1,by lia,h3⟩,e1,by rw [Bh hp];exact e2⟩
   | _=>exact ⟨H',I',keep λvs z=>by rw [hH] at z;cases z⟩
end
noncomputable def Kl (f:D->Option D):List D->Option (List D)
 | []=>some []
 | d::r=>match f d,Kl f r with
  | some d',some r'=>some (d'::r')
  | _,_=>none
noncomputable def Ga (G:DH) (n:Nat):Nat->D->Option D
 | 0,_=>none
 | k + 1,d=>if bel n d=true then some d else match d with
  | .ref i=>match G[i]? with
   | some (.lst xs)=>(Kl (Ga G n k) xs).map .fl
   | _=>none
  | .tup xs=>(Kl (Ga G n k) xs).map .tup
  | .fl xs=>(Kl (Ga G n k) xs).map .fl
  | _=>none
open Classical in
noncomputable def freeze (G:DH) (r:R D):R D:=match r with
 | .ok d G'=>if G'.take G.length=G then (match Ga G' G.length 9 d with
   | some d'=>.ok d' G
   | none=>.ok d G') else .ok d G'
 | r=>r
def Ay (t:DE):DE:=λS G=>freeze G (t S G)
structure CutF (b c:Wd) (n:Nat):Prop where
 k:c.K=b.K
 n:c.n=n
 m:c.m=b.m
 tup:∀p xs,b.H p=some (.tup xs)->c.H p=some (.tup xs)
 frz:∀p o u,b.H p=some (.frz o u)->c.H p=some (.frz o u)
theorem CutF.sqT {c:Wd} {n:Nat} (x:CutF b c n) {xs:List V} (h:SqT b.K b.H p xs):SqT c.K c.H p xs:=by
 rcases h with (h | ⟨o,h⟩) | h
 ·exact .inl (.inl (x.tup _ _ h))
 ·exact .inl (.inr ⟨o,x.frz _ _ _ h⟩)
 ·exact .inr (by rw [x.k];exact h)
theorem CutF.fzL {c:Wd} {n:Nat} (x:CutF b c n) {xs:List V} (h:FzL b.K b.H p xs):FzL c.K c.H p xs:=by
 rcases h with ⟨o,h⟩ | h
 ·exact .inl ⟨o,x.frz _ _ _ h⟩
 ·exact .inr (by rw [x.k];exact h)
mutual
theorem Rep.Jz {c:Wd} {n:Nat} (x:CutF b c n):∀{d:D} {v:V},Rep b d v->bel n d=true->Rep c d v
 | .non,_,h,_=>h
 | .bl _,_,h,_=>h
 | .int _,_,h,_=>h
 | .str _,_,h,_=>h
 | .ty _,_,h,_=>h
 | .tup ds,v,h,q=>by obtain ⟨p,vs,e,t,r⟩:=h;simp only [DL.bel] at q;exact ⟨p,vs,e,x.sqT t,Reps.Jz x r q⟩
 | .fl ds,v,h,q=>by obtain ⟨p,vs,e,t,r⟩:=h;simp only [DL.bel] at q;exact ⟨p,vs,e,x.fzL t,Reps.Jz x r q⟩
 | .ref i,v,h,q=>by obtain ⟨l,e⟩:=h;simp only [DL.bel] at q;have q':=of_decide_eq_true q;exact ⟨by rw [x.n];exact q',by rw [x.m];exact e⟩
theorem Reps.Jz {c:Wd} {n:Nat} (x:CutF b c n):∀{ds:List D} {vs:List V},Reps b ds vs->bels n ds=true->Reps c ds vs
 | [],_,h,_=>h
 | d::ds,vs,h,q=>by obtain ⟨v,r,e,h1,h2⟩:=h;simp only [DL.bels,zA] at q;exact ⟨v,r,e,Rep.Jz x h1 q.1,Reps.Jz x h2 q.2⟩
end
theorem Xm {c:Wd} {f:D->Option D} (hf:∀d d' v,f d=some d'->Rep b d v->Rep c d' v):∀{ds ds':List D} {vs:List V},Kl f ds=some ds'->Reps b ds vs->Reps c ds' vs
 | [],ds',vs,e,h=>by cases e;exact h
 | d::ds,ds',vs,e,h=>by
  obtain ⟨v,r,rfl,h1,h2⟩:=h;unfold Kl at e;split at e
  ·rename_i d' r' e1 e2;cases e;exact ⟨v,r,rfl,hf _ _ _ e1 h1,Xm hf e2 h2⟩
  ·cases e
theorem ZIU {c:Wd} {n:Nat} (s:Sim b G') (x:CutF b c n) (hz:∀i,n<=i->i < b.n->∀vs,b.H (b.m i)=some (.lst vs)->∃o,c.H (b.m i)=some (.frz o (.lst vs))):∀(k:Nat) (d d':D) (v:V),Ga G' n k d=some d'->Rep b d v->Rep c d' v
 | 0,d,d',v,e,h=>by cases e
 | k + 1,d,d',v,e,h=>by
  have ih:=ZIU s x hz k;unfold Ga at e;split at e
  ·rename_i hb;cases e;exact h.Jz x hb
  ·rename_i hb;cases d with
   | ref i=>
    dsimp only at e;split at e
    ·rename_i xs hx;rw [zI] at e;obtain ⟨ys,e1,rfl⟩:=e;obtain ⟨vs,e2,r2⟩:=s.obj i _ hx;obtain ⟨il,rfl⟩:=h;have hi:n<=i:=by simp only [DL.bel,decide_eq_true_eq] at hb;lia
     obtain ⟨o,e3⟩:=hz i hi il vs e2;exact ⟨_,vs,rfl,.inl ⟨o,e3⟩,Xm ih e1 r2⟩
    ·cases e
   | tup xs=>
    dsimp only at e;rw [zI] at e;obtain ⟨ys,e1,rfl⟩:=e;obtain ⟨p,vs,rfl,t,r⟩:=h;exact ⟨p,vs,rfl,x.sqT t,Xm ih e1 r⟩
   | fl xs=>
    dsimp only at e;rw [zI] at e;obtain ⟨ys,e1,rfl⟩:=e;obtain ⟨p,vs,rfl,t,r⟩:=h;exact ⟨p,vs,rfl,x.fzL t,Xm ih e1 r⟩
   | _=>cases e
theorem ZE0 {vG:List (xW×Obj)} {sh:xk} (s:Sim a G) (hG:G'.take G.length=G) (x:Ext a b) (sb:Sim b G') (I:Inv X vG σ b.H sh):
  ∃c:Wd,Inv X vG σ c.H sh/\Ext a c/\Sim c G/\CutF b c a.n/\∀(k:Nat) (d d':D) (v:V),Ga G' G.length k d=some d'->Rep b d v->Rep c d' v:=by
 have hlen:∀i o,G[i]? =some o->G'[i]? =some o:=λi o e=>by have hi:i < G.length:=(zE.mp e).1;rw [<-hG,jk hi] at e;exact e
 obtain ⟨H',I',F⟩:=ZEm I b.m a.n (b.n - a.n);have hbn:a.n + (b.n - a.n)=b.n:=by have:=x.n;lia
 rw [hbn] at F;have ct:∀p (u:HO),(∀vs,u≠ .lst vs)->b.H p=some u->H' p=some u:=λp u nu e=>by
  rcases F p with ⟨e1,_⟩ | ⟨o,vs,_,e1,_⟩
  ·exact e1.trans e
  ·rw [e] at e1;exact absurd (Option.some.inj e1) (nu vs)
 have tabs:∀p,TabOk b.H p->TabOk H' p:=λp t=>t.mono (λp ps e=>ct p _ (by intro _ z;cases z) e) λp o u e=>ct p _ (by intro _ z;cases z) e
 have cc:CutF b ⟨b.K,a.n,b.m,H'⟩ a.n:=⟨rfl,rfl,rfl,λp xs e=>ct p _ (by intro _ z;cases z) e,λp o u e=>ct p _ (by intro _ z;cases z) e⟩;have old:∀i,i < a.n->H' (b.m i)=b.H (b.m i):=λi hi=>by
  rcases F (b.m i) with ⟨e1,_⟩ | ⟨o,vs,⟨j,h1,h2,h3⟩,e1,e2⟩
  ·exact e1
  ·have:=sb.inj i j (zq hi x.n) h2 h3;lia
 refine ⟨⟨b.K,a.n,b.m,H'⟩,I',⟨x.k,zK _,x.m,λp xs e=>cc.tup p xs (x.tup p xs e),λp o u e=>cc.frz p o u (x.frz p o u e),λp t=>tabs p (x.tab p t)⟩,⟨s.len,λi j hi hj=>sb.inj i j (zq hi x.n) (zq hj x.n),λi o e=> ?_,λi hi=> ?_⟩,cc,λk d d' v hd rb=> ?_⟩
 ·show ORep ⟨b.K,a.n,b.m,H'⟩ o (H' (b.m i));rw [old i (s.lt e)];have q:=sb.obj i o (hlen i o e);have lb:=(s.obj i o e).Od;cases o with
  | lst ds=>obtain ⟨vs,e1,r1⟩:=q;exact ⟨vs,e1,r1.Jz cc lb⟩
  | dct kvs=>obtain ⟨us,e1,k1,r1⟩:=q;exact ⟨us,e1,k1,r1.Jz cc lb⟩
  | ins c fs=>obtain ⟨C,dx,us,n1,e1,k1,r1⟩:=q;exact ⟨C,dx,us,n1,e1,k1,r1.Jz cc lb⟩
  | tab C m=>obtain ⟨c1,P1,e1,t1⟩:=q;exact ⟨c1,P1,e1,tabs _ t1⟩
  | gone=>trivial
 ·show H' (b.m i)≠none;rw [old i hi];exact sb.tr i (zq hi x.n)
 ·rw [s.len] at hd;refine ZIU sb cc (λi h1 h2 vs e=> ?_) k d d' v hd rb;rcases F (b.m i) with ⟨e1,z⟩ | ⟨o,vs',_,e1,e2⟩
  ·exact absurd ⟨i,h1,h2,rfl⟩ (z vs e)
  ·rw [e] at e1;cases e1;exact ⟨o,e2⟩
theorem ZNR (s:Sim a G) (h:out E a (freeze G r) Q):
  out E a r λv H=>∀(vG:List (xW×Obj)) (σ:St) (sh:xk),Inv X vG σ H sh->∃H',Inv X vG σ H' sh/\Q v H':=by
 cases r with
 | err e G'=>exact h
 | bad=>exact h
 | ok d G'=>
  intro b v x sb rb vG σ sh I;unfold freeze at h;dsimp only at h;split at h
  ·rename_i hG;split at h
   ·rename_i d' hd;obtain ⟨c,Ic,xc,sc,cc,hr⟩:=ZE0 s hG x sb I;exact ⟨c.H,Ic,h c v xc sc (hr _ _ _ _ hd rb)⟩
   ·exact ⟨_,I,h b v x sb rb⟩
  ·exact ⟨_,I,h b v x sb rb⟩
theorem Ba (ha:QE X E e t):QE X E e (Ay t):=λvG s σ H Q I h=>by
 obtain ⟨a,S,G,hk,rfl,sm,r,h⟩:=h;refine thn (ha vG s σ a.H _ I ⟨a,S,G,hk,rfl,sm,r,ZNR (X:=X) sm h⟩) λu s' ⟨v,H',I',rv,q⟩=> ?_
 obtain ⟨H2,I2,q2⟩:=q vG σ s' I';exact ⟨v,H2,I2,rv,q2⟩
theorem ZRD {st:xy} (ha:QS X E st (sAs t (gV i))):QS X E st (sAs (Ay t) (gV i)):=λvG s σ H W I h=>by
 obtain ⟨a,S,G,hk,rfl,sm,r,h⟩:=h;have h2:Cz E a (sAs t (gV i) S G) {W with nx:=λσ H=>∀(vG:List (xW×Obj)) (sh:xk),Inv X vG σ H sh->∃H',Inv X vG σ H' sh/\W.nx σ H'}:=by
  unfold sAs Ay at h;unfold sAs;cases ht:t S G with
  | err e G'=>rw [ht] at h;exact h
  | bad=>rw [ht] at h;exact h
  | ok d G'=>
   rw [ht] at h;intro b σ' x sb rb vG sh I;unfold freeze at h;dsimp only at h;split at h
   ·rename_i hG;split at h
    ·rename_i d' hd;obtain ⟨c,Ic,xc,sc,cc,hr⟩:=ZE0 sm hG x sb I;refine ⟨c.H,Ic,h c σ' xc sc ⟨?_,λj e he=> ?_⟩⟩
     ·rw [jD,<-rb.len,jD]
     ·rw [jq] at he;by_cases hij:i=j
      ·subst hij;rw [if_pos rfl] at he;by_cases hl:i < S.length
       ·rw [if_pos hl] at he;have e1:d'=e:=by simpa using he
        subst e1;obtain ⟨v,e2,rv⟩:=rb.get i d (by rw [jq,if_pos rfl,if_pos hl]);exact ⟨v,e2,hr _ _ _ _ hd rv⟩
       ·rw [if_neg hl] at he;cases he
      ·rw [if_neg hij] at he;obtain ⟨v,e2,rv⟩:=rb.get j e (by rw [jq,if_neg hij];exact he);obtain ⟨v',_,rv'⟩:=r.get j e he;exact ⟨v,e2,rv.Jz cc rv'.bel⟩
    ·exact ⟨_,I,h b σ' x sb rb⟩
   ·exact ⟨_,I,h b σ' x sb rb⟩
 refine thn (ha vG s σ a.H _ I ⟨a,S,G,hk,rfl,sm,r,h2⟩) λf s' hf=> ?_
 cases f with
 | next=>
  obtain ⟨σ',H',I',q⟩:=hf;obtain ⟨H2,I2,q2⟩:=q vG s' I';exact ⟨σ',H2,I2,q2⟩
 | brk=>exact hf
 | cont=>exact hf
 | ret u=>exact hf
end
section
variable {S:DSt} {G:DH}
@[simp] theorem ZCf:dV i S G=(match S[i]? with | some (some d)=>.ok d G | _=>.bad):=id rfl
@[simp] theorem ev_C:dC d S G=.ok d G:=id rfl
@[simp] theorem ev_Op {a b:DE}:dOp f a b S G=(a S G).bind λx G1=>(b S G1).bind λy G2=>f x y G2:=id rfl
@[simp] theorem ev_Un {f:D->DH->R D} {a:DE}:dUn f a S G=(a S G).bind f:=id rfl
@[simp] theorem ev_Nil:Ae S G=.ok [] G:=id rfl
@[simp] theorem ZS8 {a:DE} {r:DA}:Ab a r S G=(a S G).bind λx G1=>(r S G1).bind λxs G2=>.ok (x::xs) G2:=id rfl
@[simp] theorem ev_Fn {f:List D->DH->R D} {t:DA}:dFn f t S G=(t S G).bind f:=id rfl
@[simp] theorem ZTF:Ep t S G=tidy G (t S G):=id rfl
@[simp] theorem ev_Frz:Ay t S G=freeze G (t S G):=id rfl
@[simp] theorem ev_asB {k:Bool}:asB (.bl k) G=.ok k G:=id rfl
@[simp] theorem ev_Tst:Bk t S G=(t S G).bind asB:=id rfl
@[simp] theorem ev_And {t u:DB}:Ow t u S G=(t S G).bind λk G1=>if k=true then u S G1 else .ok false G1:=id rfl
@[simp] theorem ev_Or {t u:DB}:dOr t u S G=(t S G).bind λk G1=>if k=true then .ok true G1 else u S G1:=id rfl
@[simp] theorem ev_Not {t:DB}:Sx t S G=(t S G).bind λk G1=>.ok (!k) G1:=id rfl
@[simp] theorem ZSO {u:DE}:Oz t u S G=(t S G).bind λx G1=>(asB x G1).bind λk G2=>if k=true then u S G2 else .ok (.bl false) G2:=id rfl
@[simp] theorem ZSk:ZAu t S G=(t S G).bind λx G1=>(asB x G1).bind λk G2=>.ok (.bl (!k)) G2:=id rfl
@[simp] theorem ev_If {u:DE}:dIf c t u S G=(c S G).bind λk G1=>if k=true then t S G1 else u S G1:=id rfl
@[simp] theorem ev_sNx:sNx S G=.nx S G:=id rfl
def SR.then (r:SR) (u:DS):SR:=match r with
 | .nx S1 G1=>u S1 G1
 | r=>r
@[simp] theorem ZK0 {t:DS}:Ai t u S G=(t S G).then u:=id rfl
@[simp] theorem ZPp:(SR.nx S G).then u=u S G:=id rfl
@[simp] theorem ZSU:(SR.rt d G).then u=.rt d G:=id rfl
@[simp] theorem ev_sEx:sEx t S G=(t S G).toS λ_ G1=>.nx S G1:=id rfl
@[simp] theorem ev_sRt:sRt t S G=(t S G).toS λd G1=>.rt d G1:=id rfl
@[simp] theorem ev_sIf {t:DS}:sIf c t u S G=(c S G).toS λk G1=>if k=true then t S G1 else u S G1:=id rfl
@[simp] theorem ev_sAs:sAs t g S G=(t S G).toS λd G1=>(g d S G1).toS λS2 G2=>.nx S2 G2:=id rfl
@[simp] theorem ev_sAu:sAu i t f S G=(match S[i]? with
 | some (some x)=>(t S G).toS λy G1=>(f x y G1).toS λz G2=>.nx (S.set i (some z)) G2
 | _=>.bad):=id rfl
@[simp] theorem ZS3 {it:DI} {b:DS}:Ei it g b S G=(it S G).toS λJ G1=>(match J with
 | .pure xs=>Bx g b xs S G1
 | .mt i=>match G1[i]? with
  | some (.lst xs)=>forM i g b xs.length 0 S G1
  | _=>.bad
 | .fn n f=>Ef f g b n 0 S G1):=id rfl
@[simp] theorem ZRy:Di t S G=(t S G).bind G8:=id rfl
@[simp] theorem ZTC {f:List D->DH->R ItD} {t:DA}:Dh f t S G=(t S G).bind f:=id rfl
@[simp] theorem Es:gV i d S G=.ok (S.set i (some d)) G:=id rfl
@[simp] theorem Ux:Bs [] S G=.ok S G:=id rfl
@[simp] theorem V3 {t:DG} {u:DGs} {r:List D}:An t u (d::r) S G=(t d S G).bind λS1 G1=>u r S1 G1:=id rfl
@[simp] theorem Tv {n:Nat} {t:DGs} :Bq n t (.tup ds) S G=if ds.length=n then t ds S G else .bad:=id rfl
@[simp] theorem ev_gIx {o i:DE} {v:D}:gIx o i v S G=(o S G).bind λo G1=>(i S G1).bind λi G2=>(Mx o i v G2).bind λ_ G3=>.ok S G3:=id rfl
@[simp] theorem ev_MtL {f:D->List D->DH->R D} {o:DE} {t:DA}:Gq f o t S G=(o S G).bind λx G1=>if isL x G1=true then (t S G1).bind λxs G2=>f x xs G2 else .bad:=id rfl
@[simp] theorem ZL6 {it:DI} {caps:List Nat} :De it nt caps g c te S G=(it S G).bind λJ G1=>(match J with
 | .pure xs=>Cp g c te (Bd nt caps S) xs G1
 | .mt i=>match G1[i]? with
  | some (.lst xs)=>Gx i g c te (Bd nt caps S) xs.length 0 G1
  | _=>.bad
 | .fn n f=>Dk f g c te (Bd nt caps S) n 0 G1).bind Be:=id rfl
@[simp] theorem ZNY:Bj S G=.ok true G:=id rfl
@[simp] theorem Ew {k:DSt->DH->SR}:aft (.nx S G) k=k S G:=id rfl
@[simp] theorem aft_rt {k:DSt->DH->SR} :aft (.rt d G) k=.rt d G:=id rfl
theorem Fy {b:DS}:Bx g b [] S G=.nx S G:=id rfl
theorem Et {b:DS} {x:D} :Bx g b (x::xs) S G=(g x S G).toS λS1 G1=>aft (b S1 G1) (Bx g b xs):=id rfl
theorem Jd {x:D} :Cp g c te S (x::xs) G=(g x S G).bind λS1 G1=>(c S1 G1).bind λk G2=>
   if k=true then (te S1 G2).bind λd G3=>(Cp g c te S xs G3).bind λds G4=>.ok (d::ds) G4 else Cp g c te S xs G2:=id rfl
noncomputable def SR.ret (r:SR):R D:=match r with
 | .nx _ G'=>.ok .non G'
 | .rt d G'=>.ok d G'
 | .err x G'=>.err x G'
 | _=>.bad
@[simp] theorem ZOq:(SR.nx S G).ret=.ok .non G:=id rfl
@[simp] theorem ret_rt:(SR.rt d G).ret=.ok d G:=id rfl
theorem By {np nl:Nat} {b:DS} :Cd np nl b ds G=if ds.length=np then tidy G (b (ds.map some++zC nl none) G).ret else .bad:=id rfl
end
section
variable {n:Nat} {G:DH}
@[simp] theorem ZSa:bel n .non=true:=by simp [DL.bel]
@[simp] theorem bel_bl {b:Bool}:bel n (.bl b)=true:=by simp [DL.bel]
@[simp] theorem ZNy {b:Int}:bel n (.int b)=true:=by simp [DL.bel]
@[simp] theorem ZKd {b:Str}:bel n (.str b)=true:=by simp [DL.bel]
@[simp] theorem ZSS {b:List D}:bel n (.tup b)=bels n b:=by simp [DL.bel]
@[simp] theorem bel_fl {b:List D}:bel n (.fl b)=bels n b:=by simp [DL.bel]
@[simp] theorem ZSd {b:Nat}:bel n (.ref b)=decide (b < n):=by simp [DL.bel]
@[simp] theorem ZST:bels n []=true:=by simp [DL.bels]
@[simp] theorem ZMV:bels n (d::ds)=(bel n d && bels n ds):=by simp [DL.bels]
theorem ZPC:bels n ds=true↔∀d∈ds,bel n d=true:=by
 induction ds with
 | nil=>simp
 | cons d ds ih=>simp [ih]
theorem Ft {f:α->D} {xs:List α} (h:∀x∈xs,bel n (f x)=true):bels n (xs.map f)=true:=by rw [ZPC];intro d hd;obtain ⟨x,hx,rfl⟩:=zF.mp hd;exact h x hx
@[simp] theorem Gp {xs:List Int}:bels n (xs.map D.int)=true:=Ft λ_ _=>ZNy
@[simp] theorem Ks {xs:List Str}:bels n (xs.map D.str)=true:=Ft λ_ _=>ZKd
theorem Cy (h:bel G.length d=true):tidy G (.ok d G)=.ok d G:=by unfold tidy;simp [h]
theorem Xr (h:bel G.length d=true):tidy G (.ok d (G++L))=.ok d G:=by unfold tidy;simp [h]
theorem Vq (L:DH) (hk:L[k]? =some (.lst ds)) (h:bels G.length ds=true):tidy G (.ok (.ref (G.length + k)) (G++L))=.ok (.ref G.length) (G++ [.lst ds]):=by
 unfold tidy;have e:(G++L)[G.length + k]? =some (.lst ds):=by rw [zH (by lia)];simpa using hk
 simp [e,Od,h]
theorem Fe (h:bels G.length ds=true):tidy G (.ok (.ref G.length) (G++ .lst ds::L))=.ok (.ref G.length) (G++ [.lst ds]):=Vq (.lst ds::L) (k:=0) rfl h
theorem ZBh (h:bel G.length d=true):freeze G (.ok d G)=.ok d G:=by unfold freeze;simp [h,Ga]
theorem ZBT {n:Nat} :∀{ds:List D},bels n ds=true->Kl (Ga G' n (k + 1)) ds=some ds
 | [],_=>rfl
 | d::ds,h=>by simp only [ZMV,zA] at h;unfold Kl;rw [ZBT h.2];simp [Ga,h.1]
theorem ZNq (L:DH) (hk:L[k]? =some (.lst ds)) (h:bels G.length ds=true):freeze G (.ok (.ref (G.length + k)) (G++L))=.ok (.fl ds) G:=by
 unfold freeze;have e:(G++L)[G.length + k]? =some (.lst ds):=by rw [zH (by lia)];simpa using hk
 have m:Ga (G++L) G.length 9 (.ref (G.length + k))=some (.fl ds):=by unfold Ga;simp [e,ZBT h]
 simp [m]
theorem Do (h:bels G.length ds=true):freeze G (.ok (.ref G.length) (G++ .lst ds::L))=.ok (.fl ds) G:=ZNq (.lst ds::L) (k:=0) rfl h
theorem Vy (L:DH) (k:Nat):(G++L)[G.length + k]? =L[k]? :=by rw [zH (by lia)];simp
theorem Dr (L:DH):(G++L)[G.length]? =L[0]? :=Vy L 0
theorem ZCt (L:DH) (k:Nat) (o:DO):(G++L).set (G.length + k) o=G++L.set k o:=by rw [jO _ _ (by lia)];simp
theorem Fg (L:DH) (o:DO):(G++L).set G.length o=G++L.set 0 o:=ZCt L 0 o
theorem M5 {lo:Int}:Dc lo 0= []:=id rfl
theorem Ku {lo:Int} {n:Nat}:Dc lo (n + 1)=.int lo::Dc (lo + 1) n:=by
 unfold Dc;rw [qO,zW,zS]
 congr 1
 ·simp
 ·apply qJ;intro k _;simp only [Function.comp]
  congr 1
  lia
end
section
variable {G:DH} {i j:Int} {x y:Str} {k l:Bool}
@[simp] theorem ev_add:Av (.int i) (.int j) G=.ok (.int (i + j)) G:=id rfl
@[simp] theorem O7:Av (.str x) (.str y) G=if x.length + y.length<=1000000 then .ok (.str (x++y)) G else .bad:=id rfl
@[simp] theorem Rk {ys:List D}:Av (.tup xs) (.tup ys) G=if xs≠ []/\xs.length + ys.length<=1000000 then .ok (.tup (xs++ys)) G else .bad:=id rfl
@[simp] theorem ev_ip:Mg (.int i) (.int j) G=.ok (.int (i + j)) G:=id rfl
@[simp] theorem ev_sub:Ho (.int i) (.int j) G=.ok (.int (i - j)) G:=id rfl
theorem log2_small {n:Nat} (h:n < 10 ^ 100):n.log2 < 9000:=by
 by_cases hn:n=0
 ·subst hn;decide
 ·rw [Nat.log2_lt hn];exact Nat.lt_trans h (by decide)
@[simp] theorem ZSb {n:Nat} [NeZero n] (h:n < 10 ^ 100):Gb (.int i) (.int (no_index (OfNat.ofNat n))) G=.ok (.int (i / OfNat.ofNat n)) G:=
 if_pos ⟨Int.ofNat_lt.mpr (Nat.pos_of_ne_zero (NeZero.ne n)),log2_small h⟩
@[simp] theorem ev_mod:Bm (.int i) (.int j) G=if 0 < j then .ok (.int (i % j)) G else .bad:=id rfl
@[simp] theorem ev_pow:Jo (.int i) (.int j) G=if 0<=j/\j<=1000000/\i.natAbs < 18446744073709551616 then .ok (.int (i ^ j.toNat)) G else .bad:=id rfl
@[simp] theorem ev_lt:V5 (.int i) (.int j) G=.ok (.bl (decide (i < j))) G:=id rfl
@[simp] theorem ev_le:ZBi (.int i) (.int j) G=.ok (.bl (decide (i<=j))) G:=id rfl
@[simp] theorem ev_gt:Jf (.int i) (.int j) G=.ok (.bl (decide (j < i))) G:=id rfl
@[simp] theorem ev_ge:ZAo (.int i) (.int j) G=.ok (.bl (decide (j<=i))) G:=id rfl
@[simp] theorem ev_eq:Cv (.int i) (.int j) G=.ok (.bl (decide (i=j))) G:=id rfl
@[simp] theorem ev_ne:Ge (.int i) (.int j) G=.ok (.bl (!decide (i=j))) G:=id rfl
@[simp] theorem ev_eqS:Cv (.str x) (.str y) G=.ok (.bl (decide (x=y))) G:=id rfl
@[simp] theorem ev_neS:Ge (.str x) (.str y) G=.ok (.bl (!decide (x=y))) G:=id rfl
@[simp] theorem ev_neg:Ss (.int i) G=.ok (.int (-i)) G:=id rfl
@[simp] theorem ev_is:X7 d .non G=.ok (.bl (Mh d)) G:=by cases d <;> exact id rfl
@[simp] theorem ZSY:O6 d .non G=.ok (.bl (!Mh d)) G:=by cases d <;> exact id rfl
@[simp] theorem ZSe:Mh .non=true:=id rfl
@[simp] theorem ZSr:Mh (.int i)=false:=id rfl
@[simp] theorem ZSV:Mh (.tup ds)=false:=id rfl
@[simp] theorem ev_max:Ut [.int i,.int j] G=.ok (.int (max i j)) G:=by
 show R.ok (D.int (if j > i then j else i)) G=_
 congr 2
 split <;> lia
@[simp] theorem ev_min:Oj [.int i,.int j] G=.ok (.int (min i j)) G:=by
 show R.ok (D.int (if j < i then j else i)) G=_
 congr 2
 split <;> lia
@[simp] theorem ZTH:V0 [.bl k] G=.ok (.int (if k then 1 else 0)) G:=id rfl
@[simp] theorem ZSt:Bu (.tup ds) G=some ds:=id rfl
@[simp] theorem ZSR:Bu (.fl ds) G=some ds:=id rfl
@[simp] theorem ZFx {n:Nat}:Bu (.ref n) G=(match G[n]? with | some (.lst xs)=>some xs | _=>none):=id rfl
@[simp] theorem ZSq:Gr [.tup ds] G=.ok (.int ds.length) G:=id rfl
@[simp] theorem ZS9:Gr [.fl ds] G=.ok (.int ds.length) G:=id rfl
@[simp] theorem ev_ixT:Ah (.tup ds) (.int i) G=(match atI ds i with | some v=>.ok v G | none=>.bad):=id rfl
@[simp] theorem ev_ixF:Ah (.fl ds) (.int i) G=(match atI ds i with | some v=>.ok v G | none=>.bad):=id rfl
@[simp] theorem ev_ixR {n:Nat}:Ah (.ref n) (.int i) G=(match G[n]? with | some (.lst xs)=>(match atI xs i with | some v=>.ok v G | none=>.bad) | _=>.bad):=by
 unfold Ah;simp only [ZFx];cases G[n]? with
 | none=>rfl
 | some o=>cases o <;> rfl
theorem Js {n k:Nat} (h:k < n):ixN n (k:Int)=some k:=by unfold ixN;rw [if_pos (by lia),if_pos (by lia)];simp
theorem ZQG {xs:List α} {k:Nat} {d:α} (h:xs[k]? =some d):atI xs (k:Int)=some d:=by unfold atI;rw [Js (zE.mp h).1];exact h
theorem Gg {xs:List α} {j:Int} {k:Nat} {d:α} (e:j=k) (h:xs[k]? =some d):atI xs j=some d:=by subst e;exact ZQG h
theorem ZPu {xs:List α} {j:Int} (h0:j < 0) (h: -(xs.length:Int)<=j):atI xs j=some (xs[(j + xs.length).toNat]'(by lia)):=by unfold atI ixN;rw [if_neg (by lia),if_pos h];exact zQ (by lia)
@[simp] theorem atI_0 {a:α} {xs:List α}:atI (a::xs) 0=some a:=Gg (k:=0) rfl rfl
@[simp] theorem atI_1 {a b:α} {xs:List α}:atI (a::b::xs) 1=some b:=Gg (k:=1) rfl rfl
@[simp] theorem atI_2 {a b c:α} {xs:List α}:atI (a::b::c::xs) 2=some c:=Gg (k:=2) rfl rfl
@[simp] theorem atI_3 {a b c d:α} {xs:List α}:atI (a::b::c::d::xs) 3=some d:=Gg (k:=3) rfl rfl
@[simp] theorem atI_4 {a b c d e:α} {xs:List α}:atI (a::b::c::d::e::xs) 4=some e:=Gg (k:=4) rfl rfl
@[simp] theorem atI_5 {a b c d e f:α} {xs:List α}:atI (a::b::c::d::e::f::xs) 5=some f:=Gg (k:=5) rfl rfl
@[simp] theorem atI_6 {a b c d e f g:α} {xs:List α}:atI (a::b::c::d::e::f::g::xs) 6=some g:=Gg (k:=6) rfl rfl
@[simp] theorem ZSo:Cg ds G=if ds.length<=1000000 then .ok (.tup ds) G else .bad:=id rfl
@[simp] theorem ZS7:Be ds G=if ds.length<=1000000 then .ok (.ref G.length) (G++ [.lst ds]) else .bad:=id rfl
@[simp] theorem ZSf:Ha [.fl ds] G=.ok (.tup ds) G:=id rfl
@[simp] theorem ZTE {n:Nat}:Ha [.ref n] G=(match G[n]? with | some (.lst xs)=>.ok (.tup xs) G | _=>.bad):=by
 unfold Ha;simp only [ZFx];cases G[n]? with
 | none=>rfl
 | some o=>cases o <;> rfl
@[simp] theorem ev_itT:G8 (.tup ds) G=.ok (.pure ds) G:=id rfl
@[simp] theorem ev_itF:G8 (.fl ds) G=.ok (.pure ds) G:=id rfl
@[simp] theorem ZSN:rng1 [.int j] G=if inR j then .ok (.pure (Dc 0 j.toNat)) G else .bad:=id rfl
@[simp] theorem ZSu:rng2 [.int i,.int j] G=if inR i/\inR j then .ok (.pure (Dc i (j - i).toNat)) G else .bad:=id rfl
theorem Gz (h0: -1000000000<=i) (h:i<=1000000000):inR i:=⟨by lia,by lia⟩
@[simp] theorem ZTA:isL (.fl ds) G=true:=id rfl
@[simp] theorem ZS1 {n:Nat}:isL (.ref n) G=(match G[n]? with | some (.lst _)=>true | _=>false):=id rfl
@[simp] theorem ev_app {n:Nat} :H8 (.ref n) [d] G=(match G[n]? with | some (.lst xs)=>if xs.length < 1000000 then .ok .non (G.set n (.lst (xs++ [d]))) else .bad | _=>.bad):=id rfl
@[simp] theorem ZSs {n:Nat} :Mx (.ref n) (.int i) d G=(match G[n]? with | some (.lst xs)=>(match ixN xs.length i with | some j=>.ok .non (G.set n (.lst (xs.set j d))) | none=>.bad) | _=>.bad):=id rfl
@[simp] theorem La {ks:List Int}:Dj [.fl (ks.map D.int)] G=.ok (.int ks.sum) G:=by simp [Dj]
@[simp] theorem ZKV {ks:List Int}:Dj [.tup (ks.map D.int)] G=.ok (.int ks.sum) G:=by simp [Dj]
@[simp] theorem ZSy:Jr [d,.ty "int"] G=(match tyD G d with | some .int=>.ok (.bl true) G | some .bl=>.ok (.bl true) G | some _=>.ok (.bl false) G | none=>.bad):=by
 unfold Jr;dsimp only;cases tyD G d with
 | none=>rfl
 | some t=>cases t <;> rfl
@[simp] theorem ZSp:Jr [d,.ty "bool"] G=(match tyD G d with | some .bl=>.ok (.bl true) G | some _=>.ok (.bl false) G | none=>.bad):=by
 unfold Jr;dsimp only;cases tyD G d with
 | none=>rfl
 | some t=>cases t <;> rfl
@[simp] theorem ZSl:Jr [d,.ty "tuple"] G=(match tyD G d with | some .tup=>.ok (.bl true) G | some _=>.ok (.bl false) G | none=>.bad):=by
 unfold Jr;dsimp only;cases tyD G d with
 | none=>rfl
 | some t=>cases t <;> rfl
@[simp] theorem ZSv:tyD G (.int i)=some .int:=id rfl
@[simp] theorem ZSM:tyD G (.tup ds)=some .tup:=id rfl
end
section
variable {c:Prop} [Decidable c]
@[simp] theorem ite_ok {a b:α} :(if c then R.ok a G else R.ok b G)=R.ok (if c then a else b) G:=by split <;> rfl
theorem ZM3 {S':DSt} :(if c then SR.nx S G else SR.nx S' G')=SR.nx (if c then S else S') (if c then G else G'):=by split <;> rfl
theorem ZMq {a b:α} {l m:List α}:(if c then a::l else b::m)=(if c then a else b)::(if c then l else m):=by split <;> rfl
theorem ZQU {a b:α}:(if c then some a else some b)=some (if c then a else b):=by split <;> rfl
theorem ite_int {a b:Int}:(if c then D.int a else D.int b)=D.int (if c then a else b):=by split <;> rfl
end
noncomputable def Gs:D->Option Key
 | .int i=>some (.inl i)
 | .str x=>some (.inr x)
 | _=>none
section
variable {X:Cx} {E:XK}
end
section
variable {S:DSt} {G:DH} {n:Nat} {kvs:List (Key×D)}
end
section
noncomputable def okD:Nat->D->Bool
 | 0,_=>false
 | _ + 1,.non=>true
 | _ + 1,.int _=>true
 | _ + 1,.str _=>true
 | n + 1,.tup ds=>ds.all (okD n)
 | n + 1,.fl ds=>ds.all (okD n)
 | _ + 1,_=>false
theorem ZDM {f:D->D->Option Bool} {P:D->Prop} (hf:∀x y,P x->P y->∃b,f x y=some b/\(b=true↔x=y)):∀{xs ys:List D},(∀x∈xs,P x)->(∀y∈ys,P y)->
  ∃b,eqZ f xs ys=some b/\(b=true↔xs.take ys.length=ys.take xs.length)
 | [],ys,_,_=>⟨true,by cases ys <;> rfl,by simp⟩
 | x::xs,[],_,_=>⟨true,rfl,by simp⟩
 | x::xs,y::ys,hx,hy=>by obtain ⟨b,e1,h1⟩:=hf x y (hx x (by simp)) (hy y (by simp));obtain ⟨c,e2,h2⟩:=ZDM hf (λz hz=>hx z (zZ _ hz)) (λz hz=>hy z (zZ _ hz));refine ⟨b && c,by simp [eqZ,e1,e2],?_⟩;simp [h1,h2]
theorem ZAq {G:DH}:∀(n:Nat) (d e:D),okD n d=true->okD n e=true->∃b,eqD n G d e=some b/\(b=true↔d=e)
 | 0,d,e,h,_=>by cases h
 | n + 1,d,e,h1,h2=>by
  have ih:=ZAq (G:=G) n;cases d with
  | bl _=>simp [okD] at h1
  | ty _=>simp [okD] at h1
  | ref _=>simp [okD] at h1
  | tup xs=>
   cases e with
   | bl _=>simp [okD] at h2
   | ty _=>simp [okD] at h2
   | ref _=>simp [okD] at h2
   | tup ys=>
    simp only [okD,qj] at h1 h2;obtain ⟨b,e1,h3⟩:=ZDM ih (λx hx=>h1 x hx) (λx hx=>h2 x hx);refine ⟨b && xs.length == ys.length,by simp [eqD,view,e1],?_⟩;simp only [zA,h3,beq_iff_eq,D.tup.injEq];constructor
    ·rintro ⟨e,hl⟩;rw [<-hl,jA] at e;rw [e,hl,jA]
    ·rintro rfl;exact ⟨rfl,rfl⟩
   | _=>exact ⟨false,by simp [eqD,view],by simp⟩
  | fl xs=>
   cases e with
   | bl _=>simp [okD] at h2
   | ty _=>simp [okD] at h2
   | ref _=>simp [okD] at h2
   | fl ys=>
    simp only [okD,qj] at h1 h2;by_cases hl:xs.length=ys.length
    ·obtain ⟨b,e1,h3⟩:=ZDM ih (λx hx=>h1 x hx) (λx hx=>h2 x hx);refine ⟨b,by simp [eqD,view,hl,e1],?_⟩;rw [h3,<-hl,jA,hl,jA];simp
    ·exact ⟨false,by simp [eqD,view,hl],by simp;rintro rfl;exact hl rfl⟩
   | _=>exact ⟨false,by simp [eqD,view],by simp⟩
  | non=>cases e <;> first | (simp [okD] at h2;done) | exact ⟨_,rfl,by simp [eqV]⟩
  | int i=>cases e <;> first | (simp [okD] at h2;done) | exact ⟨_,rfl,by simp [eqV]⟩
  | str i=>cases e <;> first | (simp [okD] at h2;done) | exact ⟨_,rfl,by simp [eqV]⟩
open Classical in
theorem ZEs {e:D} (h1:okD 30 d=true) (h2:okD 30 e=true):Cv d e G=.ok (.bl (decide (d=e))) G:=by
 obtain ⟨b,e1,h⟩:=ZAq (G:=G) 30 d e h1 h2;unfold Cv;rw [e1];cases b with
 | true=>simp [h.mp rfl]
 | false=>simp [show¬d=e from λz=>zy (h.mpr z)]
open Classical in
theorem ZMr {e:D} (h1:okD 30 d=true) (h2:okD 30 e=true):Ge d e G=.ok (.bl (!decide (d=e))) G:=by
 obtain ⟨b,e1,h⟩:=ZAq (G:=G) 30 d e h1 h2;unfold Ge;rw [e1];cases b with
 | true=>simp [h.mp rfl]
 | false=>simp [show¬d=e from λz=>zy (h.mpr z)]
theorem ZIb (h1:okD 30 d=true):Ge d d G=.ok (.bl false) G:=by rw [ZMr h1 h1];simp
theorem ZJu {n:Nat} (h:∀d∈ds,okD n d=true):okD (n + 1) (.tup ds)=true:=by simpa [okD] using h
theorem ZKe {n:Nat} (h:∀d∈ds,okD n d=true):okD (n + 1) (.fl ds)=true:=by simpa [okD] using h
end
noncomputable def cutD {α:Type} (xs:List α) (lo hi:Option Int):List α:=(xs.drop (HT.sIx xs.length 0 lo)).take (HT.sIx xs.length xs.length hi - HT.sIx xs.length 0 lo)
def Q9 (z:Str) (lo hi:Option Int):Str:=⟨(cutD z.cps.toList lo hi).toArray⟩
theorem ZAF (xs:List α) (lo hi:Option Int):(cutD xs lo hi).length<=xs.length:=by unfold cutD;rw [j0,j1];lia
noncomputable def My (t:Option DE) (S:DSt) (G:DH):R (Option Int):=match t with
 | none=>.ok none G
 | some t=>(t S G).bind λd G1=>match d with
  | .int i=>.ok (some i) G1
  | _=>.bad
noncomputable def K9 (d:D) (lo hi:Option Int) (G:DH):R D:=match d with
 | .str z=>if z.length<=1000000 then .ok (.str (Q9 z lo hi)) G else .bad
 | .tup xs=>.ok (.tup (cutD xs lo hi)) G
 | d=>match Hq d G with
  | some xs=>.ok (.ref G.length) (G++ [.lst (cutD xs lo hi)])
  | none=>.bad
noncomputable def dSl (e:DE) (lo hi:Option DE):DE:=λS G=>(e S G).bind λd G1=>(My lo S G1).bind λl G2=>(My hi S G2).bind λh G3=>K9 d l h G3
theorem Mp (n:Nat) (v:Int):((HT.sIx n n (some v):Nat):Int)=max 0 (min (if v < 0 then v + (n:Int) else v) n)/\((HT.sIx n 0 (some v):Nat):Int)=max 0 (min (if v < 0 then v + (n:Int) else v) n):=by
 unfold HT.sIx;by_cases hv:v < 0
 ·simp only [if_pos hv];lia
 ·simp only [if_neg hv];lia
theorem ZOm (xs:Array Nat) (i k:Nat):(zX k).filterMap (λm=>xs[i + m]?)=(xs.toList.drop i).take k:=by
 induction k generalizing i with
 | zero=>simp
 | succ k ih=>
  rw [qO,qz];have e:(List.map Nat.succ (zX k)).filterMap (λm=>xs[i + m]?)=(zX k).filterMap (λm=>xs[i + 1 + m]?):=by
   rw [qZ]
   congr 1
   funext m;simp only [Function.comp]
   congr 1
   lia
  rw [e,ih (i + 1)];by_cases hi:i < xs.size
  ·have h1:xs[i + 0]? =some xs[i]:=by simp [hi]
   rw [h1];have h2:xs.toList.drop i=xs[i]::xs.toList.drop (i + 1):=by rw [zN (by simpa using hi)];simp
   rw [h2];simp
  ·have h1:xs[i + 0]? =none:=by simp;lia
   rw [h1];simp only;rw [zR (by simp;lia),zR (by simp;lia)];simp
theorem ZQO (x:Str) (lo hi:Option Int):Txt.slice x lo hi=Q9 x lo hi:=by
 have hlen:x.length=x.cps.toList.length:=by simp [Str.length]
 have key:(Builtin.Str.strSliceIndices lo hi 1 x.length).filterMap (x.cps[·]?)=cutD x.cps.toList lo hi:=by
  have e1:∀(v:Option Int),(match v with | none=>(0:Int) | some i=>max 0 (min (if i < 0 then i + (x.length:Int) else i) x.length))=((HT.sIx x.length 0 v:Nat):Int):=λv=>by
   cases v with
   | none=>rfl
   | some i=>exact (Mp x.length i).2.symm
  have e2:∀(v:Option Int),(match v with | none=>(x.length:Int) | some i=>max 0 (min (if i < 0 then i + (x.length:Int) else i) x.length))=((HT.sIx x.length x.length v:Nat):Int):=λv=>by
   cases v with
   | none=>rfl
   | some i=>exact (Mp x.length i).1.symm
  have e3:Builtin.Str.strSliceIndices lo hi 1 x.length=sliceRange ((HT.sIx x.length 0 lo:Nat):Int) ((HT.sIx x.length x.length hi:Nat):Int) 1:=by
   rw [<-e1 lo,<-e2 hi];unfold Builtin.Str.strSliceIndices
   cases lo <;> cases hi <;> simp
  rw [e3];unfold sliceRange cutD;rw [qZ,<-hlen];generalize HT.sIx x.length 0 lo=i;generalize HT.sIx x.length x.length hi=j;have e4:((λa=>x.cps[a]?) ∘ λ(k:Nat)=>((i:Int) + 1 * (k:Int)).toNat)=λk=>x.cps[i + k]? :=by
   funext k;simp only [Function.comp]
   congr 1
   lia
  have e5:(if (1:Int) > 0 then if (i:Int) < (j:Int) then ((j:Int) - i + 1 - 1) / 1 else 0 else if (i:Int) > (j:Int) then ((i:Int) - j - 1 - 1) / -1 else 0).toNat=j - i:=by
   rw [if_pos (by lia)];split
   ·rw [Int.ediv_one];lia
   ·lia
  rw [e4,e5];exact ZOm x.cps i (j - i)
 unfold Txt.slice Q9;split
 ·rename_i h;have h':(Builtin.Str.strSliceIndices lo hi 1 x.length).length=x.length:=by simpa using h
  have hsz:(cutD x.cps.toList lo hi).length=x.cps.toList.length∨(cutD x.cps.toList lo hi).length < x.cps.toList.length:=by have:=ZAF x.cps.toList lo hi;lia
  have hall:(cutD x.cps.toList lo hi).length=x.cps.toList.length:=by
   have e3:(Builtin.Str.strSliceIndices lo hi 1 x.length).length=HT.sIx x.length x.length hi - HT.sIx x.length 0 lo:=by
    have e1:∀(v:Option Int),(match v with | none=>(0:Int) | some i=>max 0 (min (if i < 0 then i + (x.length:Int) else i) x.length))=((HT.sIx x.length 0 v:Nat):Int):=λv=>by
     cases v with
     | none=>rfl
     | some i=>exact (Mp x.length i).2.symm
    have e2:∀(v:Option Int),(match v with | none=>(x.length:Int) | some i=>max 0 (min (if i < 0 then i + (x.length:Int) else i) x.length))=((HT.sIx x.length x.length v:Nat):Int):=λv=>by
     cases v with
     | none=>rfl
     | some i=>exact (Mp x.length i).1.symm
    have e3:Builtin.Str.strSliceIndices lo hi 1 x.length=sliceRange ((HT.sIx x.length 0 lo:Nat):Int) ((HT.sIx x.length x.length hi:Nat):Int) 1:=by
     rw [<-e1 lo,<-e2 hi];unfold Builtin.Str.strSliceIndices
     cases lo <;> cases hi <;> simp
    rw [e3];unfold sliceRange;rw [zG,jH];generalize HT.sIx x.length 0 lo=i;generalize HT.sIx x.length x.length hi=j;rw [if_pos (by lia)];split
    ·rw [Int.ediv_one];lia
    ·lia
   have hj:HT.sIx x.length x.length hi<=x.length:=HT.ZHN _ _ (zK _) hi;unfold cutD;rw [j0,j1,<-hlen];lia
  have hs:(cutD x.cps.toList lo hi).Sublist x.cps.toList:=(List.take_sublist _ _).trans (List.drop_sublist _ _);rw [hs.eq_of_length hall]
 ·rw [key]
section
variable {X:Cx} {E:XK}
theorem Lr:SlR X (λx lo hi H Q=>∃z:Str,x=.str z/\z.length<=sizeLine/\Q (.str (Q9 z lo hi)) H):=by
 intro vG s σ H x v vl vu lo hi sl Q I rx hs pl pu h;obtain ⟨z,rfl,hz,q⟩:=h;obtain ⟨t,rfl⟩:=rx;refine ⟨"str",_,PySem.F.slot_str_getitem.lookup,typeIs_str _ _ _,?_⟩
 have fin:∀(l u:Option (Int×Tok)),vl=partValue l->vu=partValue u->l.map (·.1)=lo->u.map (·.1)=hi->vj (vV X.prog X.w) X.A (getItem (.str z t) (.ref sl)) (EP X vG σ Q) X.xe s:=by
  rintro l u rfl rfl rfl rfl
  refine wpAny_getItem_str_slice (l:=l) (u:=u) (st:=none) (show s.heap.IsSlice sl l u none from hs) rfl ?_
  have e:∀Q',(Txt.slice z (l.map (·.1)) (u.map (·.1))).length<=sizeLine/\(∀t' k,Q' (.str (Txt.slice z (l.map (·.1)) (u.map (·.1))) t') {s with toks:=k})->(sliceMade z t l u none).post Q' s:=λQ' hq=>post_val_or_str hq
  refine e _ ⟨zB (Txt.slice_le z _ _) hz,λt' k=> ?_⟩;rw [ZQO];exact ⟨.str _,H,I.tok k,⟨t',rfl⟩,q⟩
 cases pl with
 | none=>cases pu with
  | none=>exact fin none none rfl rfl rfl rfl
  | int j tj=>exact fin none (some (j,tj)) rfl rfl rfl rfl
 | int i ti=>cases pu with
  | none=>exact fin (some (i,ti)) none rfl rfl rfl rfl
  | int j tj=>exact fin (some (i,ti)) (some (j,tj)) rfl rfl rfl rfl
theorem ZLH {prog:xj} {E:x9->xk->Prop} {t sl:xW} {items:Array x9} {vl vu:x9} {lo:Option Int} {Q:x9->xk->Prop} (ht:IsTup s.heap t items) (hs:s.heap.IsSliceOf sl vl vu .none) (pl:IsPart vl lo) (pu:IsPart vu hi)
  (hw:HT.sIx items.size 0 lo=0/\HT.sIx items.size items.size hi=items.size) (h:Q (.ref t) s):vj (vV prog w) A (getItem (.ref t) (.ref sl)) Q E s:=by
 obtain ⟨os,hos,hcs,hds⟩:=id hs;have hTs:s.TypeIs (.ref sl) "slice":=⟨os,hos,hcs⟩;unfold getItem
 try with_reducible refine v6 ?_
 first | refine vv (vA ?_) | skip
 refine vv (wpAny_sequenceKey ht.typeIs (by decide) ?_);refine vv (vk (name:=Str.ofString "__getitem__") ht.typeIs PyProof.Rows.slot_tuple_getitem
  (v4 PyProof.Rows.slot_tuple_getitem ht.typeIs entry_tuple_getitem ?_ (args_tuple_getitem _ _)))
 show vj _ _ (Builtin.Tuple.tupleItemsOf (.ref t) >>=_) _ _ s;refine vv (tupleItemsOf_ ht ?_);refine vv (wpAny_typeOf hTs ?_);rw [if_pos (by decide)];refine vv (HT.ZGf hs pl pu ?_);have hyes:(((HT.sIx items.size 0 lo:Nat):Int) == 0 && (1:Int) == 1 && (HT.sIx items.size items.size hi - HT.sIx items.size 0 lo) == items.size)=true:=by rw [hw.1,hw.2];simp
 show vj _ _ (if (((HT.sIx items.size 0 lo:Nat):Int) == 0 && (1:Int) == 1 && (HT.sIx items.size items.size hi - HT.sIx items.size 0 lo) == items.size)=true then _ else _) _ _ s;rw [if_pos hyes];refine vv ?_;unfold Builtin.Tuple.tupleIsExact;refine vv (wpAny_typeOf ht.typeIs (vA ?_));rw [if_pos (by decide)];exact vv (wpAny_rule (vA ⟨_,rfl,vA h⟩))
theorem ZRS:SlR X (λx lo hi H Q=>∃a xs,x=.ref a/\SqT X.K H a xs/\(HT.sIx xs.length 0 lo=0/\HT.sIx xs.length xs.length hi=xs.length)/\Q (.ref a) H):=by
 intro vG s σ H x v vl vu lo hi sl Q I rx hs pl pu h;obtain ⟨a,xs,rfl,hx,hw,q⟩:=h;cases rx;obtain ⟨its,r,ht,hz⟩:=I.tuple hx;have hlen:its.toArray.size=xs.length:=by rw [zY];exact r.length.symm
 exact ⟨"tuple",_,PyProof.Rows.slot_tuple_getitem.lookup,ht.typeIs,ZLH ht hs pl pu (by rw [hlen];exact hw) ⟨.ref a,H,I,rfl,q⟩⟩
noncomputable def Pb (E:XK) (a:Wd) (r:R (Option Int)) (Q:Option Int->Hp->Prop):Prop:=match r with
 | .ok k G=>∀(b:Wd),Ext a b->Sim b G->Q k b.H
 | .err x G=>XOk E a x G
 | .bad=>False
noncomputable def QO (X:Cx) (E:XK) (e:Option xY) (t:Option DE):Prop:=PO X e (λσ H Q=>∃(a:Wd) (S:DSt) (G:DH),a.K=X.K/\a.H=H/\Sim a G/\RepS a S σ/\Pb E a (My t S G) Q)
theorem _root_.L2.PO.mono {e:Option xY} {t t':TO} (h:PO X e t) (w:∀σ H Q,t' σ H Q->t σ H Q):PO X e t':=λvG s σ H Q I q=>h vG s σ H Q I (w σ H Q q)
theorem Ih:QO X E none none:=ZRq.mono λσ H Q h=>by obtain ⟨a,S,G,hk,rfl,s,r,h⟩:=h;exact h a (Ext.refl a) s
theorem Dy (he:QE X E e t):QO X E (some e) (some t):=(ZLg he).mono λσ H Q h=>by
 obtain ⟨a,S,G,hk,rfl,s,r,h⟩:=h;refine ⟨a,S,G,hk,rfl,s,r,?_⟩
 have h':Pb E a ((t S G).bind λd G1=>match d with | .int i=>.ok (some i) G1 | _=>.bad) Q:=h
 cases ht:t S G with
 | ok d G1=>
  rw [ht] at h';intro b v x sb rv;cases d with
  | int i=>exact ⟨i,rv,h' b x sb⟩
  | _=>exact h'.elim
 | err x G1=>rw [ht] at h';exact h'
 | bad=>rw [ht] at h';exact h'
theorem Reps.cutD (r:Reps a ds vs) (lo hi:Option Int):Reps a (DL.cutD ds lo hi) (M4 vs lo hi):=by unfold DL.cutD M4;rw [r.length];exact (r.drop _).take _
theorem Pb.imp {r:R (Option Int)} {Q Q':Option Int->Hp->Prop} (h:Pb E a r Q) (w:∀v H,Q v H->Q' v H):Pb E a r Q':=by
 cases r with
 | ok d G=>exact λb x s=>w _ _ (h b x s)
 | err e G=>exact h
 | bad=>exact h
theorem ZFi {r:R (Option Int)} {f:Option Int->DH->R D} (h:out E a (r.bind f) Q):
  Pb E a r (λk H=>∃(b:Wd) (G:DH),b.H=H/\Ext a b/\Sim b G/\r=.ok k G/\out E b (f k G) Q):=by
 cases r with
 | ok d G=>exact λb x s=>⟨b,G,rfl,x,s,rfl,out.mono x h⟩
 | err e G=>exact h
 | bad=>exact h
theorem Fl {lo hi:Option xY} {tl th:Option DE} {p2 pos:Pos} (he:QE X E e te) (hl:QO X E lo tl) (hu:QO X E hi th):QE X E (.Subscript e (.Slice lo hi none p2) pos) (dSl te tl th):=
 (ZNZ (ZMY.or (ZPi.or (ZRS.or Lr))) he hl hu).mono λσ H Q h=>by
 obtain ⟨a,S,G,hk,rfl,s,r,h⟩:=h;refine ⟨a,S,G,hk,rfl,s,r,(Ig h).imp ?_⟩;rintro v _ ⟨b,d,G1,rfl,x,s1,q,_,h1⟩;refine ⟨b,S,G1,x.k.trans hk,rfl,s1,r.mono x,(ZFi h1).imp ?_⟩;rintro l _ ⟨c,G2,rfl,y,s2,_,h2⟩;refine ⟨c,S,G2,y.k.trans (x.k.trans hk),rfl,s2,(r.mono x).mono y,(ZFi h2).imp ?_⟩;rintro u _ ⟨c3,G3,rfl,y3,s3,_,h3⟩;have hk3:=y3.k.trans (y.k.trans (x.k.trans hk));have q3:=(q.mono y).mono y3
 have lst:out E c3 (match Hq d G3 with | some xs=>.ok (.ref G3.length) (G3++ [.lst (cutD xs l u)]) | none=>.bad) Q->rSlL X.K v l u c3.H Q:=λh3=>by
  split at h3
  ·rename_i xs hx;obtain ⟨p,vs,e1,q1,r1⟩:=Uc s3 q3 hx;exact ⟨p,vs,e1,by rw [<-hk3];exact q1,λp hp=>M9 s3 (Reps.cutD r1 l u) h3 p hp⟩
  ·exact h3.elim
 cases d with
 | str z=>
  have h4:out E c3 (if z.length<=1000000 then .ok (.str (Q9 z l u)) G3 else .bad) Q:=h3;split at h4
  ·rename_i hl
   cases (show v=V.str z from q3)
   exact .inr (.inr (.inr ⟨z,rfl,zB hl size6,h4 c3 _ (Ext.refl _) s3 rfl⟩))
  ·exact h4.elim
 | tup xs=>
  have h4:out E c3 (.ok (.tup (cutD xs l u)) G3) Q:=h3;obtain ⟨p,vs,e1,q1,r1⟩:=q3;by_cases hw:HT.sIx vs.length 0 l=0/\HT.sIx vs.length vs.length u=vs.length
  ·refine .inr (.inr (.inl ⟨p,vs,e1,by rw [<-hk3];exact q1,hw,h4 c3 _ (Ext.refl _) s3 ⟨p,vs,rfl,q1,?_⟩⟩));have:cutD xs l u=xs:=by unfold cutD;rw [r1.length,hw.1,hw.2,<-r1.length];simp
   rw [this];exact r1
  ·exact .inr (.inl ⟨p,vs,e1,by rw [<-hk3];exact q1,hw,λp hp=>ZAz s3 (Reps.cutD r1 l u) h4 p hp⟩)
 | fl xs=>exact .inl (lst h3)
 | ref i=>exact .inl (lst h3)
 | non=>exact (show False from h3).elim
 | bl _=>exact (show False from h3).elim
 | int _=>exact (show False from h3).elim
 | ty _=>exact (show False from h3).elim
def isS:D->Bool
 | .str _=>true
 | _=>false
noncomputable def Z0 (f:D->List D->DH->R D) (o:DE) (t:DA):DE:=λS G=>(o S G).bind λx G1=>if isS x=true then (t S G1).bind λxs G2=>f x xs G2 else .bad
section
variable {name:Str} {id:String} {f:D->List D->DH->R D} {o e:xY} {es:List xY} {to:DE} {t:DA} {apos cpos:Pos}
theorem ZGt (slot:Slot "str" name id) (hty:typeOf (.builtin id)=pure (.type "method_descriptor")) (hm:MtM X id (lRm X.K E f)) (ho:QE X E o to) (ha:QA X E (e::es) t)
  (hbase:xC o name X.env (eval o X.env)=eval o X.env:=by rfl)
  (hfew:((xD cpos (vq (e::es) X.env)).all (λx=> !x.1) && (xE cpos (vZ [] X.env)).all (λx=>x.1.isSome)
   && decide ((e::es).length + ([]:List Keyword).length + (if ([]:List Keyword).isEmpty then 0 else 1) < 30))=true:=by rfl)
  (hline:(apos.endLine == cpos.line)=true:=by rfl) (hs:vq (e::es) X.env=(false,eval e X.env)::vq es X.env:=by rfl) (hplain:(xD cpos (vq es X.env)).any (·.1)=false:=by rfl):
  QE X E (.Call (.Attribute o name apos) (e::es) [] cpos) (Z0 f to t):=(ZHQ PySem.F.plainAttrs_str slot hty hm ho ha hbase hfew hline hs hplain).mono λσ H Q h=>by
 obtain ⟨a,S,G,hk,rfl,s,r,h⟩:=h;refine ⟨a,S,G,hk,rfl,s,r,(Ig h).imp ?_⟩;rintro v _ ⟨b,d,G1,rfl,x,s1,q,-,h1⟩;split at h1
 ·rename_i hl;have ty:tyV X.K "str" v b.H:=by
   cases d with
   | str z=>cases (show v=V.str z from q);exact rfl
   | _=>cases hl
  refine ⟨ty,b,S,G1,x.k.trans hk,rfl,s1,r.mono x,(Mr h1).imp ?_⟩;rintro vs _ ⟨c,ds,G2,rfl,y,s2,q2,-,h2⟩;exact ⟨c,G2,d,ds,y.k.trans (x.k.trans hk),rfl,s2,q.mono y,q2,h2⟩
 ·exact h1.elim
end
noncomputable def Q5:List D->Option (List Str)
 | []=>some []
 | .str x::r=>(Q5 r).map (x::·)
 | _=>none
@[simp] theorem ZSX (ns:List Str):Q5 (ns.map D.str)=some ns:=by
 induction ns with
 | nil=>rfl
 | cons n ns ih=>simp [Q5,ih]
theorem ZIC:∀{xs:List D} {ns:List Str},Q5 xs=some ns->xs=ns.map D.str
 | [],ns,h=>by cases h;rfl
 | .str i::r,ns,h=>by
  unfold Q5 at h;rw [zI] at h;obtain ⟨m,e,rfl⟩:=h;rw [ZIC e]
  rfl
 | .non::_,_,h=>by cases h
 | .bl _::_,_,h=>by cases h
 | .int _::_,_,h=>by cases h
 | .ty _::_,_,h=>by cases h
 | .tup _::_,_,h=>by cases h
 | .fl _::_,_,h=>by cases h
 | .ref _::_,_,h=>by cases h
noncomputable def Le (sep:List Nat):List (List Nat)->List Nat
 | []=> []
 | [x]=>x
 | x::y::r=>x++sep++Le sep (y::r)
noncomputable def Ri (o:D) (ds:List D) (G:DH):R D:=match o,ds with
 | .str sep,[d]=>match Bu d G with
  | some xs=>match Q5 xs with
   | some ys=>if (ys.map (·.length)).sum + ys.length * sep.length<=1000000 then .ok (.str (Txt.join sep ys)) G else .bad
   | none=>.bad
  | none=>.bad
 | _,_=>.bad
theorem ZD0:∀{ys:List Str} {us:List x9},Vals (ys.map V.str) us->StrsAre us ys
 | [],us,r=>by cases r;exact .nil
 | y::ys,us,r=>by
  cases r with
  | cons h t=>
   obtain ⟨tk,rfl⟩:=h;exact .cons _ _ (ZD0 t)
theorem ZEk:∀{ys:List Str} {vs:List V},Reps a (ys.map D.str) vs->vs=ys.map V.str
 | [],vs,r=>r
 | y::ys,vs,r=>by
  obtain ⟨v,w,rfl,h1,h2⟩:=r
  cases (show v=V.str y from h1)
  rw [ZEk h2]
  rfl
theorem ZRa:MtM X "str.join" (lRm X.K E Ri):=λvG s σ H x xs v us Q I rx rs h=>by
 obtain ⟨a,G,d,ds,hk,rfl,sm,rd,r,q⟩:=h;unfold Ri at q;split at q
 ·rename_i sep e;obtain ⟨w,rfl,rw'⟩:=reps1 r
  cases (show x=V.str sep from rd)
  obtain ⟨t,rfl⟩:=rx;split at q
  ·rename_i ys hs;split at q
   ·rename_i zs hz;split at q
    ·rename_i hl;obtain ⟨p,vs,rfl,h1,r1⟩:=Jw sm rw' hs;rw [ZIC hz] at r1;have ev:=ZEk r1;subst ev;obtain ⟨u,rfl,ru⟩:=vals1 rs;cases ru;rw [hk] at h1;rcases h1 with h1 | h1
     ·obtain ⟨its,r2,pl,_⟩:=I.list h1;exact join_list pl.isList (by simpa using ZD0 r2) (zB hl (by decide)) λt' k=>⟨.str _,a.H,I.tok k,⟨t',rfl⟩,q a _ (Ext.refl a) sm rfl⟩
     ·obtain ⟨its,r2,pl,_⟩:=I.tuple h1;exact join_tuple pl (by simpa using ZD0 r2) (zB hl (by decide)) λt' k=>⟨.str _,a.H,I.tok k,⟨t',rfl⟩,q a _ (Ext.refl a) sm rfl⟩
    ·exact q.elim
   ·exact q.elim
  ·exact q.elim
 ·exact q.elim
noncomputable def Yr (o:D) (ds:List D) (G:DH):R D:=match o,ds with
 | .str x,[.str y]=>.ok (.int (Txt.find x y)) G
 | _,_=>.bad
theorem m_find:MtM X "str.find" (lRm X.K E Yr):=λvG s σ H x xs v us Q I rx rs h=>by
 obtain ⟨a,G,d,ds,hk,rfl,sm,rd,r,q⟩:=h;unfold Yr at q;split at q
 ·rename_i x' y;obtain ⟨w,rfl,rw'⟩:=reps1 r
  cases (show x=V.str x' from rd)
  cases (show w=V.str y from rw')
  obtain ⟨t,rfl⟩:=rx;obtain ⟨u,rfl,u',rfl⟩:=vals1 rs;exact SC.find ⟨.int _,a.H,I.tok _,⟨_,rfl⟩,q a _ (Ext.refl a) sm rfl⟩
 ·exact q.elim
end
section
variable {S:DSt} {G:DH}
@[simp] theorem ev_Sl {e:DE} {lo hi:Option DE}:dSl e lo hi S G=(e S G).bind λd G1=>(My lo S G1).bind λl G2=>(My hi S G2).bind λh G3=>K9 d l h G3:=id rfl
@[simp] theorem ZSZ:My none S G=.ok none G:=id rfl
@[simp] theorem ZS0:My (some t) S G=(t S G).bind λd G1=>match d with | .int i=>.ok (some i) G1 | _=>.bad:=id rfl
@[simp] theorem N7 {z:Str} {lo:Option Int}:K9 (.str z) lo hi G=if z.length<=1000000 then .ok (.str (Q9 z lo hi)) G else .bad:=id rfl
@[simp] theorem ev_slT {lo:Option Int}:K9 (.tup xs) lo hi G=.ok (.tup (cutD xs lo hi)) G:=id rfl
@[simp] theorem ev_slF {lo:Option Int}:K9 (.fl xs) lo hi G=.ok (.ref G.length) (G++ [.lst (cutD xs lo hi)]):=id rfl
@[simp] theorem ev_MtS {f:D->List D->DH->R D} {o:DE} {t:DA}:Z0 f o t S G=(o S G).bind λx G1=>if isS x=true then (t S G1).bind λxs G2=>f x xs G2 else .bad:=id rfl
@[simp] theorem ev_isS:isS (.str x)=true:=id rfl
@[simp] theorem ZSx {y:Str}:Yr (.str x) [.str y] G=.ok (.int (Txt.find x y)) G:=id rfl
@[simp] theorem ZPq:G8 (.str x) G=.ok (.pure (signs x)) G:=id rfl
@[simp] theorem ZTI:Li [.fl xs] G=.ok (.ref G.length) (G++ [.lst xs]):=id rfl
@[simp] theorem ZSg:Li [.tup xs] G=.ok (.ref G.length) (G++ [.lst xs]):=id rfl
@[simp] theorem ZSn {ys:List D}:Av (.fl xs) (.fl ys) G=if xs.length + ys.length<=1000000 then .ok (.ref G.length) (G++ [.lst (xs++ys)]) else .bad:=id rfl
@[simp] theorem Mu {z:Str} {i:Int}:Ah (.str z) (.int i) G=if z.length<=1000000 then (match atI z.cps.toList i with | some c=>.ok (sgn c) G | none=>.bad) else .bad:=id rfl
theorem ZPr {sep:Str} {ys:List Str} (h:(ys.map (·.length)).sum + ys.length * sep.length<=1000000):Ri (.str sep) [.fl (ys.map D.str)] G=.ok (.str (Txt.join sep ys)) G:=by simp [Ri,h]
end
end DL
namespace DL
open PySem PySem.Spec L2
open PyProof.Rows hiding St
open Builtin.Str
variable {g:DG} {c:DB} {te:DE} {S:DSt} {G:DH}
section
variable (p:Nat->Bool) (m:Nat)
end
theorem ZPt (sep:Str):∀(xs:List Str),(Txt.join sep xs).cps.toList=Le sep.cps.toList (xs.map (·.cps.toList))
 | []=>rfl
 | [x]=>by simp [Txt.join,glued,Le]
 | x::y::r=>by
  have key:∀(r:List Str) (acc:Array Nat),(r.foldl (λacc p=>acc++sep.cps++p.cps) acc).toList=acc.toList++(r.map λp=>sep.cps.toList++p.cps.toList).flatten:=by
   intro r
   induction r with
   | nil=>intro acc;simp
   | cons p r ih=>intro acc;rw [jU,ih];simp
  have j:∀(x:Str) (r:List Str),Le sep.cps.toList ((x::r).map (·.cps.toList))=x.cps.toList++(r.map λp=>sep.cps.toList++p.cps.toList).flatten:=by
   intro x r
   induction r generalizing x with
   | nil=>simp [Le]
   | cons p r ih=>
    have:=ih p;simp only [zW] at this ⊢;rw [Le,this];simp
  rw [j];show (glued sep (x::y::r)).cps.toList=_;unfold glued;simp only [List.drop_one,List.tail_cons,List.headD_cons];rw [key]
noncomputable def CStep (g:DG) (c:DB) (te:DE) (S:DSt) (G:DH) (x:D) (r:Option D):Prop:=
 ∃S1,g x S G=.ok S1 G/\((c S1 G=.ok false G/\r=none)∨(c S1 G=.ok true G/\∃d,te S1 G=.ok d G/\r=some d))
theorem Wf {F:D->Option D}:∀{xs:List D},(∀x∈xs,CStep g c te S G x (F x))->Cp g c te S xs G=.ok (xs.filterMap F) G
 | [],_=>rfl
 | x::xs,h=>by
  obtain ⟨S1,h1,h2⟩:=h x (by simp);have ih:=Wf (λy hy=>h y (zZ _ hy));rw [Jd,h1];rcases h2 with ⟨h2,h3⟩ | ⟨h2,d,h3,h4⟩
  ·simp [h2,h3,ih,qz]
  ·simp [h2,h3,h4,ih,qz]
theorem ZJZ {i:Nat} {F:D->Option D} {xs:List D} (hG:G[i]? =some (.lst xs)) (h:∀x∈xs,CStep g c te S G x (F x)):
  ∀(n j:Nat),j + n=xs.length->Gx i g c te S n j G=.ok ((xs.drop j).filterMap F) G
 | 0,j,hj=>by
  unfold Gx;rw [hG];simp only;rw [if_pos (by lia),zR (by lia)]
  rfl
 | n + 1,j,hj=>by
  have hlt:j < xs.length:=by lia
  have ih:=ZJZ hG h n (j + 1) (by lia);obtain ⟨S1,h1,h2⟩:=h xs[j] (zM hlt);unfold Gx;rw [hG];simp only;rw [zQ hlt];simp only [h1,R.J7];rw [zN hlt,qz];rcases h2 with ⟨h2,h3⟩ | ⟨h2,d,h3,h4⟩
  ·simp [h2,h3,ih]
  ·simp [h2,h3,h4,ih]
theorem ZC7 {i:Nat} {F:D->Option D} {xs:List D} (hG:G[i]? =some (.lst xs)) (h:∀x∈xs,CStep g c te S G x (F x)):
  Gx i g c te S xs.length 0 G=.ok (xs.filterMap F) G:=ZJZ hG h xs.length 0 (by lia)
theorem ZIq:∀xs:List (List Nat),Le [] xs=xs.flatten
 | []=>rfl
 | [x]=>by simp [Le]
 | x::y::r=>by rw [Le,ZIq (y::r)];simp
theorem ZOR (cs:List Nat):Txt.join ("":Str) (cs.map λc=>(⟨#[c]⟩:Str))=⟨cs.toArray⟩:=by
 have h:=ZPt ("":Str) (cs.map λc=>(⟨#[c]⟩:Str));have e:("":Str).cps.toList= []:=by decide +kernel
 rw [e,ZIq,zS] at h;have e2:(cs.map ((λx:Str=>x.cps.toList) ∘ λc=>(⟨#[c]⟩:Str))).flatten=cs:=by
  clear h
  induction cs with
  | nil=>rfl
  | cons c cs ih=>simp only [zW,qI,ih];rfl
 rw [e2] at h;generalize Txt.join ("":Str) (cs.map λc=>(⟨#[c]⟩:Str))=z at h;obtain ⟨a⟩:=z;simp only at h;rw [<-h]
end DL
namespace DL
open PySem PySem.Spec L2
open PyProof.Rows hiding St
variable {h h':Heap} {p z:xW} {k i:Nat} {old:x9} {os:List x9}
inductive Src where
 | l (a:xW)
 | t (a:xW)
variable {sr:Src} {l:List (Src×xW)}
def Src.itn:Src->String
 | .l _=>"list_iterator"
 | .t _=>"tuple_iterator"
def Src.adr:Src->xW
 | .l a=>a
 | .t a=>a
noncomputable def Src.it (h:Heap) (p:xW) (k:Nat) (sr:Src):Prop:=∃o,h.get? p=some o/\o.cls=.type sr.itn/\o.data=.fields #[.ref sr.adr,.int k 0]
noncomputable def Src.val (h:Heap) (xs:Array x9):Src->Prop
 | .l a=>h.IsList a xs
 | .t a=>h.IsTuple a xs
theorem Src.it.at (x:sr.it h p k) (e:∀o,h.get? p=some o->h'.get? p=some o):sr.it h' p k:=let ⟨o,ho,r⟩:=x;⟨o,e o ho,r⟩
theorem Src.val.at {xs:Array x9} (x:sr.val h xs) (e:∀o,h.get? sr.adr=some o->h'.get? sr.adr=some o):sr.val h' xs:=by
 cases sr with
 | l a=>obtain ⟨o,ho,r⟩:=x;exact ⟨o,e o ho,r⟩
 | t a=>obtain ⟨o,ho,r⟩:=x;exact ⟨o,e o ho,r⟩
theorem Src.it.lt (x:sr.it h p k):p < h.objs.size:=let ⟨_,ho,_⟩:=x;zw ho
section
variable {prog:xj} {w:xA} {A:xK} {E:x9->xk->Prop} {s:xk}
theorem Src.val.obj {xs:Array x9} (x:sr.val h xs):∃o n,h.get? sr.adr=some o/\o.data=.seq xs n:=by
 cases sr with
 | l a=>obtain ⟨o,ho,_,n,hd⟩:=x;exact ⟨o,n,ho,hd⟩
 | t a=>obtain ⟨o,ho,_,n,hd⟩:=x;exact ⟨o,n,ho,hd⟩
theorem Src.next_item {xs:Array x9} {x:x9} {Q:x9->xk->Prop} (hit:sr.it s.heap p k) (hv:sr.val s.heap xs) (hx:xs[k]? =some x)
  (hQ:∀h',sr.it h' p (k + 1)->qy p s.heap h'->Q x {s with heap:=h'}):vj (vV prog w) A (Builtin.SmallTypes.nextOf (.ref p)) Q E s:=by
 cases sr with
 | l a=>exact wpAny_nextOf_list_item (show s.heap.IsListIter p a k from hit) hv hx hQ
 | t a=>
  obtain ⟨o,ho,hc,hd⟩:=id hit;obtain ⟨ol,hol,_,nl,hdl⟩:=hv;have hT:s.TypeIs (.ref p) "tuple_iterator":=⟨o,ho,hc⟩;unfold Builtin.SmallTypes.nextOf;refine vv (vk (name:=Str.ofString "__next__") hT PySem.F.slot_tuple_iterator_next (v4 PySem.F.slot_tuple_iterator_next hT PySem.F.entry_tuple_iterator_next ?_ (PySem.F.args_tuple_iterator_next_1 _)));refine vv (m:=field (.ref p) 0) (v5 ho hd (x:=.ref a) rfl ?_)
  show vj _ _ (if (Value.ref a == Value.none)=true then _ else (field (.ref p) 1 >>=_)) _ _ s
  rw [if_neg (show¬((Value.ref a == Value.none)=true) from zy)]
  refine vv (m:=field (.ref p) 1) (v5 ho hd (x:=.int k 0) rfl (vv (m:=seqItems? (.ref a)) (wpAny_seqItems hol hdl ?_)));simp only [Int.toNat_natCast,hx];refine vv (wpAny_setField ho hd (by simp) (vA ⟨x,rfl,vA (hQ _ ⟨_,jN _ ho (Obj.isFreed_of_fields (Obj.data_mapFields hd _)),(Obj.cls_mapFields ..).trans hc,?_⟩ (qy.update ..))⟩))
  rw [Obj.data_mapFields hd];simp [vW,Src.adr]
theorem Src.next_end {xs:Array x9} {Q:x9->xk->Prop} (hh:A.handled=none) (hit:sr.it s.heap p k) (hv:sr.val s.heap xs) (hx:xs[k]? =none)
  (hE:∀h' e,Heap.ExtBut p s.heap h'->(∃o,h'.get? e=some o/\o.cls=.type "StopIteration")->E (.ref e) {s with heap:=h'}):vj (vV prog w) A (Builtin.SmallTypes.nextOf (.ref p)) Q E s:=by
 cases sr with
 | l a=>exact wpAny_nextOf_list_end hh (show s.heap.IsListIter p a k from hit) hv hx hE
 | t a=>
  obtain ⟨o,ho,hc,hd⟩:=id hit;obtain ⟨ol,hol,_,nl,hdl⟩:=hv;have hT:s.TypeIs (.ref p) "tuple_iterator":=⟨o,ho,hc⟩;unfold Builtin.SmallTypes.nextOf;refine vv (vk (name:=Str.ofString "__next__") hT PySem.F.slot_tuple_iterator_next (v4 PySem.F.slot_tuple_iterator_next hT PySem.F.entry_tuple_iterator_next ?_ (PySem.F.args_tuple_iterator_next_1 _)));refine vv (m:=field (.ref p) 0) (v5 ho hd (x:=.ref a) rfl ?_)
  show vj _ _ (if (Value.ref a == Value.none)=true then _ else (field (.ref p) 1 >>=_)) _ _ s
  rw [if_neg (show¬((Value.ref a == Value.none)=true) from zy)]
  refine vv (m:=field (.ref p) 1) (v5 ho hd (x:=.int k 0) rfl (vv (m:=seqItems? (.ref a)) (wpAny_seqItems hol hdl ?_)));simp only [Int.toNat_natCast,hx];refine vv (wpAny_rule (vv (wpAny_setField ho hd (by simp) (vv (m:=newExc (.type "StopIteration") []) ?_))));simp only [newExc,newTuple]
  refine vv (v8 (vv (m:=firstArgMember _ _) (wpAny_of_eq (a:=Value.none) (by first | rfl | (simp only [firstArgMember];rfl)) (v8 ?_ (by size_fits)))) (by size_fits))
  simp only [raiseNew];refine vv (wpAny_handled ?_)
  first | rw [show A.in1.handled=none from hh] | rw [hh]
  exact vv (vA (wpAny_throw (hE _ _ (((qy.update ..).extBut.push _).push _) ⟨_,z9 _ rfl,rfl⟩)))
theorem Src.iter {xs:Array x9} {Q:x9->xk->Prop} (hv:sr.val s.heap xs)
  (hQ:Q (.ref s.heap.objs.size) {s with heap:=s.heap.push {cls:=.type sr.itn,data:=.fields #[.ref sr.adr,.int 0 0]}}):vj (vV prog w) A (pyIter (.ref sr.adr)) Q E s:=by
 cases sr with
 | l a=>exact wpAny_pyIter_list hv hQ
 | t a=>exact wpAny_pyIter_tuple hv hQ
end
noncomputable abbrev En (h:Heap) (e it:xW) (f0:x9) (i:Int) (g old:x9):Prop:=
 h.get? e=some {cls:=.type "enumerate",dict:=none,data:=.fields #[f0,.bool false,.ref it,vW i,g,old],slots:= #[]}
def Gv (i:Int) (g:x9):Prop:=g=.none∨∃t,g=.int i t
section
variable {prog:xj} {w:xA} {A:xK} {E:x9->xk->Prop} {s:xk}
theorem ZQE {e it:xW} {i:Int} {xs:Array x9} {x g:x9} {Q:x9->xk->Prop} (he:En s.heap e it .none i g old) (hg:Gv i g) (hit:sr.it s.heap it k) (hv:sr.val s.heap xs) (hx:xs[k]? =some x) (hne:e≠it)
  (hQ:∀h' t tk,En h' e it (vW s.heap.objs.size) (i + 1) .none x->sr.it h' it (k + 1)->h'.get? s.heap.objs.size=some {cls:=.type "tuple",data:=.seq #[.int i t,x]}->h'.objs.size=s.heap.objs.size + 1->
   (∀b o,b≠e->b≠it->s.heap.get? b=some o->h'.get? b=some o)->Q (.ref s.heap.objs.size) {s with heap:=h',toks:=tk}):
  vj (vV prog w) A (Builtin.«enumerate.__next__» ⟨[.ref e],[]⟩) (λfin s'=>∃v,fin=.done (.ret v)/\Q v s') E s:=by
 obtain ⟨hp,gg,d,tk,os⟩:=s;refine vv (m:=field (.ref e) 2) (v5 he rfl (x:=.ref it) rfl (vv (m:=Builtin.SmallTypes.nextOf (.ref it)) (Src.next_item hit hv hx λh₁ hit₁ hs₁=> ?_)));have he₁:En h₁ e it .none i g old:=(hs₁.2 e hne).trans he;have k₁:∀b o,b≠e->b≠it->hp.get? b=some o->h₁.get? b=some o:=λb o _ hb q=>hs₁.extBut b o hb q
 have z₁:h₁.objs.size=hp.objs.size:=hs₁.1;refine vv (m:=field (.ref e) 3) (v5 he₁ rfl (x:=vW i) rfl ?_);refine vv (m:=field (.ref e) 4) (v5 he₁ rfl (x:=g) rfl ?_)
 have rest:∀(t:Tok) (tk':Nat),vj (vV prog w) A (do
   setField (.ref e) 3 (vW (i + 1));setField (.ref e) 4 .none
   let result<-newTuple [.int i t,x]
   if<-Builtin.SmallTypes.ownedTupleIsFree (.ref e) then
    rule "enumerate.__next__.owned-tuple-again"
    let old<-field (.ref e) 5
    setField (.ref e) 5 x
    Builtin.SmallTypes.ownedTupleHandOut (.ref e) result
    PySem.letGo [old] [result]
   ret result) (λfin s'=>∃v,fin=.done (.ret v)/\Q v s') E ⟨h₁,gg,d,tk',os⟩:=by
  intro t tk';refine vv (vB he₁ (by simp) λh₂ he₂ hs₂=> ?_);refine vv (vB he₂ (by simp) λh₃ he₃ hs₃=> ?_)
  replace he₃:En h₃ e it .none (i + 1) .none old:=he₃
  have z₃:h₃.objs.size=hp.objs.size:=by rw [hs₃.1];show h₂.objs.size=_;rw [hs₂.1];exact z₁
  have k₃:∀b o,b≠e->b≠it->hp.get? b=some o->h₃.get? b=some o:=λb o h1 h2 q=>hs₃.extBut b o h1 (hs₂.extBut b o h1 (k₁ b o h1 h2 q))
  have i₃:sr.it h₃ it (k + 1):=(hit₁.at λo q=>hs₂.extBut it o (Ne.symm hne) q).at λo q=>hs₃.extBut it o (Ne.symm hne) q
  refine vv (wpAny_newTuple ?_);generalize hh₄:h₃.push {cls:=.type "tuple",data:=.seq [Value.int i t,x].toArray}=h₄;have he₄:En h₄ e it .none (i + 1) .none old:=by rw [<-hh₄];exact zJ _ he₃
  have ht₄:h₄.get? hp.objs.size=some {cls:=.type "tuple",data:=.seq #[.int i t,x]}:=by rw [<-hh₄,<-z₃];exact z9 _ rfl
  have z₄:h₄.objs.size=hp.objs.size + 1:=by rw [<-hh₄,qk,z₃]
  have k₄:∀b o,b≠e->b≠it->hp.get? b=some o->h₄.get? b=some o:=λb o h1 h2 q=>by rw [<-hh₄];exact zJ _ (k₃ b o h1 h2 q)
  have i₄:sr.it h₄ it (k + 1):=i₃.at λo q=>by rw [<-hh₄];exact zJ _ q
  have ez:e < hp.objs.size:=zw he;refine vv (m:=Builtin.SmallTypes.ownedTupleIsFree (.ref e)) ?_;unfold Builtin.SmallTypes.ownedTupleIsFree;refine vv (v5 he₄ rfl (x:=.none) rfl (vA ?_));simp only [if_true];refine vv (wpAny_rule (vv (v5 he₄ rfl (x:=old) rfl (vv (vB he₄ (by simp) λh₅ he₅ hs₅=> ?_)))))
  replace he₅:En h₅ e it .none (i + 1) .none x:=he₅
  refine vv (m:=Builtin.SmallTypes.ownedTupleHandOut _ _) ?_;unfold Builtin.SmallTypes.ownedTupleHandOut;refine vv (vB he₅ (by simp) λh₆ he₆ hs₆=> ?_);refine vB he₆ (by simp) λh₇ he₇ hs₇=> ?_
  refine vv (wpAny_letGo (vA ⟨_,rfl,?_⟩));have up:∀b o,b≠e->h₄.get? b=some o->h₇.get? b=some o:=λb o hb q=>hs₇.extBut b o hb (hs₆.extBut b o hb (hs₅.extBut b o hb q))
  show Q (.ref h₃.objs.size) _;rw [z₃];rw [z₃] at he₇;exact hQ h₇ t tk' he₇ (i₄.at λo q=>up it o (Ne.symm hne) q) (up _ _ (qP ez) ht₄) (by rw [hs₇.1];show h₆.objs.size=_;rw [hs₆.1];show h₅.objs.size=_;rw [hs₅.1];exact z₄) λb o h1 h2 q=>up b o h1 (k₄ b o h1 h2 q)
 rcases hg with rfl | ⟨t,rfl⟩
 ·exact vv (m:=mkInt i) (wpAny_mkInt (rest tk (tk + 1)))
 ·exact vv (m:=(pure (Value.int i t):Sem x9)) (vA (rest t tk))
theorem ZQC {e it:xW} {i:Int} {xs:Array x9} {x g:x9} {Q:Option x9->xk->Prop} (he:En s.heap e it .none i g old) (hg:Gv i g) (hit:sr.it s.heap it k) (hv:sr.val s.heap xs) (hx:xs[k]? =some x) (hne:e≠it)
  (hQ:∀h' t tk,En h' e it (vW s.heap.objs.size) (i + 1) .none x->sr.it h' it (k + 1)->h'.get? s.heap.objs.size=some {cls:=.type "tuple",data:=.seq #[.int i t,x]}->h'.objs.size=s.heap.objs.size + 1->
   (∀b o,b≠e->b≠it->s.heap.get? b=some o->h'.get? b=some o)->Q (some (.ref s.heap.objs.size)) {s with heap:=h',toks:=tk}):
  vj (vV prog w) A (pyNext (.ref e)) Q E s:=by
 have hT:s.TypeIs (.ref e) "enumerate":=⟨_,he,rfl⟩;unfold pyNext;exact vv (wpAny_attempt (vk (name:=Str.ofString "__next__") hT PySem.F.slot_enumerate_next
  (v4 PySem.F.slot_enumerate_next hT PySem.F.entry_enumerate_next (ZQE he hg hit hv hx hne λh' t tk a1 a2 a3 a4 a5=>vA (hQ h' t tk a1 a2 a3 a4 a5)) (PySem.F.args_enumerate_next_1 _))))
theorem ZMK {e it:xW} {i:Int} {xs:Array x9} {g:x9} {Q:Option x9->xk->Prop} (hh:A.handled=none) (he:En s.heap e it .none i g old) (hit:sr.it s.heap it k) (hv:sr.val s.heap xs) (hx:xs[k]? =none)
  (hQ:∀h',Heap.ExtBut it s.heap h'->Q none {s with heap:=h'}):vj (vV prog w) A (pyNext (.ref e)) Q E s:=by
 have hT:s.TypeIs (.ref e) "enumerate":=⟨_,he,rfl⟩;unfold pyNext;refine vv (wpAny_attempt (vk (name:=Str.ofString "__next__") hT PySem.F.slot_enumerate_next
  (v4 PySem.F.slot_enumerate_next hT PySem.F.entry_enumerate_next (vv (m:=field (.ref e) 2) (v5 he rfl (x:=.ref it) rfl (vv (m:=Builtin.SmallTypes.nextOf (.ref it)) (Src.next_end hh hit hv hx λh' x he' hx'=> ?_)))) (PySem.F.args_enumerate_next_1 _))))
 obtain ⟨o,ho,hc⟩:=hx';exact vv (wpAny_isInstance (T:="StopIteration") (b:=true) ⟨o,ho,hc⟩ isSubtype_stop (vA (hQ _ he')))
theorem ZLU {elts:List xY} {x1} {pos:Pos} {e it a:xW} {i:Int} {g:x9} {Q:Unit->xk->Prop} (he:En s.heap e it (vW a) i g old)
  (hQ:∀h',En h' e it .none i g old->qy e s.heap h'->Q () {s with heap:=h'}):vj (vV prog w) A (vJ (.Tuple elts x1 pos) (.ref e) (.ref a)) Q E s:=by
 unfold vJ;refine vv (wpAny_load he ?_);dsimp only;rw [if_pos (by simp)];exact vv (wpAny_rule (vB he (by simp) λh' he' hs'=>hQ h' he' hs'))
theorem ZDH {e it:xW} {f0:x9} {i:Int} {g:x9} {Q:x9->xk->Prop} (he:En s.heap e it f0 i g old) (h:Q (.ref e) s):vj (vV prog w) A (pyIter (.ref e)) Q E s:=by have hT:s.TypeIs (.ref e) "enumerate":=⟨_,he,rfl⟩;exact wpAny_pyIter_slot hT PySem.F.slot_enumerate_iter (v4 PySem.F.slot_enumerate_iter hT PySem.F.entry_enumerate_iter (vA ⟨_,rfl,"enumerate",_,hT,PySem.F.slot_enumerate_next.lookup,h⟩) (PySem.F.args_enumerate_iter_1 _))
end
noncomputable abbrev Tp (h:Heap) (T:xW) (xs:List x9):Prop:=h.get? T=some {cls:=.type "tuple",data:=.seq xs.toArray}
inductive Drw (h:Heap) (i:Nat):List (Src×xW)->List x9->Prop where
 | nil:Drw h i [] []
 | cons {sr p r x us xs} (hit:Src.it h p i sr) (hv:sr.val h xs) (hx:xs[i]? =some x) (t:Drw h i r us):Drw h i ((sr,p)::r) (x::us)
theorem Drw.length {us:List x9} (d:Drw h i l us):us.length=l.length:=by
 induction d with
 | nil=>rfl
 | cons _ _ _ _ ih=>simp [ih]
section
variable {prog:xj} {w:xA} {A:xK} {E:x9->xk->Prop} {s:xk}
theorem ZRV {T:xW} {xs:List x9} {x:x9} {Q:Unit->xk->Prop} (hT:Tp s.heap T xs) (hz:xs.length<=1000000)
  (h:∀h',Tp h' T (xs.set k x)->qy T s.heap h'->Q () {s with heap:=h'}):vj (vV prog w) A (updateSeq T (·.setIfInBounds k x)) Q E s:=by
 have h1:xs.toArray.size<=sizeLine:=by rw [zY];exact zB hz size6
 refine wpAny_updateSeq hT rfl (h _ ?_ (qy.update ..)) h1 (by rw [Array.size_setIfInBounds];exact Nat.le_succ_of_le h1);show (s.heap.update T _).get? T=_;rw [jN _ hT rfl];simp [Obj.mapSeq]
noncomputable def ZS (prog:xj) (w:xA) (A:xK) (E:x9->xk->Prop) (z TO p:xW) (k:Nat) (R:xk->Prop) (s:xk):Prop:=
 vj (vV prog w) A (Builtin.SmallTypes.nextOf (.ref p)) (λx s1=>∃os,Tp s1.heap TO os/\os.length<=1000000/\∀h',Tp h' TO (os.set k x)->qy TO s1.heap h'->R {s1 with heap:=h'})
  (λe s'=>vj (vV prog w) A (setField (.ref z) 0 .none) (λ_ s''=>E e s'') E s') s
theorem ZGc {TO:xW} {xs:Array x9} {x:x9} {Q:xk->Prop} (hTO:Tp s.heap TO os) (hz:os.length<=1000000) (hit:sr.it s.heap p i) (hv:sr.val s.heap xs) (hx:xs[i]? =some x)
  (h:∀h',Tp h' TO (os.set k x)->sr.it h' p (i + 1)->(∀b o,b≠TO->b≠p->s.heap.get? b=some o->h'.get? b=some o)->h'.objs.size=s.heap.objs.size->Q {s with heap:=h'}):ZS prog w A E z TO p k Q s:=by
 have hne:TO≠p:=λe=>by
  obtain ⟨o,ho,hc,_⟩:=hit;rw [<-e,hTO] at ho;cases ho
  cases sr <;> (simp [Src.itn] at hc)
 refine Src.next_item hit hv hx λh₁ it₁ sb₁=>⟨os,sb₁.extBut _ _ hne hTO,hz,λh₂ t₂ sb₂=> ?_⟩
 exact h h₂ t₂ (it₁.at λo e=>sb₂.extBut _ _ (Ne.symm hne) e) (λb o b1 b2 e=>sb₂.extBut b o b1 (sb₁.extBut b o b2 e)) (by rw [sb₂.1];show h₁.objs.size=_;rw [sb₁.1])
theorem ZHF {TO:xW} {body:x9×Nat->Option Fin×PUnit->Sem (ForInStep (Option Fin×PUnit))} {R:Option Fin×PUnit->xk->Prop}
  (hb:∀(p:xW) (k:Nat) (s:xk) (R':ForInStep (Option Fin×PUnit)->xk->Prop),ZS prog w A E z TO p k (λs'=>R' (.yield (none,⟨⟩)) s') s->
   vj (vV prog w) A (body (.ref p,k) (none,⟨⟩)) R' E s):
  ∀(l:List (Src×xW)) (us pre post:List x9) (s:xk),Drw s.heap i l us->Tp s.heap TO (pre++post)->post.length=l.length->(pre++post).length<=1000000->(l.map (·.2)).Nodup->(∀q∈l,q.1.adr≠TO)->(∀q∈l,∀r∈l,q.1.adr≠r.2)->
   (∀h',Tp h' TO (pre++us)->(∀q∈l,q.1.it h' q.2 (i + 1))->(∀b o,b≠TO->b ∉ l.map (·.2)->s.heap.get? b=some o->h'.get? b=some o)->h'.objs.size=s.heap.objs.size->R (none,⟨⟩) {s with heap:=h'})->
   vj (vV prog w) A (forIn ((l.map λq=>Value.ref q.2).zipIdx pre.length) (none,⟨⟩) body) R E s
 | [],us,pre,post,s,d,hT,hl,hz,nd,na,np,hR=>by
  cases d;cases post with
  | cons _ _=>simp at hl
  | nil=>
   rw [jJ,List.zipIdx_nil,List.forIn_nil];exact vA (hR s.heap hT (λq hq=>by cases hq) (λb o _ _ e=>e) rfl)
 | (sr,p)::l,us,pre,post,s,d,hT,hl,hz,nd,na,np,hR=>by
  cases d with
  | @cons _ _ _ x us xs hit hv hx d=>
  cases post with
  | nil=>simp at hl
  | cons y post=>
   rw [zW,jP,xZ];refine vv (hb p pre.length s _ (ZGc hT hz hit hv hx λh' hT' it' kp sz=> ?_));have e1:(pre++y::post).set pre.length x=(pre++ [x])++post:=by simp
   rw [e1] at hT';have e2:pre.length + 1=(pre++ [x]).length:=by simp
   dsimp only;rw [e2]
   have nd':p ∉ l.map (·.2)/\(l.map (·.2)).Nodup:=by simpa using nd
   have hTOp:∀q∈l,q.2≠TO:=λq hq e=>by
    have:∃sr k,Src.it s.heap q.2 k sr:=by
     clear hR na np nd nd' e1 e2 hl hT' hz
     induction d with
     | nil=>cases hq
     | cons hit _ _ _ ih=>
      rcases zx.mp hq with rfl | hq
      ·exact ⟨_,_,hit⟩
      ·exact ih hq
    obtain ⟨sr',k,o,ho,hc,_⟩:=this;rw [e,hT] at ho;cases ho
    cases sr' <;> (simp [Src.itn] at hc)
   have d':Drw h' i l us:=by
    have na':∀q∈l,q.1.adr≠TO:=λq hq=>na q (zZ _ hq)
    have np':∀q∈l,q.1.adr≠p:=λq hq=>np q (zZ _ hq) (sr,p) zV
    have pp:∀q∈l,q.2≠p:=λq hq e=>nd'.1 (zF.mpr ⟨q,hq,e⟩)
    clear hR na np nd nd' e1 e2 hl hT' hz
    induction d with
    | nil=>exact .nil
    | @cons sr1 p1 r1 x1 us1 xs1 hit1 hv1 hx1 t1 ih=>
     refine .cons (hit1.at λo e=>kp _ o (hTOp _ zV) (pp _ zV) e) (hv1.at λo e=>kp _ o (na' _ zV) (np' _ zV) e) hx1 ?_;exact ih (λq hq=>hTOp q (zZ _ hq)) (λq hq=>na' q (zZ _ hq)) (λq hq=>np' q (zZ _ hq)) (λq hq=>pp q (zZ _ hq))
   refine ZHF hb l us (pre++ [x]) post {s with heap:=h'} d' hT' (by simpa using hl) (by simpa using hz) nd'.2 (λq hq=>na q (zZ _ hq)) (λq hq r hr=>np q (zZ _ hq) r (zZ _ hr)) λh'' t'' its'' kp'' sz''=> ?_
   have hpTO:p≠TO:=λe=>by
    obtain ⟨o,ho,hc,_⟩:=hit;rw [e,hT] at ho;cases ho
    cases sr <;> (simp [Src.itn] at hc)
   refine hR h'' (by simpa using t'') (λq hq=> ?_) (λb o b1 b2 e=> ?_) (sz''.trans sz)
   ·rcases zx.mp hq with rfl | hq
    ·exact it'.at λo e=>kp'' _ o hpTO nd'.1 e
    ·exact its'' q hq
   ·simp only [zW,zx,not_or] at b2;exact kp'' b o b1 b2.2 (kp b o b1 b2.1 e)
end
inductive DrwE (h:Heap) (i:Nat):List (Src×xW)->Prop where
 | here {sr p r xs} (hit:Src.it h p i sr) (hv:sr.val h xs) (hx:xs[i]? =none):DrwE h i ((sr,p)::r)
 | there {sr p r x xs} (hit:Src.it h p i sr) (hv:sr.val h xs) (hx:xs[i]? =some x) (t:DrwE h i r):DrwE h i ((sr,p)::r)
structure ApZ (TO:xW) (l:List (Src×xW)):Prop where
 nd:(l.map (·.2)).Nodup
 na:∀q∈l,q.1.adr≠TO
 np:∀q∈l,∀r∈l,q.1.adr≠r.2
 to:∀q∈l,q.2≠TO
theorem ApZ.tail {TO:xW} {q:Src×xW} (a:ApZ TO (q::l)):ApZ TO l:=
 ⟨(qD.mp (by simpa using a.nd)).2,λq hq=>a.na q (zZ _ hq),λq hq r hr=>a.np q (zZ _ hq) r (zZ _ hr),λq hq=>a.to q (zZ _ hq)⟩
section
variable {prog:xj} {w:xA} {A:xK} {E:x9->xk->Prop} {s:xk}
theorem DrwE.at {TO:xW} (a:ApZ TO ((sr,p)::l)) (kp:∀b o,b≠TO->b≠p->h.get? b=some o->h'.get? b=some o) (d:DrwE h i l):DrwE h' i l:=by
 have pp:∀q∈l,q.2≠p:=λq hq e=>(qD.mp (by simpa using a.nd)).1 (zF.mpr ⟨q,hq,e⟩)
 have np:∀q∈l,q.1.adr≠p:=λq hq=>a.np q (zZ _ hq) (sr,p) zV
 have a':=a.tail;clear a
 induction d with
 | here hit hv hx=>exact .here (hit.at λo e=>kp _ o (a'.to _ zV) (pp _ zV) e) (hv.at λo e=>kp _ o (a'.na _ zV) (np _ zV) e) hx
 | there hit hv hx t ih=>
  exact .there (hit.at λo e=>kp _ o (a'.to _ zV) (pp _ zV) e) (hv.at λo e=>kp _ o (a'.na _ zV) (np _ zV) e) hx
   (ih (λq hq=>pp q (zZ _ hq)) (λq hq=>np q (zZ _ hq)) a'.tail)
theorem ZFD {TO:xW} {body:x9×Nat->Option Fin×PUnit->Sem (ForInStep (Option Fin×PUnit))} {R:Option Fin×PUnit->xk->Prop} (hh:A.handled=none)
  (hb:∀(p:xW) (k:Nat) (s:xk) (R':ForInStep (Option Fin×PUnit)->xk->Prop),ZS prog w A E z TO p k (λs'=>R' (.yield (none,⟨⟩)) s') s->
   vj (vV prog w) A (body (.ref p,k) (none,⟨⟩)) R' E s):
  ∀(l:List (Src×xW)) (os:List x9) (n:Nat) (s:xk),DrwE s.heap i l->Tp s.heap TO os->os.length<=1000000->ApZ TO l->
   (∀h' e,(∀b o,b≠TO->b ∉ l.map (·.2)->s.heap.get? b=some o->h'.get? b=some o)->(∃o,h'.get? e=some o/\o.cls=.type "StopIteration")->vj (vV prog w) A (setField (.ref z) 0 .none) (λ_ s''=>E (.ref e) s'') E {s with heap:=h'})->
   vj (vV prog w) A (forIn ((l.map λq=>Value.ref q.2).zipIdx n) (none,⟨⟩) body) R E s
 | [],os,n,s,d,hT,hz,a,hE=>by cases d
 | (sr,p)::l,os,n,s,d,hT,hz,a,hE=>by
  rw [zW,jP,xZ];refine vv (hb p n s _ ?_);cases d with
  | here hit hv hx=>
   exact Src.next_end hh hit hv hx λh' e xb st=>hE h' e (λb o b1 b2 q=>xb b o (λz=>b2 (by rw [z];simp)) q) st
  | there hit hv hx t=>
   refine ZGc hT hz hit hv hx λh' hT' it' kp sz=> ?_
   refine ZFD hh hb l _ (n + 1) {s with heap:=h'} (t.at a kp) hT' (by simpa using hz) a.tail λh'' e kp'' st=> ?_
   refine hE h'' e (λb o b1 b2 q=> ?_) st;simp only [zW,zx,not_or] at b2;exact kp'' b o b1 b2.2 (kp b o b1 b2.1 q)
theorem ZI0 {TI TO:xW} {R:Fin->xk->Prop} (hz:IsZip s.heap z TI TO .none) (hTI:Tp s.heap TI (l.map λq=>Value.ref q.2)) (hne:l≠ [])
  (h:∀h₁,IsZip h₁ z TI TO .ellipsis->qy z s.heap h₁->∀body:x9×Nat->Option Fin×PUnit->Sem (ForInStep (Option Fin×PUnit)),
   (∀(p:xW) (k:Nat) (s:xk) (R':ForInStep (Option Fin×PUnit)->xk->Prop),ZS prog w A E z TO p k (λs'=>R' (.yield (none,⟨⟩)) s') s->
    vj (vV prog w) A (body (.ref p,k) (none,⟨⟩)) R' E s)->
   vj (vV prog w) A (forIn ((l.map λq=>Value.ref q.2).zipIdx 0) (none,⟨⟩) body) (λr s'=>r.1=none/\∃us,Tp s'.heap TO us/\us.length<=1000000/\IsZip s'.heap z TI TO .ellipsis/\
    ∀h',IsZip h' z TI TO (vW s'.heap.objs.size)->Tp h' s'.heap.objs.size us->h'.objs.size=s'.heap.objs.size + 1->(∀b o,b≠z->s'.heap.get? b=some o->h'.get? b=some o)->R (.done (.ret (.ref s'.heap.objs.size))) {s' with heap:=h'}) E {s with heap:=h₁}):
  vj (vV prog w) A (Builtin.«zip.__next__» ⟨[.ref z],[]⟩) R E s:=by
 refine vv (m:=field (.ref z) 2) (v5 hz rfl (x:=.bool false) rfl (vv (m:=field (.ref z) 3) (v5 hz rfl (x:=.ref TI) rfl (vv (m:=seqItems? (.ref TI)) (wpAny_seqItems hTI rfl ?_)))));dsimp only;have hemp:(l.map λq=>Value.ref q.2).toArray.isEmpty=false:=by cases l with
  | nil=>exact absurd rfl hne
  | cons _ _=>simp
 rw [hemp];refine vv (m:=Builtin.SmallTypes.ownedTupleIsFree (.ref z)) ?_;unfold Builtin.SmallTypes.ownedTupleIsFree;refine vv (v5 hz rfl (x:=.none) rfl (vA ?_));simp only [if_true];refine vv (wpAny_rule (vv (v5 hz rfl (x:=.ref TO) rfl (vv (vB hz (by simp) λh₁ hz₁ hs₁=> ?_)))));refine vv (v7 (h h₁ hz₁ hs₁ _ λp k s R' hst=> ?_) (λr s' hr=> ?_) λ_ _ x=>x)
 ·refine vv (wpAny_onRaise ?_);show vj _ _ (Builtin.SmallTypes.nextOf (.ref p) >>=λv=>pure (some v)) _ _ s;refine vv (v7 hst (λx s1 hx=>vA ?_) λ_ _ x=>x);obtain ⟨os,hT,hl,hR⟩:=hx;dsimp only;refine vv (wpAny_seqItems hT rfl ?_);dsimp only;exact vv (ZRV hT hl λh' t' sb=>vv (wpAny_letGo (vA (hR h' t' sb))))
 ·obtain ⟨hn,us,hT,hl,hzz,hR⟩:=hr;rw [hn];dsimp only;refine vv (wpAny_seqItems hT rfl ?_);dsimp only;refine vv (wpAny_newTuple ?_ (by show us.toArray.toList.length<=_;simpa using zB hl size6));have hzlt:z < s'.heap.objs.size:=zw hzz;refine vv (m:=Builtin.SmallTypes.ownedTupleHandOut _ _) ?_;unfold Builtin.SmallTypes.ownedTupleHandOut;have e1:us.toArray.toList.toArray=us.toArray:=by simp
  rw [e1];have hz2:IsZip (s'.heap.push {cls:=.type "tuple",data:=.seq us.toArray}) z TI TO .ellipsis:=zJ _ hzz;refine vv (vB hz2 (by simp) λh₇ hz₇ hs₇=> ?_);refine vB hz₇ (by simp) λh₈ hz₈ hs₈=> ?_
  refine vA (hR h₈ hz₈ ?_ ?_ λb o hb q=>hs₈.extBut _ _ hb (hs₇.extBut _ _ hb (zJ _ q)))
  ·exact hs₈.extBut _ _ (qP hzlt) (hs₇.extBut _ _ (qP hzlt) (z9 _ rfl))
  ·rw [hs₈.1];show h₇.objs.size=_;rw [hs₇.1,qk]
theorem ZK4 {TI TO:xW} {us:List x9} {Q:Option x9->xk->Prop} (hz:IsZip s.heap z TI TO .none) (hTI:Tp s.heap TI (l.map λq=>Value.ref q.2)) (hTO:Tp s.heap TO os) (hlen:os.length=l.length) (hsz:l.length<=1000000) (hne:l≠ [])
  (a:ApZ TO l) (zz:z≠TO/\(∀q∈l,q.2≠z/\q.1.adr≠z)) (d:Drw s.heap i l us)
  (hQ:∀h',IsZip h' z TI TO (vW s.heap.objs.size)->Tp h' TO us->(∀q∈l,q.1.it h' q.2 (i + 1))->Tp h' s.heap.objs.size us->h'.objs.size=s.heap.objs.size + 1->
   (∀b o,b≠z->b≠TO->b ∉ l.map (·.2)->s.heap.get? b=some o->h'.get? b=some o)->Q (some (.ref s.heap.objs.size)) {s with heap:=h'}):vj (vV prog w) A (pyNext (.ref z)) Q E s:=by
 have hT:s.TypeIs (.ref z) "zip":=⟨_,hz,rfl⟩;unfold pyNext;refine vv (wpAny_attempt (vk (name:=Str.ofString "__next__") hT PySem.F.slot_zip_next (v4 PySem.F.slot_zip_next hT PySem.F.entry_zip_next ?_ (PySem.F.args_zip_next_1 _))));refine ZI0 hz hTI hne λh₁ hz₁ hs₁ body hb=> ?_
 have k₁:∀b o,b≠z->s.heap.get? b=some o->h₁.get? b=some o:=λb o hb q=>hs₁.extBut b o hb q
 have d₁:Drw h₁ i l us:=by
  have h1:∀q∈l,q.2≠z/\q.1.adr≠z:=zz.2;clear hTI hlen hsz hne a zz hQ
  induction d with
  | nil=>exact .nil
  | cons hit hv hx t ih=>exact .cons (hit.at λo e=>k₁ _ o (h1 _ zV).1 e) (hv.at λo e=>k₁ _ o (h1 _ zV).2 e) hx (ih λq hq=>h1 q (zZ _ hq))
 refine ZHF (z:=z) (TO:=TO) (i:=i) hb l us [] os {s with heap:=h₁} d₁ (k₁ _ _ (Ne.symm zz.1) hTO) hlen (by simpa [hlen] using hsz) a.nd a.na a.np λh₂ t₂ it₂ k₂ sz₂=>⟨rfl,us,t₂,by rw [d.length];exact hsz,?_,λh₃ z₃ p₃ s₃ k₃=> ?_⟩
 ·refine k₂ _ _ zz.1 (λhm=> ?_) hz₁;obtain ⟨q,hq,e⟩:=zF.mp hm;exact (zz.2 q hq).1 e
 ·have e2:h₂.objs.size=s.heap.objs.size:=by rw [sz₂];exact hs₁.1
  refine ⟨_,rfl,vA ?_⟩;show Q (some (.ref h₂.objs.size)) _;have z₃':IsZip h₃ z TI TO (vW h₂.objs.size):=z₃;have p₃':Tp h₃ h₂.objs.size us:=p₃;have s₃':h₃.objs.size=h₂.objs.size + 1:=s₃;have k₃':∀b o,b≠z->h₂.get? b=some o->h₃.get? b=some o:=k₃;rw [e2] at z₃' p₃' s₃' ⊢;exact hQ h₃ z₃' (k₃' _ _ (Ne.symm zz.1) t₂) (λq hq=>(it₂ q hq).at λo e=>k₃' _ o (zz.2 q hq).1 e) p₃' s₃' λb o b1 b2 b3 q=>k₃' b o b1 (k₂ b o b2 b3 (k₁ b o b1 q))
theorem ZLN {TI TO:xW} {Q:Option x9->xk->Prop} (hh:A.handled=none) (hz:IsZip s.heap z TI TO .none) (hTI:Tp s.heap TI (l.map λq=>Value.ref q.2)) (hTO:Tp s.heap TO os) (hlen:os.length=l.length) (hsz:l.length<=1000000) (hne:l≠ [])
  (a:ApZ TO l) (zz:z≠TO/\(∀q∈l,q.2≠z/\q.1.adr≠z)) (d:DrwE s.heap i l)
  (hQ:∀h',(∀b o,b≠z->b≠TO->b ∉ l.map (·.2)->s.heap.get? b=some o->h'.get? b=some o)->Q none {s with heap:=h'}):vj (vV prog w) A (pyNext (.ref z)) Q E s:=by
 have hT:s.TypeIs (.ref z) "zip":=⟨_,hz,rfl⟩;unfold pyNext;refine vv (wpAny_attempt (vk (name:=Str.ofString "__next__") hT PySem.F.slot_zip_next (v4 PySem.F.slot_zip_next hT PySem.F.entry_zip_next ?_ (PySem.F.args_zip_next_1 _))));refine ZI0 hz hTI hne λh₁ hz₁ hs₁ body hb=> ?_
 have k₁:∀b o,b≠z->s.heap.get? b=some o->h₁.get? b=some o:=λb o hb q=>hs₁.extBut b o hb q
 have d₁:DrwE h₁ i l:=by
  have h1:∀q∈l,q.2≠z/\q.1.adr≠z:=zz.2;clear hTI hlen hsz hne a zz hQ
  induction d with
  | here hit hv hx=>exact .here (hit.at λo e=>k₁ _ o (h1 _ zV).1 e) (hv.at λo e=>k₁ _ o (h1 _ zV).2 e) hx
  | there hit hv hx t ih=>exact .there (hit.at λo e=>k₁ _ o (h1 _ zV).1 e) (hv.at λo e=>k₁ _ o (h1 _ zV).2 e) hx (ih λq hq=>h1 q (zZ _ hq))
 refine ZFD (A:=A.in1) (z:=z) (TO:=TO) (i:=i) (show A.in1.handled=none from hh) hb l os 0 {s with heap:=h₁} d₁ (k₁ _ _ (Ne.symm zz.1) hTO) (by rw [hlen];exact hsz) a λh₂ e k₂ st=> ?_
 have hz₂:IsZip h₂ z TI TO .ellipsis:=by refine k₂ _ _ zz.1 (λhm=> ?_) hz₁;obtain ⟨q,hq,e⟩:=zF.mp hm;exact (zz.2 q hq).1 e
 obtain ⟨o,ho,hc⟩:=st;have hez:e≠z:=λx=>by subst x;rw [hz₂] at ho;cases ho;simp at hc
 refine vB hz₂ (by simp) λh₃ _ hs₃=> ?_
 refine vv (wpAny_isInstance (T:="StopIteration") (b:=true) ⟨o,hs₃.extBut _ _ hez ho,hc⟩ isSubtype_stop (vA ?_));exact hQ h₃ λb o b1 b2 b3 q=>hs₃.extBut _ _ b1 (k₂ b o b2 b3 (k₁ b o b1 q))
theorem ZGQ:∀(ls:List Src) (pre:Array x9) (s:xk) {Q:Array x9->xk->Prop},(∀sr∈ls,∃xs,sr.val s.heap xs)->
  (∀h',(∀q∈ls.zipIdx s.heap.objs.size,q.1.it h' q.2 0)->h'.objs.size=s.heap.objs.size + ls.length->(∀b o,s.heap.get? b=some o->h'.get? b=some o)->Q (pre++((ls.zipIdx s.heap.objs.size).map λq=>Value.ref q.2).toArray) {s with heap:=h'})->
  vj (vV prog w) A (forIn (ls.map λsr=>Value.ref sr.adr) pre λx r=>do let v<-holding r.toList (pyIter x);pure (ForInStep.yield (r.push v))) Q E s
 | [],pre,s,Q,hv,h=>by rw [jJ,List.forIn_nil];refine vA ?_;have:=h s.heap (λq hq=>by cases hq) rfl (λ_ _ e=>e);simpa using this
 | sr::ls,pre,s,Q,hv,h=>by
  rw [zW,xZ];obtain ⟨xs,hx⟩:=hv sr zV;refine vv (vv (v6 (Src.iter hx (vA ?_))));dsimp only;have z1:(s.heap.push {cls:=.type sr.itn,data:=.fields #[.ref sr.adr,.int 0 0]}).objs.size=s.heap.objs.size + 1:=qk ..;refine ZGQ ls (pre.push (.ref s.heap.objs.size)) {s with heap:=s.heap.push {cls:=.type sr.itn,data:=.fields #[.ref sr.adr,.int 0 0]}} (λsr' hm=> ?_) λh' hi hz kp=> ?_
  ·obtain ⟨ys,hy⟩:=hv sr' (zZ _ hm);exact ⟨ys,hy.at λo e=>zJ _ e⟩
  ·dsimp only at hi hz kp ⊢;rw [z1] at hi hz ⊢;have:=h h' (λq hq=> ?_) (by rw [hz,zP];lia) (λb o e=>kp b o (zJ _ e))
   ·rw [jP,zW] at this;simpa using this
   ·rw [jP] at hq;rcases zx.mp hq with rfl | hq
    ·exact ⟨_,kp _ _ (z9 _ rfl),rfl,rfl⟩
    ·exact hi q hq
theorem ZRc {ls:List Src} {Q:x9->xk->Prop} (hv:∀sr∈ls,∃xs,sr.val s.heap xs) (hl:ls.length<=1000000)
  (hct:checkTypeCall "zip" ⟨ls.map λsr=>Value.ref sr.adr,[]⟩=pure ()) (hcn:xL "zip.__new__" ⟨.type "zip"::ls.map λsr=>Value.ref sr.adr,[]⟩=pure ()) (hok:∀obj,argsOk "object.__init__" ⟨obj::ls.map λsr=>Value.ref sr.adr,[]⟩)
  (h:∀h' n,n=s.heap.objs.size + ls.length->IsZip h' (n + 2) n (n + 1) .none->Tp h' n ((ls.zipIdx s.heap.objs.size).map λq=>Value.ref q.2)->Tp h' (n + 1) (ls.map λ_=>Value.none)->(∀q∈ls.zipIdx s.heap.objs.size,q.1.it h' q.2 0)->
   (∀b o,s.heap.get? b=some o->h'.get? b=some o)->Q (.ref (n + 2)) {s with heap:=h'}):
  vj (vV prog w) A (call (.type "zip") (ls.map λsr=>Value.ref sr.adr)) Q E s:=by
 have g:Meets (Builtin.«zip.__new__» ⟨.type "zip"::ls.map λsr=>Value.ref sr.adr,[]⟩) (λ_ R s=>(∀sr∈ls,∃xs,sr.val s.heap xs)/\
   ∀h' n,n=s.heap.objs.size + ls.length->IsZip h' (n + 2) n (n + 1) .none->Tp h' n ((ls.zipIdx s.heap.objs.size).map λq=>Value.ref q.2)->Tp h' (n + 1) (ls.map λ_=>Value.none)->(∀q∈ls.zipIdx s.heap.objs.size,q.1.it h' q.2 0)->
    (∀b o,s.heap.get? b=some o->h'.get? b=some o)->R (.ok (.ret (.ref (n + 2)))) {s with heap:=h'}):=
  .of_wp λprog w A R s hh=>by
   obtain ⟨hv,hR⟩:=hh;have hsub:=sub_zip;unfold Builtin.«zip.__new__» Builtin.SmallTypes.newClass
   wp_walk
   refine ZGQ ls #[] s hv λh1 hi hz kp=>vA ?_
   have e1:(#[]++((ls.zipIdx s.heap.objs.size).map λq=>Value.ref q.2).toArray:Array x9).toList=(ls.zipIdx s.heap.objs.size).map λq=>Value.ref q.2:=by simp
   rw [e1];have hlen:((ls.zipIdx s.heap.objs.size).map λq=>Value.ref q.2).length=ls.length:=by simp
   refine vv (wpAny_newTuple ?_ (by rw [hlen];exact zB hl size6));refine vv (wpAny_newTuple ?_ (by rw [zG,hlen];exact zB hl size6));refine vv ?_;unfold Builtin.SmallTypes.newRecord;dsimp only;refine v8 (vA ⟨_,rfl,?_⟩) (by simp [sizeOk,Builtin.SmallTypes.ownedTupleFields,vK]);generalize e2:s.heap.objs.size + ls.length=n at *
   have e3:((ls.zipIdx s.heap.objs.size).map λq=>Value.ref q.2).map (λ_=>Value.none)=ls.map λ_=>Value.none:=by refine qK (by simp) λi h1 h2=>by simp
   dsimp only;rw [e3];generalize ((ls.zipIdx s.heap.objs.size).map λq=>Value.ref q.2)=us at *;generalize (ls.map λ_=>Value.none)=ns at *;have s1:(h1.push {cls:=.type "tuple",data:=.seq us.toArray}).objs.size=n + 1:=by rw [qk,hz]
   have s2:((h1.push {cls:=.type "tuple",data:=.seq us.toArray}).push {cls:=.type "tuple",data:=.seq ns.toArray}).objs.size=n + 2:=by rw [qk,s1]
   show R (.ok (.ret (.ref ((h1.push {cls:=.type "tuple",data:=.seq us.toArray}).push {cls:=.type "tuple",data:=.seq ns.toArray}).objs.size))) _;rw [s2];refine hR _ n rfl ?_ (zJ _ (zJ _ (by rw [<-hz];exact z9 _ rfl))) (zJ _ (by rw [<-s1];exact z9 _ rfl)) (λq hq=>(hi q hq).at λo e=>zJ _ (zJ _ (zJ _ e))) λb o e=>zJ _ (zJ _ (zJ _ (kp b o e)))
   have:=z9 ((h1.push {cls:=.type "tuple",data:=.seq us.toArray}).push {cls:=.type "tuple",data:=.seq ns.toArray}) (o:={cls:=.type "zip",data:=.fields #[.none,.bool false,.bool false,.ref h1.objs.size,.ref (h1.push {cls:=.type "tuple",data:=.seq us.toArray}).objs.size]}) rfl;rw [s2] at this;rw [hz,s1] at this;show _=_;rw [hz,s1];exact this
 refine callType_new PySem.F.called_zip (by decide) hct hcn hok PySem.F.entry_zip_new g ⟨hv,λh' n hn hz hTI hTO hi kp=>⟨⟨_,hz,rfl⟩,h h' n hn hz hTI hTO hi kp⟩⟩
end
end DL
namespace DL
open PySem PySem.W PyProof.Rows
variable {nrem:Nat}
section
noncomputable def Ck (lt:Nat->Nat->Bool) {α:Type}:KasT α->α
 | .ret a=>a
 | .ask i j k=>Ck lt (k (lt i j))
theorem Qy (lt:Nat->Nat->Bool) {α β:Type} (f:α->KasT β):∀t:KasT α,Ck lt (t.bind f)=Ck lt (f (Ck lt t))
 | .ret _=>rfl
 | .ask i j k=>Qy lt f (k (lt i j))
structure WO (lt:Nat->Nat->Bool):Prop where
 asy:∀i j,lt i j=true->lt j i=false
 neg:∀i j k,lt i k=true->lt i j=true∨lt j k=true
variable {lt:Nat->Nat->Bool}
theorem WO.refl (o:WO lt) (i:Nat):lt i i=false:=by
 cases h:lt i i
 ·rfl
 ·have:=o.asy i i h;rw [h] at this;exact this
theorem WO.tr (o:WO lt) {i j k:Nat} (h1:lt j i=false) (h2:lt k j=false):lt k i=false:=by
 cases h:lt k i
 ·rfl
 ·rcases o.neg k j i h with z | z
  ·rw [z] at h2;cases h2
  ·rw [z] at h1;cases h1
abbrev pt (p:Array Nat) (j:Nat):Nat:=p.getD j 0
theorem Ry (p:Array Nat) (j:Nat):pt p j=(p[j]?).getD 0:=by simp [pt]
noncomputable def Srt (lt:Nat->Nat->Bool) (p:Array Nat) (k:Nat):Prop:=∀i j,i<=j->j < k->lt (pt p j) (pt p i)=false
noncomputable def NIn (lt:Nat->Nat->Bool) (p:Array Nat) (k:Nat):Prop:=∀i j,i<=j->j < k->lt (pt p i) (pt p j)=false
theorem Jh {p:Array Nat} {i j:Nat} (hj:j<=p.size) (k:Nat):pt (vF p i j) k=if i<=k/\k < j then pt p (i + j - 1 - k) else pt p k:=by
 rw [Ry,vF,getElem?_mirror_all hj]
 split <;> exact (Ry ..).symm
theorem ZO8 {p:Array Nat} {src d:Nat} (hs:src < p.size) (hd:d<=src) (k:Nat):pt (bubble p src d) k=if k=src - d then pt p src else if src - d < k/\k<=src then pt p (k - 1) else pt p k:=by
 rw [Ry,getElem?_bubble hs d hd];by_cases h1:k=src - d
 ·rw [if_pos h1,if_pos h1];exact (Ry ..).symm
 ·rw [if_neg h1,if_neg h1];by_cases h2:src - d < k/\k<=src
  ·rw [if_pos h2,if_pos h2];exact (Ry ..).symm
  ·rw [if_neg h2,if_neg h2];exact (Ry ..).symm
theorem ZBO (o:WO lt) (p:Array Nat):∀f n,1<=n->Srt lt p n->∀m,Ck lt (kas_asc p f n)=m->n<=m/\m<=n + f/\Srt lt p m/\(m < n + f->lt (pt p m) (pt p (m - 1))=true)
 | 0,n,h1,h,m,e=>by have e':n=m:=e;subst e';exact ⟨zK _,zK _,h,λz=>absurd z (zU _)⟩
 | f + 1,n,h1,h,m,e=>by
  unfold kas_asc at e;have e1:Ck lt (if lt (pt p n) (pt p (n - 1))=true then KasT.ret n else kas_asc p f (n + 1))=m:=e;cases hc:lt (pt p n) (pt p (n - 1)) with
  | true=>
   rw [hc,if_pos rfl] at e1;have e':n=m:=e1;subst e';exact ⟨zK _,by lia,h,λ_=>hc⟩
  | false=>
   rw [hc,if_neg (by simp)] at e1;have h':Srt lt p (n + 1):=λi j hij hj=>by
    by_cases e:j < n
    ·exact h i j hij e
    ·have e':j=n:=by lia
     subst e';by_cases e2:i=j
     ·rw [e2];exact o.refl _
     ·exact o.tr (h i (j - 1) (by lia) (by lia)) hc
   obtain ⟨a,b,c,d⟩:=ZBO o p f (n + 1) (by lia) h' m e1;exact ⟨by lia,by lia,c,λz=>d (by lia)⟩
structure Dn (lt:Nat->Nat->Bool) (p:Array Nat) (n q:Nat):Prop where
 ni:NIn lt p n
 al:∀i j,n - (q + 1)<=i->i < n->n - (q + 1)<=j->j < n->lt (pt p i) (pt p j)=false
 qn:q + 1<=n
theorem NIn.rev {p:Array Nat} {n q:Nat} (d:Dn lt p n q) (hn:n<=p.size):NIn lt (vF p (n - (q + 1)) n) n:=λi j hij hj=>by
 have:=d.qn;rw [Jh hn,Jh hn];by_cases h1:n - (q + 1)<=i
 ·rw [if_pos ⟨h1,by lia⟩,if_pos ⟨by lia,hj⟩];exact d.al _ _ (by lia) (by lia) (by lia) (by lia)
 ·rw [if_neg (by lia)];by_cases h2:n - (q + 1)<=j
  ·rw [if_pos ⟨h2,hj⟩];exact d.ni _ _ (by lia) (by lia)
  ·rw [if_neg (by lia)];exact d.ni i j hij hj
theorem V6 (o:WO lt):∀f (p:Array Nat) n q,n + f<=p.size->Dn lt p n q->∀r,Ck lt (kas_desc f p n q)=r->r.1.Perm p/\r.2.1<=n + f/\n<=r.2.1/\Dn lt r.1 r.2.1 r.2.2
 | 0,p,n,q,hz,d,r,e=>by have e':(p,n,q)=r:=e;subst e';exact ⟨.refl _,zK _,zK _,d⟩
 | f + 1,p,n,q,hz,d,r,e=>by
  have qn:=d.qn;unfold kas_desc at e;have e1:Ck lt (if lt (pt p n) (pt p (n - 1))=true then (if q > 0 then kas_desc f (vF p (n - (q + 1)) n) (n + 1) 0 else kas_desc f p (n + 1) 0)
   else .ask (p.getD (n - 1) 0) (p.getD n 0) λd=>if d=true then .ret (p,n,q) else kas_desc f p (n + 1) (q + 1))=r:=e
  clear e;cases hc:lt (pt p n) (pt p (n - 1)) with
  | true=>
   rw [hc,if_pos rfl] at e1;have ext:∀p':Array Nat,NIn lt p' n->pt p' n=pt p n->(∀k,k < n->lt (pt p n) (pt p' k)=true∨k < n)->lt (pt p' (n - 1)) (pt p' n)=false->Dn lt p' (n + 1) 0:=λp' hni _ _ hl=>by
    refine ⟨λi j hij hj=> ?_,λi j h1 h2 h3 h4=> ?_,by lia⟩
    ·by_cases e:j < n
     ·exact hni i j hij e
     ·have e':j=n:=by lia
      subst e';by_cases e2:i=j
      ·rw [e2];exact o.refl _
      ·exact o.tr hl (hni i (j - 1) (by lia) (by lia))
    ·have e1:i=n:=by lia
     have e2:j=n:=by lia
     rw [e1,e2];exact o.refl _
   by_cases hq:q > 0
   ·rw [if_pos hq] at e1;have hl:lt (pt (vF p (n - (q + 1)) n) (n - 1)) (pt (vF p (n - (q + 1)) n) n)=false:=by
     rw [Jh (by lia),Jh (by lia),if_pos (by lia),if_neg (by lia)];cases hx:lt (pt p (n - (q + 1) + n - 1 - (n - 1))) (pt p n)
     ·rfl
     ·rcases o.neg _ (pt p (n - 1)) _ hx with z | z
      ·rw [d.al _ _ (by lia) (by lia) (by lia) (by lia)] at z;cases z
      ·rw [o.asy _ _ hc] at z;cases z
    obtain ⟨a,b,c,dd⟩:=V6 o f _ (n + 1) 0 (by rw [vF,mirror_size];lia) (ext _ (NIn.rev d (by lia)) (by rw [Jh (by lia),if_neg (by lia)]) (λk hk=>.inr hk) hl) r e1;exact ⟨a.trans (mirror_perm ..),by lia,by lia,dd⟩
   ·rw [if_neg hq] at e1;obtain ⟨a,b,c,dd⟩:=V6 o f p (n + 1) 0 (by lia) (ext p d.ni rfl (λk hk=>.inr hk) (o.asy _ _ hc)) r e1;exact ⟨a,by lia,by lia,dd⟩
  | false=>
   rw [hc,if_neg (by simp)] at e1;have e2:Ck lt (if lt (pt p (n - 1)) (pt p n)=true then .ret (p,n,q) else kas_desc f p (n + 1) (q + 1))=r:=e1;cases hd:lt (pt p (n - 1)) (pt p n) with
   | true=>
    rw [hd,if_pos rfl] at e2;have e3:(p,n,q)=r:=e2;subst e3;exact ⟨.refl _,by show n<=_;lia,zK _,d⟩
   | false=>
    rw [hd,if_neg (by simp)] at e2;have al':∀i,n - (q + 1)<=i->i < n + 1->lt (pt p i) (pt p n)=false/\lt (pt p n) (pt p i)=false:=λi h1 h2=>by
     by_cases e:i=n
     ·rw [e];exact ⟨o.refl _,o.refl _⟩
     ·exact ⟨o.tr hd (d.al i (n - 1) h1 (by lia) (by lia) (by lia)),o.tr (d.al (n - 1) i (by lia) (by lia) h1 (by lia)) hc⟩
    obtain ⟨a,b,c,dd⟩:=V6 o f p (n + 1) (q + 1) (by lia) ⟨λi j hij hj=>by
     by_cases e:j < n
     ·exact d.ni i j hij e
     ·have e':j=n:=by lia
      subst e';by_cases e2:i=j
      ·rw [e2];exact o.refl _
      ·exact o.tr hd (d.ni i (j - 1) (by lia) (by lia)),λi j h1 h2 h3 h4=>by
     by_cases ei:i=n
     ·rw [ei];exact (al' j (by lia) h4).2
     ·by_cases ej:j=n
      ·rw [ej];exact (al' i (by lia) h2).1
      ·exact d.al i j (by lia) (by lia) (by lia) (by lia),by lia⟩ r e2
    exact ⟨a,by lia,by lia,dd⟩
theorem ZJR (o:WO lt) {p:Array Nat} {n:Nat} (h1:1<=n) (hn:n<=nrem) (hz:nrem<=p.size) (d:NIn lt p n):∀r,Ck lt (kas_tail3 n nrem p)=r->r.2.Perm p/\r.1<=nrem/\1<=r.1/\Srt lt r.2 r.1:=by
 intro r e;unfold kas_tail3 at e;rw [Qy] at e;have s0:Srt lt (vF p 0 n) n:=λi j hij hj=>by rw [Jh (by lia),Jh (by lia),if_pos (by lia),if_pos (by lia)];exact d _ _ (by lia) (by lia)
 obtain ⟨a,b,c,_⟩:=ZBO o (vF p 0 n) (nrem - n) n h1 s0 _ rfl;have e':(Ck lt (kas_asc (vF p 0 n) (nrem - n) n),vF p 0 n)=r:=e;subst e';exact ⟨mirror_perm ..,by show Ck lt (kas_asc (vF p 0 n) (nrem - n) n)<=nrem;lia,by show 1<=Ck lt (kas_asc (vF p 0 n) (nrem - n) n);lia,c⟩
theorem ZEb (o:WO lt) {p:Array Nat} {n:Nat} (h1:1<=n) (hn:n < nrem) (hz:nrem<=p.size) (al:∀i j,i < n->j < n->lt (pt p i) (pt p j)=false) (hl:lt (pt p n) (pt p (n - 1))=true):
  ∀r,Ck lt (kas_descPart n nrem p)=r->r.2.Perm p/\r.1<=nrem/\1<=r.1/\Srt lt r.2 r.1:=by
 intro r e;unfold kas_descPart at e;rw [Qy] at e;have d0:Dn lt p (n + 1) 0:=⟨λi j hij hj=>by
  by_cases e:j < n
  ·exact al i j (by lia) e
  ·have e':j=n:=by lia
   subst e';by_cases e2:i=j
   ·rw [e2];exact o.refl _
   ·exact o.tr (o.asy _ _ hl) (al i (j - 1) (by lia) (by lia)),λi j _ _ _ _=>by
  have e1:i=n:=by lia
  have e2:j=n:=by lia
  rw [e1,e2];exact o.refl _,by lia⟩
 obtain ⟨a,b,c,dd⟩:=V6 o (nrem - (n + 1)) p (n + 1) 0 (by lia) d0 _ rfl
 revert a b c dd e
 generalize Ck lt (kas_desc (nrem - (n + 1)) p (n + 1) 0)=x;intro e a b c dd;have hx:x.1.size=p.size:=a.size_eq;split at e
 ·obtain ⟨a',b',c',d'⟩:=ZJR o (by lia) (by lia) (by rw [vF,mirror_size];lia) (NIn.rev dd (by lia)) r e;exact ⟨(a'.trans (mirror_perm ..)).trans a,b',c',d'⟩
 ·obtain ⟨a',b',c',d'⟩:=ZJR o (by lia) (by lia) (by lia) dd.ni r e;exact ⟨a'.trans a,b',c',d'⟩
theorem ZPf (o:WO lt) {p:Array Nat} (h1:1<=nrem) (hz:nrem<=p.size):∀r,Ck lt (kas_count nrem p)=r->r.2.Perm p/\r.1<=nrem/\1<=r.1/\Srt lt r.2 r.1:=by
 intro r e;unfold kas_count at e;rw [Qy] at e;obtain ⟨a,b,c,d⟩:=ZBO o p (nrem - 1) 1 (zK _) (λi j hij hj=>by
  have e1:i=0:=by lia
  have e2:j=0:=by lia
  rw [e1,e2];exact o.refl _) _ rfl
 revert a b c d e
 generalize Ck lt (kas_asc p (nrem - 1) 1)=n;intro e a b c d;split at e
 ·have e':(n,p)=r:=e;subst e';exact ⟨.refl _,by show n<=nrem;lia,a,c⟩
 ·rename_i hne;have hn:n < nrem:=by
   have:n≠nrem:=by simpa using hne
   lia
  have hl:=d (by lia);split at e
  ·rename_i hgt;have e':Ck lt (if lt (pt p 0) (pt p (n - 1))=true then .ret (n,p) else kas_descPart n nrem (vF p 0 n))=r:=e;cases hc:lt (pt p 0) (pt p (n - 1)) with
   | true=>
    rw [hc,if_pos rfl] at e';have e2:(n,p)=r:=e';subst e2;exact ⟨.refl _,by show n<=nrem;lia,a,c⟩
   | false=>
    rw [hc,if_neg (by simp)] at e';have al:∀i j,i < n->j < n->lt (pt p i) (pt p j)=false:=λi j hi hj=>o.tr (c j (n - 1) (by lia) (by lia) |> λz=>z) (o.tr hc (c 0 i (by lia) hi) |> λz=>by exact z)
    obtain ⟨a',b',c',d'⟩:=ZEb o (p:=vF p 0 n) a hn (by rw [vF,mirror_size];lia) (λi j hi hj=>by
     rw [Jh (by lia),Jh (by lia),if_pos (by lia),if_pos (by lia)];exact al _ _ (by lia) (by lia)) (by
     rw [Jh (by lia),Jh (by lia),if_neg (by lia),if_pos (by lia)];rcases o.neg _ (pt p (0 + n - 1 - (n - 1))) _ hl with z | z
     ·exact z
     ·rw [al _ _ (by lia) (by lia)] at z;cases z) r e'
    exact ⟨a'.trans (mirror_perm ..),b',c',d'⟩
  ·have e1:n=1:=by lia
   subst e1;exact ZEb o (zK _) hn hz (λi j hi hj=>by
    have e1:i=0:=by lia
    have e2:j=0:=by lia
    rw [e1,e2];exact o.refl _) hl r e
theorem ZCI (o:WO lt) (p:Array Nat) (k:Nat) (hs:Srt lt p k):∀f l r,r - l<=f->l<=r->r<=k->(∀i,i < l->lt (pt p k) (pt p i)=false)->(∀i,r<=i->i < k->lt (pt p k) (pt p i)=true)->
  ∀m,Ck lt (kas_place p k f l r)=m->m<=k/\(∀i,i < m->lt (pt p k) (pt p i)=false)/\(∀i,m<=i->i < k->lt (pt p k) (pt p i)=true)
 | 0,l,r,hf,hlr,hr,h1,h2,m,e=>by have e':l=m:=e;subst e';exact ⟨by lia,h1,λi hi hk=>h2 i (by lia) hk⟩
 | f + 1,l,r,hf,hlr,hr,h1,h2,m,e=>by
  unfold kas_place at e;split at e
  ·have e':l=m:=e;subst e';exact ⟨by lia,h1,λi hi hk=>h2 i (by lia) hk⟩
  ·rename_i hlt;have e':Ck lt (if lt (pt p k) (pt p ((l + r) / 2))=true then kas_place p k f l ((l + r) / 2) else kas_place p k f ((l + r) / 2 + 1) r)=m:=e;cases hc:lt (pt p k) (pt p ((l + r) / 2)) with
   | true=>
    rw [hc,if_pos rfl] at e';refine ZCI o p k hs f l ((l + r) / 2) (by lia) (by lia) (by lia) h1 (λi hi hk=> ?_) m e';rcases o.neg _ (pt p i) _ hc with z | z
    ·exact z
    ·rw [hs _ i hi hk] at z;cases z
   | false=>
    rw [hc,if_neg (by simp)] at e';exact ZCI o p k hs f ((l + r) / 2 + 1) r (by lia) (by lia) hr (λi hi=>o.tr (hs i ((l + r) / 2) (by lia) (by lia)) hc) h2 m e'
theorem ZFA (o:WO lt):∀f (p:Array Nat) k,k + f=p.size->Srt lt p k->(Ck lt (kas_bin f p k)).Perm p/\Srt lt (Ck lt (kas_bin f p k)) p.size
 | 0,p,k,hz,hs=>⟨.refl _,by
  have:k=p.size:=by lia
  rw [<-this];exact hs⟩
 | f + 1,p,k,hz,hs=>by
  unfold kas_bin;rw [Qy];obtain ⟨hm,h1,h2⟩:=ZCI o p k hs k 0 k (by lia) (by lia) (zK _) (λi hi=>by lia) (λi hi hk=>by lia) _ rfl
  revert hm h1 h2
  generalize Ck lt (kas_place p k k 0 k)=m;intro hm h1 h2;have sz:(bubble p k (k - m)).size=p.size:=bubble_size ..;have hk:k < p.size:=by lia
  have e:∀j,pt (bubble p k (k - m)) j=if j=m then pt p k else if m < j/\j<=k then pt p (j - 1) else pt p j:=λj=>by
   rw [ZO8 hk (by lia)];have:k - (k - m)=m:=by lia
   rw [this]
  obtain ⟨a,b⟩:=ZFA o f (bubble p k (k - m)) (k + 1) (by lia) (λi j hij hj=>by
   rw [e i,e j];by_cases ji:j=m
   ·rw [if_pos ji];by_cases ii:i=m
    ·rw [if_pos ii];exact o.refl _
    ·rw [if_neg ii,if_neg (by lia)];exact h1 i (by lia)
   ·rw [if_neg ji];by_cases jm:m < j
    ·rw [if_pos ⟨jm,by lia⟩];by_cases ii:i=m
     ·rw [if_pos ii];exact o.asy _ _ (h2 _ (by lia) (by lia))
     ·rw [if_neg ii];by_cases im:m < i
      ·rw [if_pos ⟨im,by lia⟩];exact hs _ _ (by lia) (by lia)
      ·rw [if_neg (by lia)];exact hs _ _ (by lia) (by lia)
    ·rw [if_neg (by lia),if_neg (by lia),if_neg (by lia)];exact hs i j hij (by lia))
  rw [sz] at b;exact ⟨a.trans (bubble_perm ..),b⟩
theorem ZIk (o:WO lt) {n:Nat} (hn:1<=n):(Ck lt (kas_sort n)).toList.Perm (zX n)/\Srt lt (Ck lt (kas_sort n)) n:=by
 unfold kas_sort;rw [Qy];obtain ⟨a,b,c,d⟩:=ZPf o (p:=(zX n).toArray) (nrem:=n) hn (by simp) _ rfl
 revert a b c d
 generalize Ck lt (kas_count n (zX n).toArray)=x;intro a b c d;have hx:x.2.size=n:=by rw [a.size_eq];simp
 split
 ·have e:max x.1 1=x.1:=by lia
  rw [e];obtain ⟨a',b'⟩:=ZFA o (n - x.1) x.2 x.1 (by lia) d;rw [hx] at b';exact ⟨by simpa using (a'.trans a).toList,b'⟩
 ·have e:x.1=n:=by lia
  rw [e] at d;exact ⟨by simpa [Ck] using a.toList,d⟩
end
end DL
namespace DL
open PySem PySem.Spec L2
open PyProof.Rows hiding St
variable {vG:List (xW×Obj)} {σ:St} {H:Hp} {s:xk} {w:xA} {K:PySem.W.Frag} {elts:List xY} {i:Nat} {a:Wd} {ta:DA}
section
variable {X:Cx} {vG:List (xW×Obj)} {σ:St} {H:Hp} {s:xk} {h':Heap}
theorem ZBE {t':Nat} {fp:List xW} (I:Inv X vG σ H s) (k:∀b o,b ∉ fp->s.heap.get? b=some o->h'.get? b=some o) (hf:∀b∈fp,FpOk X vG H b):Inv X vG σ H {s with heap:=h',toks:=t'}:=by
 have nit:∀b u,H b=some u->b ∉ fp:=λb u e z=>by rw [(hf b z).1] at e;cases e
 refine I.step (g':=s.gens) (d':=s.drawn) (ch:=fp) (λb hb=> ?_) (λb o _ _ hc e _=>k b o hc e) (λb o _ _ hc e _=>⟨o.slots,k b o hc e⟩) (λ_ _ _ _ n=>n)
  (λb o hc e=>⟨o,k b o hc e⟩) (λ_ _ e=>e) (λ_ _ _ e=>e) (λb ps e=>⟨#[],by rw [e];simp⟩) (λm hm=> ?_) (λb u e=> ?_) I.bare
 ·obtain ⟨f0,f1,f2,f3,f4,f5⟩:=hf b hb;exact ⟨f3,f1,f4,f5⟩
 ·obtain ⟨o,es,ep,ho,r⟩:=hm;exact ⟨o,es,ep,k _ o (λz=>(hf _ z).2.1 rfl) ho,r⟩
 ·refine (I.hok b u e).stay (λc v hc q=>k c v ?_ q) (λ_ q=>q) λ_ _ q=>q
  rcases hc with z | z
  ·rw [z];exact nit b u e
  ·exact nit c _ z
theorem ZJK {t':Nat} {fp:List xW} {p:xW} {xs:List V} {its:List x9} (I:Inv X vG σ H s) (k:∀b o,b ∉ fp->s.heap.get? b=some o->h'.get? b=some o) (hf:∀b∈fp,FpOk X vG H b) (hp:s.heap.objs.size<=p)
  (hz:xs.length<=sizeLine) (r:Vals xs its) (ht:Tp h' p its):Inv X vG σ (upd H p (.tup xs)) {s with heap:=h',toks:=t'}:=by
 obtain ⟨g0,g1,g2,g3,g4,g5⟩:=I.K8 (H':=H) hp (I.hok.fresh hp);exact ZDP (ZBE I k hf) g0 (zB I.sz hp) g1 g4 g5 ⟨hz,its,r,_,ht,rfl,_,rfl⟩
end
noncomputable def Src.sq (K:PySem.W.Frag) (H:Hp) (xs:List V):Src->Prop
 | .l a=>SqL K H a xs
 | .t a=>SqT K H a xs
variable {sr:Src} {ls:List Src}
theorem Src.sq.val {X:Cx} {xs:List V} (I:Inv X vG σ H s) (h:sr.sq X.K H xs):∃its:List x9,Vals xs its/\sr.val s.heap its.toArray/\xs.length<=sizeLine:=by
 cases sr with
 | l a=>obtain ⟨its,r,p,hz⟩:=I.list h;exact ⟨its,r,p.isList,hz⟩
 | t a=>obtain ⟨its,r,p,hz⟩:=I.tuple h;exact ⟨its,r,p,hz⟩
theorem Src.sq.inj {X:Cx} {xs ys:List V} (I:Inv X vG σ H s) (h:sr.sq X.K H xs) (h':sr.sq X.K H ys):xs=ys:=by
 cases sr with
 | l a=>exact I.ZCg h h'
 | t a=>exact I.ZBS h h'
noncomputable def Ite (K:PySem.W.Frag) (sr:Src) (n:Int):It:=
 ⟨λi H=>∃xs x,sr.sq K H xs/\xs[i]? =some x,λi H v H'=>∃p x,v=.ref p/\H p=none/\H'=upd H p (.tup [.int (n + i),x])/\∀xs,sr.sq K H xs->xs[i]? =some x,λi H=>∃xs,sr.sq K H xs/\xs.length<=i⟩
theorem ZIi {P:xj} {x1} {pos:Pos} (sr:Src) (n:Int) (e it:xW) (hne:e≠it):
  Turn P w K (.Tuple elts x1 pos) (Ite K sr n) [e,it] e (λi h=>∃g old,En h e it .none (n + i) g old/\Gv (n + i) g/\sr.it h it i) where
 mem:=by simp
 obj:=λi h st b hb=>by
  obtain ⟨g,old,he,_,o,ho,_,hd⟩:=st;rcases (show b=e∨b=it by simpa using hb) with rfl | rfl
  ·exact ⟨_,he,λv z=>by cases z⟩
  ·exact ⟨o,ho,λv z=>by rw [hd] at z;cases z⟩
 keep:=λi h h' st k=>by obtain ⟨g,old,he,hg,hi⟩:=st;exact ⟨g,old,k e (by simp) _ he,hg,hi.at λo q=>k it (by simp) o q⟩
 item:=by
  intro X hP hw hK hc i vG s σ H E I hf st hg;subst hP hw hK;obtain ⟨xs,x,hq,hx⟩:=hg;obtain ⟨its,rv,hv,hz⟩:=Src.sq.val I hq;obtain ⟨u,hu,ru⟩:=rv.get hx;obtain ⟨g,old,he,hgv,hi⟩:=st;refine ZQC he hgv hi hv (x:=u) (by simpa using hu) hne λh1 t tk e1 i1 t1 z1 k1=>⟨_,rfl,?_⟩
  refine ZLU (s:={s with heap:=h1,toks:=tk}) e1 λh2 e2 sb=> ?_
  have hpe:s.heap.objs.size≠e:=qP (zw he);have I2:Inv X vG σ (upd H s.heap.objs.size (.tup [.int (n + i),x])) {s with heap:=h2,toks:=tk}:=
   ZJK (fp:= [e,it]) (its:= [.int (n + i) t,u]) I (λb o hb q=>by
    have hb':b≠e/\b≠it:=by simpa using hb
    exact sb.extBut b o hb'.1 (k1 b o hb'.1 hb'.2 q)) hf (zK _) (by show 2<=sizeLine;decide) (.cons ⟨t,rfl⟩ (.cons ru .nil)) (sb.extBut _ _ hpe t1)
  have hfr:H s.heap.objs.size=none:=I.hok.fresh (zK _);refine ⟨.ref s.heap.objs.size,_,I2,rfl,⟨_,x,rfl,hfr,rfl,λys hy=>by rw [Src.sq.inj I hy hq];exact hx⟩,⟨.none,u,?_,.inl rfl,i1.at λo q=>sb.extBut _ _ (Ne.symm hne) q⟩,λb hb=> ?_⟩
  ·have ee:n + (i:Int) + 1=n + ((i + 1:Nat):Int):=by lia
   rw [<-ee];exact e2
  ·have hb':b=e∨b=it:=by simpa using hb
   rw [Bh (λz=> ?_)]
   ·exact (hf b hb).1
   ·rcases hb' with rfl | rfl
    ·exact hpe z.symm
    ·have hlt:=Src.it.lt hi;rw [z] at hlt;exact zU _ hlt
 done:=by
  intro X hP hw hK hc i vG s σ H E I hf st hg;subst hP hw hK;obtain ⟨xs,hq,hx⟩:=hg;obtain ⟨its,rv,hv,hz⟩:=Src.sq.val I hq;obtain ⟨g,old,he,hgv,hi⟩:=st;have hl:=rv.length;refine ZMK (I.ok.hd hc) he hi hv (by simp;lia) λh1 xb=>⟨rfl,?_⟩
  exact ZBE (t':=s.toks) (fp:= [e,it]) I (λb o hb q=>xb b o (λz=>hb (by simp [z])) q) hf
 self:=λ_ _ _ _ _ st h=>by obtain ⟨g,old,he,_⟩:=st;exact ZDH he h
section
variable {X:Cx} {E:XK}
theorem ZPQ {prog:xj} {A:xK} {E:x9->xk->Prop} {xs:Array x9} {Q:x9->xk->Prop} (hv:sr.val s.heap xs)
  (h:∀h',En h' (s.heap.objs.size + 1) s.heap.objs.size .none 0 .none .none->sr.it h' s.heap.objs.size 0->(∀b o,s.heap.get? b=some o->h'.get? b=some o)->Q (.ref (s.heap.objs.size + 1)) {s with heap:=h'}):
  vj (vV prog w) A (call (.type "enumerate") [.ref sr.adr]) Q E s:=by
 have g:Meets (Builtin.«enumerate.__new__» ⟨[.type "enumerate",.ref sr.adr],[]⟩) (λ_ R s=>sr.val s.heap xs/\
   R (.ok (.ret (.ref (s.heap.push {cls:=.type sr.itn,data:=.fields #[.ref sr.adr,.int 0 0]}).objs.size)))
    {s with heap:=(s.heap.push {cls:=.type sr.itn,data:=.fields #[.ref sr.adr,.int 0 0]}).push {cls:=.type "enumerate",data:=.fields #[.none,.bool false,.ref s.heap.objs.size,vW 0,.none,.none]}}):=
  .of_wp λprog w A R s h=>by
   obtain ⟨hp,g,d,tk,os⟩:=s;obtain ⟨hl,h⟩:=h;have hsub:=sub_enumerate;have hL:sr.val (Shared.heap ⟨hp,g,d,tk,os⟩) xs:=hl
   wp_walk
   refine wpAny_stack_any λst=>vA ?_
   split
   ·rename_i c _ _ _ _ _
    cases (c == Value.type "enumerate") <;> (wp_walk using Src.iter hL;exact ⟨_,rfl,h⟩)
   ·wp_walk using Src.iter hL
    exact ⟨_,rfl,h⟩
 refine callType_new PySem.F.called_enumerate (by decide) (PySem.F.typeCall_enumerate_1 _) (PySem.F.newCall_enumerate_1 _) (λobj=>PySem.F.args_object_init_2 obj _) PySem.F.entry_enumerate_new g ⟨hv,?_⟩;have hz:(s.heap.push {cls:=.type sr.itn,data:=.fields #[.ref sr.adr,.int 0 0]}).objs.size=s.heap.objs.size + 1:=qk ..;show _/\_;rw [hz];have he:En ((s.heap.push {cls:=.type sr.itn,data:=.fields #[.ref sr.adr,.int 0 0]}).push {cls:=.type "enumerate",data:=.fields #[.none,.bool false,.ref s.heap.objs.size,vW 0,.none,.none]}) (s.heap.objs.size + 1) s.heap.objs.size .none 0 .none .none:=by
  have:=z9 (s.heap.push {cls:=.type sr.itn,data:=.fields #[.ref sr.adr,.int 0 0]}) (o:={cls:=.type "enumerate",data:=.fields #[.none,.bool false,.ref s.heap.objs.size,vW 0,.none,.none]}) rfl;rw [hz] at this;exact this
 exact ⟨⟨_,he,rfl⟩,h _ he ⟨_,zJ _ (z9 _ rfl),rfl,rfl⟩ λb o x=>zJ _ (zJ _ x)⟩
noncomputable def ZQ2 (K:PySem.W.Frag) (ta:TA):TI:=λσ H R=>ta σ H λvs H1=>∃sr xs,vs= [.ref (Src.adr sr)]/\sr.sq K H1 xs/\R (Ite K sr 0) H1
theorem ZPE {elts:List xY} {x1} {tp:Pos} {a:xY} {ta:TA} {p pos:Pos} (hg:Gl X "enumerate") (hm:X.mg "enumerate"=none) (ha:PA X [a] ta) (hs:vq [a] X.env= [(false,eval a X.env)]:=by rfl):PI X (.Tuple elts x1 tp) (.Call (.Name "enumerate" p) [a] [] pos) (ZQ2 X.K ta):=by
 intro vG s σ H R I h;refine Call_ (J9 I hg hm PyProof.Rows.boot_enumerate (PyProof.Rows.callWith_type1 (thn (ha pos vG s σ H _ I h) λus s1 ⟨vs,H1,I1,r1,q1⟩=> ?_) hs rfl));obtain ⟨sr,xs,e,hq,q⟩:=q1;subst e;cases r1 with
 | cons r rr=>
  cases rr;cases r;obtain ⟨its,rv,hv,hz⟩:=Src.sq.val I1 hq;refine ZPQ hv λh' he hi kp=> ?_
  refine ZDH he ?_;have I2:Inv X vG σ H1 {s1 with heap:=h'}:=I1.kept (t':=s1.toks) kp;refine ⟨s1.heap.objs.size + 1,[s1.heap.objs.size + 1,s1.heap.objs.size],_,_,H1,rfl,I2,ZIi sr 0 _ _ (Nat.succ_ne_self _),⟨.none,.none,by simpa using he,.inl rfl,hi⟩,λb hb=> ?_,q⟩;have hb':b=s1.heap.objs.size + 1∨b=s1.heap.objs.size:=by simpa using hb
  have hle:s1.heap.objs.size<=b:=by rcases hb' with rfl | rfl <;> lia
  exact I1.K8 hle (I1.hok.fresh hle)
end
inductive DrV (K:PySem.W.Frag) (H:Hp) (i:Nat):List Src->List V->Prop where
 | nil:DrV K H i [] []
 | cons {sr r v us xs} (hq:Src.sq K H xs sr) (hx:xs[i]? =some v) (t:DrV K H i r us):DrV K H i (sr::r) (v::us)
inductive StV (K:PySem.W.Frag) (H:Hp) (i:Nat):List Src->Prop where
 | here {sr r xs} (hq:Src.sq K H xs sr) (hx:xs.length<=i):StV K H i (sr::r)
 | there {sr r v xs} (hq:Src.sq K H xs sr) (hx:xs[i]? =some v) (t:StV K H i r):StV K H i (sr::r)
noncomputable def Itz (K:PySem.W.Frag) (ls:List Src):It:=
 ⟨λi H=>∃us,DrV K H i ls us,λi H v H'=>∃p us,v=.ref p/\H p=none/\H'=upd H p (.tup us)/\∀us',DrV K H i ls us'->us'=us,λi H=>StV K H i ls⟩
theorem DrV.length {us:List V} (d:DrV K H i ls us):us.length=ls.length:=by
 induction d with
 | nil=>rfl
 | cons _ _ _ ih=>simp [ih]
section
variable {X:Cx} {vG:List (xW×Obj)} {σ:St} {H:Hp} {s:xk}
theorem DrV.inj (I:Inv X vG σ H s) :∀{ls:List Src} {us us':List V},DrV X.K H i ls us->DrV X.K H i ls us'->us=us'
 | [],_,_,d,d'=>by cases d;cases d';rfl
 | sr::ls,_,_,d,d'=>by
  cases d with
  | cons hq hx t=>
   cases d' with
   | cons hq' hx' t'=>
    have e:=Src.sq.inj I hq hq';subst e;rw [hx] at hx';cases hx';rw [DrV.inj I t t']
theorem DrV.drw (I:Inv X vG σ H s) :∀{l:List (Src×xW)} {us:List V},DrV X.K H i (l.map (·.1)) us->(∀q∈l,q.1.it s.heap q.2 i)->∃ws,Drw s.heap i l ws/\Vals us ws
 | [],us,d,h=>by cases d;exact ⟨[],.nil,.nil⟩
 | (sr,p)::l,us,d,h=>by
  cases d with
  | cons hq hx t=>
   obtain ⟨its,rv,hv,hz⟩:=Src.sq.val I hq;obtain ⟨u,hu,ru⟩:=rv.get hx;obtain ⟨ws,d',r'⟩:=DrV.drw I t λq hq=>h q (zZ _ hq)
   exact ⟨u::ws,.cons (h (sr,p) zV) hv (by simpa using hu) d',.cons ru r'⟩
theorem StV.drw (I:Inv X vG σ H s) :∀{l:List (Src×xW)},StV X.K H i (l.map (·.1))->(∀q∈l,q.1.it s.heap q.2 i)->DrwE s.heap i l
 | [],d,h=>by cases d
 | (sr,p)::l,d,h=>by
  cases d with
  | here hq hx=>
   obtain ⟨its,rv,hv,hz⟩:=Src.sq.val I hq;have hl:=rv.length;exact .here (h (sr,p) zV) hv (by simp;lia)
  | there hq hx t=>
   obtain ⟨its,rv,hv,hz⟩:=Src.sq.val I hq;obtain ⟨u,hu,ru⟩:=rv.get hx;exact .there (h (sr,p) zV) hv (by simpa using hu) (StV.drw I t λq hq=>h q (zZ _ hq))
end
theorem ZM1 {P:xj} {x1} {pos:Pos} (l:List (Src×xW)) (z TI TO:xW) (a:ApZ TO l) (zz:z≠TO/\(∀q∈l,q.2≠z/\q.1.adr≠z)) (tt:TI≠z/\TI≠TO/\∀q∈l,q.2≠TI) (hsz:l.length<=1000000) (hne:l≠ []):
  Turn P w K (.Tuple elts x1 pos) (Itz K (l.map (·.1))) (z::TI::TO::l.map (·.2)) z
   (λi h=>IsZip h z TI TO .none/\Tp h TI (l.map λq=>Value.ref q.2)/\(∃os,Tp h TO os/\os.length=l.length)/\∀q∈l,q.1.it h q.2 i) where
 mem:=by simp
 obj:=λi h st b hb=>by
  obtain ⟨hz,hTI,⟨os,hTO,_⟩,hi⟩:=st;rcases zx.mp hb with rfl | hb
  ·exact ⟨_,hz,λv z=>by cases z⟩
  ·rcases zx.mp hb with rfl | hb
   ·exact ⟨_,hTI,λv z=>by cases z⟩
   ·rcases zx.mp hb with rfl | hb
    ·exact ⟨_,hTO,λv z=>by cases z⟩
    ·obtain ⟨q,hq,rfl⟩:=zF.mp hb;obtain ⟨o,ho,_,hd⟩:=hi q hq;exact ⟨o,ho,λv z=>by rw [hd] at z;cases z⟩
 keep:=λi h h' st k=>by obtain ⟨hz,hTI,⟨os,hTO,ho⟩,hi⟩:=st;exact ⟨k z (by simp) _ hz,k TI (by simp) _ hTI,⟨os,k TO (by simp) _ hTO,ho⟩,λq hq=>(hi q hq).at λo e=>k q.2 (by simp only [zx];exact .inr (.inr (.inr (zF.mpr ⟨q,hq,rfl⟩)))) o e⟩
 item:=by
  intro X hP hw hK hc i vG s σ H E I hf st hg;subst hP hw hK;obtain ⟨us,dv⟩:=hg;obtain ⟨hz,hTI,⟨os,hTO,ho⟩,hi⟩:=st;obtain ⟨ws,dw,rv⟩:=DrV.drw I dv hi;refine ZK4 hz hTI hTO ho hsz hne a zz dw λh1 z1 t1 i1 p1 s1 k1=>⟨_,rfl,?_⟩
  refine wpAny_letOwnedTupleGo_zip (s:={s with heap:=h1}) z1 λh2 z2 sb=> ?_
  have hpz:s.heap.objs.size≠z:=qP (zw hz);have hul:us.length<=sizeLine:=by rw [dv.length,zG];exact zB hsz size6
  have I2:Inv X vG σ (upd H s.heap.objs.size (.tup us)) {s with heap:=h2}:=
   ZJK (t':=s.toks) (fp:=z::TI::TO::l.map (·.2)) (its:=ws) I (λb o hb q=>by simp only [zx,not_or] at hb;exact sb.extBut b o hb.1 (k1 b o hb.1 hb.2.2.1 hb.2.2.2 q)) hf (zK _) hul rv (sb.extBut _ _ hpz p1)
  have hfr:H s.heap.objs.size=none:=I.hok.fresh (zK _)
  have up:∀b o,b≠z->b≠TO->b ∉ l.map (·.2)->s.heap.get? b=some o->h2.get? b=some o:=λb o b1 b2 b3 q=>sb.extBut b o b1 (k1 b o b1 b2 b3 q)
  refine ⟨.ref s.heap.objs.size,_,I2,rfl,⟨_,us,rfl,hfr,rfl,λus' d'=>DrV.inj I d' dv⟩,⟨z2,up TI _ tt.1 tt.2.1 (λhm=> ?_) hTI,⟨ws,sb.extBut _ _ (Ne.symm zz.1) t1,dw.length⟩,λq hq=>(i1 q hq).at λo e=>sb.extBut _ _ (zz.2 q hq).1 e⟩,λb hb=> ?_⟩
  ·obtain ⟨q,hq,e⟩:=zF.mp hm;exact tt.2.2 q hq e
  ·rw [Bh (λe=> ?_)]
   ·exact (hf b hb).1
   ·have lt:b < s.heap.objs.size:=by
     rcases zx.mp hb with rfl | hb
     ·exact zw hz
     ·rcases zx.mp hb with rfl | hb
      ·exact zw hTI
      ·rcases zx.mp hb with rfl | hb
       ·exact zw hTO
       ·obtain ⟨q,hq,rfl⟩:=zF.mp hb;exact (hi q hq).lt
    rw [e] at lt;exact zU _ lt
 done:=by
  intro X hP hw hK hc i vG s σ H E I hf st hg;subst hP hw hK;obtain ⟨hz,hTI,⟨os,hTO,ho⟩,hi⟩:=st;have dw:=StV.drw I hg hi;refine ZLN (I.ok.hd hc) hz hTI hTO ho hsz hne a zz dw λh1 k1=>⟨rfl,?_⟩
  exact ZBE (t':=s.toks) (fp:=z::TI::TO::l.map (·.2)) I (λb o hb q=>by simp only [zx,not_or] at hb;exact k1 b o hb.1 hb.2.2.1 hb.2.2.2 q) hf
 self:=λ_ _ _ _ _ st h=>wpAny_pyIter_zip st.1 h
noncomputable def Hy (G:DH) (j:Nat):List D->Option (Option (List D))
 | []=>some (some [])
 | d::r=>match Bu d G with
  | none=>none
  | some xs=>match xs[j]? with
   | none=>some none
   | some x=>match Hy G j r with
    | some (some ys)=>some (some (x::ys))
    | o=>o
noncomputable def Gf (ds:List D) (j:Nat) (G:DH):Option (Option D):=(Hy G j ds).map λo=>o.map D.tup
def lenOf (G:DH) (d:D):Nat:=match Bu d G with
 | some xs=>xs.length
 | none=>0
def Lk (G:DH) (d:D):Bool:=(Bu d G).isSome
noncomputable def Eo (n:Int) (d:D) (j:Nat) (G:DH):Option (Option D):=match Bu d G with
 | none=>none
 | some xs=>some (xs[j]?.map λx=>.tup [.int (n + j),x])
noncomputable def Iv (ds:List D) (G:DH):R ItD:=match ds with
 | [d]=>if Lk G d=true then .ok (.fn (lenOf G d) (Eo 0 d)) G else .bad
 | _=>.bad
noncomputable def Hz (n:Nat) (ds:List D) (G:DH):R ItD:=if ds.all (Lk G)=true/\ds.length=n then .ok (.fn (lenOf G (ds.headD .non)) (Gf ds)) G else .bad
section
variable {X:Cx} {E:XK}
theorem ZDu {G:DH} {d:D} {v:V} {xs:List D} (s:Sim a G) (r:Rep a d v) (h:Bu d G=some xs):
  ∃sr:Src,v=.ref sr.adr/\(∃vs,sr.sq a.K a.H vs)/\∀b:Wd,Ext a b->∀G',Sim b G'->∀ys,Bu d G'=some ys->∃us,sr.sq b.K b.H us/\Reps b ys us:=by
 cases d with
 | tup ds=>
  obtain ⟨p,vs,rfl,hq,rv⟩:=r;refine ⟨.t p,rfl,⟨vs,hq⟩,λb x G' s' ys hy=> ?_⟩
  cases (show some ds=some ys from hy)
  exact ⟨vs,x.sqT hq,rv.mono x⟩
 | fl ds=>
  obtain ⟨p,vs,rfl,hq,rv⟩:=r;refine ⟨.l p,rfl,⟨vs,hq.sq⟩,λb x G' s' ys hy=> ?_⟩
  cases (show some ds=some ys from hy)
  exact ⟨vs,(x.fzL hq).sq,rv.mono x⟩
 | ref i=>
  obtain ⟨hi,rfl⟩:=r;have hx:∃zs,G[i]? =some (.lst zs):=by
   unfold Bu at h;dsimp only at h;split at h
   ·rename_i zs hz;exact ⟨zs,hz⟩
   ·cases h
  obtain ⟨zs,hz⟩:=hx;obtain ⟨vs,e1,_⟩:=s.lst hz;refine ⟨.l (a.m i),rfl,⟨vs,.of e1⟩,λb x G' s' ys hy=> ?_⟩;unfold Bu at hy;dsimp only at hy;split at hy
  ·rename_i zs' hz';cases hy;obtain ⟨us,e2,r2⟩:=s'.lst hz';rw [x.m i hi] at e2;exact ⟨us,.of e2,r2⟩
  ·cases hy
 | _=>cases h
theorem ZNb {G:DH} {d:D} {v:V} (hk:a.K=X.K) (rd:∀b:Wd,Ext a b->∀G',Sim b G'->∀ys,Bu d G'=some ys->∃us,sr.sq b.K b.H us/\Reps b ys us) (n:Nat):RepI a (.fn n (Eo 0 d)) (Ite X.K sr 0):=by
 intro b x G' s' i;have kb:b.K=X.K:=x.k.trans hk;constructor
 ·intro e he;unfold Eo at he;split at he
  ·cases he
  ·rename_i ys hy;obtain ⟨us,hq,ru⟩:=rd b x G' s' ys hy;rw [kb] at hq;cases hyi:ys[i]? with
   | none=>rw [hyi] at he;cases he
   | some y=>
    rw [hyi] at he;have he':D.tup [.int (0 + i),y]=e:=by simpa using he
    subst he';obtain ⟨u,hu,rx⟩:=ru.get hyi;refine ⟨⟨us,u,hq,hu⟩,?_⟩;rintro w H' ⟨p,u',rfl,hp,rfl,hu'⟩;refine ⟨b.put p (.tup [.int (0 + i),u']),rfl,Ext.put hp,s'.put hp,p,_,rfl,.of Gh,?_⟩;have e1:=hu' us hq;rw [hu] at e1;cases e1;exact ⟨_,_,rfl,rfl,Reps.cons (rx.mono (Ext.put hp)) rfl⟩
 ·intro he;unfold Eo at he;split at he
  ·cases he
  ·rename_i ys hy;obtain ⟨us,hq,ru⟩:=rd b x G' s' ys hy;rw [kb] at hq;cases hyi:ys[i]? with
   | none=>exact ⟨us,hq,by rw [<-ru.length];exact qR.mp hyi⟩
   | some y=>rw [hyi] at he;cases he
theorem Ur {elts:List xY} {x1} {tp:Pos} {e:xY} {p pos:Pos} (hg:Gl X "enumerate") (hm:X.mg "enumerate"=none) (ha:QA X E [e] ta) (hs:vq [e] X.env= [(false,eval e X.env)]:=by rfl):
  QI X E (.Tuple elts x1 tp) (.Call (.Name "enumerate" p) [e] [] pos) (Dh Iv ta):=(ZPE hg hm ha hs).mono λσ H Q h=>by
 obtain ⟨a,S,G,hk,rfl,s,r,h⟩:=h;refine ⟨a,S,G,hk,rfl,s,r,(Rf h).imp ?_⟩;rintro vs _ ⟨b,ds,G1,rfl,x,s1,q,-,h1⟩;unfold Iv at h1;split at h1
 ·rename_i d;split at h1
  ·rename_i hok;obtain ⟨v,r,e1,q1,q2⟩:=q
   cases (show r= [] from q2)
   subst e1
   obtain ⟨xs,hx⟩:=jv.mp (show (Bu d G1).isSome=true from hok)
   obtain ⟨sr,rfl,⟨us,hq⟩,rd⟩:=ZDu s1 q1 hx;have kb:b.K=X.K:=x.k.trans hk;exact ⟨sr,us,rfl,by rw [<-kb];exact hq,h1 b _ (Ext.refl b) s1 (ZNb (G:=G1) (v:=.non) kb rd _)⟩
  ·exact h1.elim
 ·exact h1.elim
theorem ZF3 {G:DH} (s:Sim a G):∀{ds:List D} {vs:List V},Reps a ds vs->ds.all (Lk G)=true->∃ls:List Src,vs=ls.map (λsr=>V.ref sr.adr)/\(∀sr∈ls,∃us,sr.sq a.K a.H us)/\
   ∀b:Wd,Ext a b->∀G',Sim b G'->∀i,(∀ys,Hy G' i ds=some (some ys)->∃us,DrV b.K b.H i ls us/\Reps b ys us)/\(Hy G' i ds=some none->StV b.K b.H i ls)
 | [],vs,r,_=>by
  cases (show vs= [] from r)
  refine ⟨[],rfl,(λ_ h=>nomatch h),λb x G' s' i=>⟨λys h=> ?_,λh=> ?_⟩⟩
  ·cases h;exact ⟨[],.nil,rfl⟩
  ·cases h
 | d::ds,vs,r,h=>by
  rw [jX,zA] at h;obtain ⟨v,vr,rfl,q1,q2⟩:=r
  obtain ⟨xs,hx⟩:=jv.mp (show (Bu d G).isSome=true from h.1)
  obtain ⟨sr,rfl,hq,rd⟩:=ZDu s q1 hx;obtain ⟨ls,rfl,hqs,rds⟩:=ZF3 s q2 h.2;refine ⟨sr::ls,rfl,λsr' hm=> ?_,λb x G' s' i=>⟨λys hy=> ?_,λhy=> ?_⟩⟩
  ·rcases zx.mp hm with rfl | hm
   ·exact hq
   ·exact hqs sr' hm
  ·unfold Hy at hy;split at hy
   ·cases hy
   ·rename_i zs hz;obtain ⟨us,hu,ru⟩:=rd b x G' s' zs hz;split at hy
    ·cases hy
    ·rename_i y hyi;obtain ⟨u,hui,rx⟩:=ru.get hyi;split at hy
     ·rename_i ys' hys;cases hy;obtain ⟨us',d',r'⟩:=(rds b x G' s' i).1 ys' hys;exact ⟨u::us',.cons hu hui d',Reps.cons rx r'⟩
     ·rename_i hno;exact absurd hy (hno _)
  ·unfold Hy at hy;split at hy
   ·cases hy
   ·rename_i zs hz;obtain ⟨us,hu,ru⟩:=rd b x G' s' zs hz;split at hy
    ·rename_i hyi;exact .here hu (by rw [<-ru.length];exact qR.mp hyi)
    ·rename_i y hyi;obtain ⟨u,hui,rx⟩:=ru.get hyi;split at hy
     ·cases hy
     ·exact .there hu hui ((rds b x G' s' i).2 hy)
theorem ZO2 {ds:List D} (hk:a.K=X.K) (rd:∀b:Wd,Ext a b->∀G',Sim b G'->∀i,(∀ys,Hy G' i ds=some (some ys)->∃us,DrV b.K b.H i ls us/\Reps b ys us)/\(Hy G' i ds=some none->StV b.K b.H i ls)) (n:Nat):
  RepI a (.fn n (Gf ds)) (Itz X.K ls):=by
 intro b x G' s' i;have kb:b.K=X.K:=x.k.trans hk;constructor
 ·intro e he;unfold Gf at he;cases hz:Hy G' i ds with
  | none=>rw [hz] at he;cases he
  | some o=>
   cases o with
   | none=>rw [hz] at he;cases he
   | some ys=>
    rw [hz] at he;have he':D.tup ys=e:=by simpa using he
    subst he';obtain ⟨us,d,ru⟩:=(rd b x G' s' i).1 ys hz;rw [kb] at d;refine ⟨⟨us,d⟩,?_⟩;rintro w H' ⟨p,us',rfl,hp,rfl,hu'⟩;cases hu' us d;exact ⟨b.put p (.tup us),rfl,Ext.put hp,s'.put hp,p,us,rfl,.of Gh,ru.mono (Ext.put hp)⟩
 ·intro he;unfold Gf at he;cases hz:Hy G' i ds with
  | none=>rw [hz] at he;cases he
  | some o=>
   cases o with
   | none=>
    have:=(rd b x G' s' i).2 hz;rw [kb] at this;exact this
   | some ys=>rw [hz] at he;cases he
noncomputable def ZAn (n:Nat) (K:PySem.W.Frag) (ta:TA):TI:=λσ H R=>ta σ H λvs H1=>∃ls:List Src,vs=ls.map (λsr=>V.ref sr.adr)/\(∀sr∈ls,∃us,sr.sq K H1 us)/\ls.length=n/\R (Itz K ls) H1
theorem ZED:∀{ls:List Src} {us:List x9},Vals (ls.map λsr=>V.ref sr.adr) us->us=ls.map λsr=>Value.ref sr.adr
 | [],us,h=>by cases h;rfl
 | sr::ls,us,h=>by
  rw [zW] at h;cases h with
  | cons r rr=>
   cases r;rw [ZED rr]
   rfl
theorem Va {n:Nat} {q:Src×Nat} (h:q∈ls.zipIdx n):q.1∈ls/\n<=q.2/\q.2 < n + ls.length:=by obtain ⟨i,hi,rfl⟩:=qB h;simp only [List.length_zipIdx] at hi;simp only [List.getElem_zipIdx];exact ⟨zM hi,by lia,by lia⟩
theorem ZJD {x1} {tp:Pos} {R:It->Hp->Prop} (I:Inv X vG σ H s) (hq:∀sr∈ls,∃us,sr.sq X.K H us) (hne:ls≠ []) (hl:ls.length<=1000000)
  (hct:checkTypeCall "zip" ⟨ls.map λsr=>Value.ref sr.adr,[]⟩=pure ()) (hcn:xL "zip.__new__" ⟨.type "zip"::ls.map λsr=>Value.ref sr.adr,[]⟩=pure ()) (hok:∀obj,argsOk "object.__init__" ⟨obj::ls.map λsr=>Value.ref sr.adr,[]⟩)
  (q:R (Itz X.K ls) H):vj (vV X.prog X.w) X.A (call (.type "zip") (ls.map λsr=>Value.ref sr.adr)) (λv s1=>vj (vV X.prog X.w) X.A (pyIter v) (PIE X vG σ (.Tuple elts x1 tp) R) X.xe s1) X.xe s:=by
 have hv:∀sr∈ls,∃xs,sr.val s.heap xs:=λsr hm=>by obtain ⟨us,h⟩:=hq sr hm;obtain ⟨its,_,h',_⟩:=Src.sq.val I h;exact ⟨_,h'⟩
 have hlt:∀sr∈ls,sr.adr < s.heap.objs.size:=λsr hm=>by obtain ⟨xs,h⟩:=hv sr hm;obtain ⟨o,n,ho,_⟩:=h.obj;exact zw ho
 refine ZRc hv hl hct hcn hok λh' n hn hz hTI hTO hi kp=> ?_
 refine wpAny_pyIter_zip hz ?_;have I2:Inv X vG σ H {s with heap:=h'}:=I.kept (t':=s.toks) kp
 have em:(ls.zipIdx s.heap.objs.size).map (·.1)=ls:=by refine qK (by simp) λi h1 h2=>by simp
 have e2:(ls.zipIdx s.heap.objs.size).map (·.2)=qH s.heap.objs.size ls.length:=by refine qK (by simp) λi h1 h2=>by simp [Nat.add_comm]
 have qb:∀q∈ls.zipIdx s.heap.objs.size,q.1.adr < s.heap.objs.size/\s.heap.objs.size<=q.2/\q.2 < n:=λq hm=>⟨hlt _ (Va hm).1,(Va hm).2.1,by rw [hn];exact (Va hm).2.2⟩
 have hsn:s.heap.objs.size<=n:=by rw [hn];exact jR _ _
 have ap:ApZ (n + 1) (ls.zipIdx s.heap.objs.size):=⟨by rw [e2];exact List.nodup_range',λq hm=>zD (zq (qb q hm).1 (Nat.le_succ_of_le hsn)),λq hm r hr=>zD (zq (qb q hm).1 (qb r hr).2.1),λq hm=>zD (qL (qb q hm).2.2)⟩;have T:=ZM1 (P:=X.prog) (w:=X.w) (K:=X.K) (elts:=elts) (x1:=x1) (pos:=tp) (ls.zipIdx s.heap.objs.size) (n + 2) n (n + 1) ap ⟨Nat.succ_ne_self (n + 1),λq hm=>⟨zD (zq (qb q hm).2.2 (jR n 2)),zD (zq (qb q hm).1 (zB hsn (jR n 2)))⟩⟩
  ⟨zD (Nat.lt_add_of_pos_right (by decide)),zD (qW n),λq hm=>zD (qb q hm).2.2⟩ (by simpa using hl) (by intro e;apply hne;rw [<-em,e];rfl)
 rw [em] at T;refine ⟨n + 2,_,_,_,H,rfl,I2,T,⟨hz,hTI,⟨_,hTO,by simp⟩,hi⟩,λb hb=> ?_,q⟩;have hle:s.heap.objs.size<=b:=by
  rcases zx.mp hb with rfl | hb
  ·exact zB hsn (jR n 2)
  ·rcases zx.mp hb with rfl | hb
   ·exact hsn
   ·rcases zx.mp hb with rfl | hb
    ·exact Nat.le_succ_of_le hsn
    ·obtain ⟨q,hq,rfl⟩:=zF.mp hb;exact (Va hq).2.1
 exact I.K8 hle (I.hok.fresh hle)
theorem ZNl (a b c:x9):checkTypeCall "zip" ⟨[a,b,c],[]⟩=pure ():=by kernel_rfl
theorem ZKE (a b c:x9):xL "zip.__new__" ⟨[.type "zip",a,b,c],[]⟩=pure ():=by kernel_rfl
theorem ZLs (a b c d:x9):argsOk "object.__init__" ⟨[a,b,c,d],[]⟩:=by unfold argsOk;rw [signature?_of (id:="object.__init__") (n:= ['_','_','t','i','n','i','_','_']) (o:= ['t','c','e','j','b','o']) (by kernel_rfl) PySem.F.owner_object];kernel_rfl
theorem ZQp {elts:List xY} {x1} {tp:Pos} {a b:xY} {ta:TA} {p pos:Pos} (hg:Gl X "zip") (hm:X.mg "zip"=none) (ha:PA X [a,b] ta) (hs:vq [a,b] X.env= [(false,eval a X.env),(false,eval b X.env)]:=by rfl) (hs2:vq [b] X.env= [(false,eval b X.env)]:=by rfl):
  PI X (.Tuple elts x1 tp) (.Call (.Name "zip" p) [a,b] [] pos) (ZAn 2 X.K ta):=by
 intro vG s σ H R I h;refine Call_ (J9 I hg hm PyProof.Rows.boot_zip (PyProof.Rows.callWith_type1 (thn (ha pos vG s σ H _ I h) λus s1 ⟨vs,H1,I1,r1,q1⟩=> ?_) (by rw [hs,hs2]) (by rw [hs2];rfl)));obtain ⟨ls,rfl,hq,hl,q⟩:=q1;cases ZED r1
 match ls,hl with
 | [x,y],_=>exact ZJD I1 hq (by simp) (by simp) (PySem.F.typeCall_zip_2 _ _) (PySem.F.newCall_zip_2 _ _) (λobj=>PySem.F.args_object_init_3 obj _ _) q
theorem ZQn {elts:List xY} {x1} {tp:Pos} {a b c:xY} {ta:TA} {p pos:Pos} (hg:Gl X "zip") (hm:X.mg "zip"=none) (ha:PA X [a,b,c] ta) (hs:vq [a,b,c] X.env= [(false,eval a X.env),(false,eval b X.env),(false,eval c X.env)]:=by rfl)
  (hs2:vq [b,c] X.env= [(false,eval b X.env),(false,eval c X.env)]:=by rfl):PI X (.Tuple elts x1 tp) (.Call (.Name "zip" p) [a,b,c] [] pos) (ZAn 3 X.K ta):=by
 intro vG s σ H R I h;refine Call_ (J9 I hg hm PyProof.Rows.boot_zip (PyProof.Rows.callWith_type1 (thn (ha pos vG s σ H _ I h) λus s1 ⟨vs,H1,I1,r1,q1⟩=> ?_) (by rw [hs,hs2]) (by rw [hs2];rfl)));obtain ⟨ls,rfl,hq,hl,q⟩:=q1;cases ZED r1
 match ls,hl with
 | [x,y,z],_=>exact ZJD I1 hq (by simp) (by simp) (ZNl _ _ _) (ZKE _ _ _) (λobj=>ZLs obj _ _ _) q
theorem ZHZ {n:Nat} {Q:It->Hp->Prop} (hK:K=X.K) (h:lI K E (Dh (Hz n) ta) σ H Q):ZAn n K (lA K E ta) σ H Q:=by
 subst hK;obtain ⟨a,S,G,hk,rfl,s,r,h⟩:=h;refine ⟨a,S,G,hk,rfl,s,r,(Rf h).imp ?_⟩;rintro vs _ ⟨b,ds,G1,rfl,x,s1,q,-,h1⟩;unfold Hz at h1;split at h1
 ·rename_i hok;obtain ⟨ls,e,hq,rd⟩:=ZF3 s1 q hok.1;have kb:b.K=X.K:=x.k.trans hk;have hl:ls.length=n:=by have:=q.length;rw [e,zG] at this;lia
  exact ⟨ls,e,λsr hm=>by rw [<-kb];exact hq sr hm,hl,h1 b _ (Ext.refl b) s1 (ZO2 kb rd _)⟩
 ·exact h1.elim
theorem ZBV {elts:List xY} {x1} {tp:Pos} {a b:xY} {p pos:Pos} (hg:Gl X "zip") (hm:X.mg "zip"=none) (ha:QA X E [a,b] ta) (hs:vq [a,b] X.env= [(false,eval a X.env),(false,eval b X.env)]:=by rfl) (hs2:vq [b] X.env= [(false,eval b X.env)]:=by rfl):
  QI X E (.Tuple elts x1 tp) (.Call (.Name "zip" p) [a,b] [] pos) (Dh (Hz 2) ta):=(ZQp hg hm ha hs hs2).mono λσ H Q h=>ZHZ rfl h
theorem ZLM {elts:List xY} {x1} {tp:Pos} {a b c:xY} {p pos:Pos} (hg:Gl X "zip") (hm:X.mg "zip"=none) (ha:QA X E [a,b,c] ta) (hs:vq [a,b,c] X.env= [(false,eval a X.env),(false,eval b X.env),(false,eval c X.env)]:=by rfl)
  (hs2:vq [b,c] X.env= [(false,eval b X.env),(false,eval c X.env)]:=by rfl):QI X E (.Tuple elts x1 tp) (.Call (.Name "zip" p) [a,b,c] [] pos) (Dh (Hz 3) ta):=(ZQn hg hm ha hs hs2).mono λσ H Q h=>ZHZ rfl h
end
noncomputable def ixL:D->D->DH->R D
 | .ref p,.int k,G=>match G[p]? with
  | some (.lst xs)=>match atI xs k with
   | some v=>.ok v G
   | none=>.bad
  | _=>.bad
 | _,_,_=>.bad
noncomputable def Px (to ti te:DE) (f:D->D->DH->R D):DS:=λS G=>(to S G).toS λo G1=>(ti S G1).toS λi G2=>(ixL o i G2).toS λx G3=>(te S G3).toS λy G4=>(f x y G4).toS λz G5=>(Mx o i z G5).toS λ_ G6=>.nx S G6
def sBad:DS:=λ_ _=>.bad
section
variable {X:Cx} {E:XK}
theorem ZQs {st:xy}:QS X E st sBad:=λvG s σ H W I h=>by obtain ⟨a,S,G,hk,rfl,sm,r,h⟩:=h;exact h.elim
theorem V9 {o i e:xY} {op:Operator} {to ti te:DE} {f:D->D->DH->R D} {tpos pos:Pos} (ho:QE X E o to) (hi:QE X E i ti) (he:QE X E e te) (hop:OpR X (inplaceOp op) (lR2 X.K E f))
  (ha:∀ov iv new,augStore i ov iv new=(do holding [new,ov,iv] (setItem ov iv new);release [new,ov,iv] [];pure .next):=by intros;rfl):QS X E (.AugAssign (.Subscript o i tpos) op e pos) (Px to ti te f):=by
 intro vG s σ H W I h;obtain ⟨a,S,G,hk,rfl,sm,r,h⟩:=h;refine wpAny_AugAssign_SubscriptAny (thn (ho vG s σ a.H _ I ⟨a,S,G,hk,rfl,sm,r,Im h⟩) ?_) ha;rintro ov s1 ⟨vo,H1,I1,ro,b1,o,G1,rfl,x1,m1,q1,_,h1⟩;have k1:=x1.k.trans hk;refine thn (hi vG s1 σ b1.H _ I1 ⟨b1,S,G1,k1,rfl,m1,r.mono x1,Im h1⟩) ?_;rintro iv s2 ⟨vi,H2,I2,ri,b2,i,G2,rfl,x2,m2,q2,_,h2⟩;have k2:=x2.k.trans k1;have q1':=q1.mono x2;cases i with
 | int k=>
  cases o with
  | ref p=>
   obtain ⟨hp,rfl⟩:=q1'
   cases (show vi=V.int k from q2)
   cases ro;obtain ⟨t,rfl⟩:=ri;unfold ixL at h2;dsimp only at h2;split at h2
   ·rename_i xs hx';obtain ⟨vs,e1,r1⟩:=m2.lst hx';split at h2
    ·rename_i d hd;obtain ⟨v,ev,rd⟩:=ZEg r1 hd;have h2':Cz E b2 ((te S G2).toS λy G4=>(f d y G4).toS λz G5=>(Mx (.ref p) (.int k) z G5).toS λ_ G6=>.nx S G6) W:=h2;obtain ⟨its,rv,pl,hz⟩:=I2.list (.of e1);obtain ⟨j,g1,g2,g3,g4,g5⟩:=ZAK ev;obtain ⟨w,ew,rw'⟩:=rv.get g2;have hl:=rv.length;have hn:=line63;have fin:vj (vV X.prog X.w) X.A (getItem (.ref (b2.m p)) (.int k t)) (λold s3=>old=w/\s3=s2) X.xe s2:=by
      by_cases h0:0<=k
      ·have hj:k.toNat=j:=by rw [seqIndex_of h0 g5] at g1;exact Option.some.inj g1
       exact wpAny_getItem_list pl.isList h0 (by lia) (by rw [hj];simpa using ew) ⟨rfl,rfl⟩
      ·have hj:(k + (its.toArray.size:Int)).toNat=j:=by rw [seqIndex_neg (by lia) g4] at g1;rw [zY,<-hl];exact Option.some.inj g1
       exact wpAny_getItem_list_neg pl.isList (by lia) (by rw [zY] <;> lia) (by lia) (by rw [hj];simpa using ew) ⟨rfl,rfl⟩
     refine thn fin ?_;rintro old s3 ⟨rfl,rfl⟩;refine thn (he vG s3 σ b2.H _ I2 ⟨b2,S,G2,k2,rfl,m2,(r.mono x1).mono x2,Im h2'⟩) ?_;rintro yv s4 ⟨vy,H4,I4,ry,b4,y,G4,rfl,x4,m4,q4,_,h4⟩;have k4:=x4.k.trans k2;refine thn (hop vG s4 σ b4.H v vy old yv _ I4 rw' ry ⟨b4,G4,d,y,k4,rfl,m4,rd.mono x4,q4,Im h4⟩) ?_;rintro new s5 ⟨vn,H5,I5,rn,b5,z,G5,rfl,x5,m5,q5,_,h5⟩;unfold Mx at h5;dsimp only at h5;split at h5
     ·rename_i ys hy;split at h5
      ·rename_i jj hjj;obtain ⟨ws,e5,r5⟩:=m5.lst hy;have hp5:p < b5.n:=zq hp (zB x4.n x5.n);have em:b5.m p=b2.m p:=(x5.m p (zq hp x4.n)).trans (x4.m p hp);obtain ⟨x6,m6⟩:=ZD8 m5 hp5 e5 (r5.set q5 jj);refine thn (set_list vG s5 σ b5.H (.ref (b2.m p)) (.int k) vn (.ref (b2.m p)) (.int k t) new (λH'=>W.nx σ H') I5 rfl ⟨t,rfl⟩ rn ⟨b5.m p,ws,k,jj,by rw [em],rfl,e5,by rw [<-r5.length];exact hjj,?_⟩) ?_
       ·exact h5 _ σ x6 m6 (((((r.mono x1).mono x2).mono x4).mono x5).mono x6)
       ·rintro _ s6 ⟨H6,I6,q6⟩;exact ⟨σ,H6,I6,q6⟩
      ·exact h5.elim
     ·exact h5.elim
    ·exact h2.elim
   ·exact h2.elim
  | _=>exact (show False from h2).elim
 | _=>cases o <;> exact (show False from h2).elim
end
noncomputable def R1 (ds:List D) (G:DH):R D:=match ds with
 | [d]=>match Bu d G with
  | some xs=>match Gu xs with
   | some (n::ns)=>.ok (.int (ns.foldl min n)) G
   | _=>.bad
  | none=>.bad
 | _=>.bad
noncomputable def R7 (ds:List D) (G:DH):R D:=match ds with
 | [d]=>match Bu d G with
  | some xs=>match Gu xs with
   | some (n::ns)=>.ok (.int (ns.foldl max n)) G
   | _=>.bad
  | none=>.bad
 | _=>.bad
theorem Wt:∀(ns:List Int) (n:Int),ns.foldl min n<=n/\(∀x∈ns,ns.foldl min n<=x)/\(ns.foldl min n=n∨ns.foldl min n∈ns)
 | [],n=>⟨qV _,λx h=>(by cases h),.inl rfl⟩
 | m::ns,n=>by
  obtain ⟨h1,h2,h3⟩:=Wt ns (min n m);rw [jU];refine ⟨by lia,λx hx=> ?_,?_⟩
  ·rcases zx.mp hx with rfl | hx
   ·lia
   ·exact h2 x hx
  ·rcases h3 with h | h
   ·by_cases e:n<=m
    ·exact .inl (by rw [h];lia)
    ·exact .inr (by rw [h];rw [show min n m=m by lia];exact zV)
   ·exact .inr (zZ _ h)
theorem ZF6:∀(ns:List Int) (n:Int),n<=ns.foldl max n/\(∀x∈ns,x<=ns.foldl max n)/\(ns.foldl max n=n∨ns.foldl max n∈ns)
 | [],n=>⟨qV _,λx h=>(by cases h),.inl rfl⟩
 | m::ns,n=>by
  obtain ⟨h1,h2,h3⟩:=ZF6 ns (max n m);rw [jU];refine ⟨by lia,λx hx=> ?_,?_⟩
  ·rcases zx.mp hx with rfl | hx
   ·lia
   ·exact h2 x hx
  ·rcases h3 with h | h
   ·by_cases e:m<=n
    ·exact .inl (by rw [h];lia)
    ·exact .inr (by rw [h];rw [show max n m=m by lia];exact zV)
   ·exact .inr (zZ _ h)
section
variable {X:Cx} {E:XK}
theorem intAt {ns:List Int} {its:List x9} {w:x9} (hv:Vals (ns.map V.int) its) (hw:its.toArray[i]? =some w):i < ns.length/\∃t,w=.int (ns.getD i 0) t:=by
 have hw':its[i]? =some w:=by simpa using hw
 have hl:i < (ns.map V.int).length:=by rw [hv.length];exact (zE.mp hw').1
 have hl':i < ns.length:=by simpa using hl
 obtain ⟨u,hu,ru⟩:=hv.get (i:=i) (x:=V.int ns[i]) (by simp [hl']);rw [hw'] at hu;cases hu;obtain ⟨t,rfl⟩:=ru;exact ⟨hl',t,by simp [hl']⟩
theorem ZLk (hc:X.calm=true):CallR X (.builtin "min") (lRn X.K E R1):=by
 intro vG s σ H vs us Q I rs h;obtain ⟨a,G,ds,hk,rfl,sm,r,q⟩:=h;unfold R1 at q;split at q
 ·rename_i d;obtain ⟨v,rfl,rv⟩:=reps1 r;split at q
  ·rename_i xs hs;split at q
   ·rename_i n ns hn;cases Sg hn;obtain ⟨p,ws,rfl,h1,r1⟩:=Jw sm rv hs;cases Yh r1;rw [hk] at h1;obtain ⟨u,rfl,ru⟩:=vals1 rs;cases ru;refine call_min_walk (Ye I hc h1 λit fp wr its St s₂ hv W st hfp fin=>⟨it,fp,wr,its.toArray.size,_,St,_,rfl,W,st,hfp,?_,CmpOf.ints_lt (λi=>(n::ns).getD i 0) (λi w hw=>(intAt hv hw).2),λw h' tk hw kk=> ?_⟩)
    ·rw [zY,<-hv.length];simp
    ·obtain ⟨hl,t,rfl⟩:=intAt hv hw;obtain ⟨b1,b2⟩:=argBest_lt (λi=>(n::ns).getD i 0) (its.toArray.size - 1);refine ⟨.int (ns.foldl min n),a.H,fin h' tk kk,⟨t,?_⟩,q a _ (Ext.refl a) sm rfl⟩;have hsz:its.toArray.size=ns.length + 1:=by rw [zY,<-hv.length];simp
     obtain ⟨m1,m2,m3⟩:=Wt ns n;have hle:∀x∈n::ns,ns.foldl min n<=x:=λx hx=>by
      rcases zx.mp hx with rfl | hx
      ·exact m1
      ·exact m2 x hx
     have hin:ns.foldl min n∈n::ns:=by
      rcases m3 with h | h
      ·rw [h];exact zV
      ·exact zZ _ h
     obtain ⟨j,hj,ej⟩:=qB hin;have c1:=b2 j (by simp at hj;lia);have c2:=hle _ (zM hl);have e1:(n::ns).getD j 0=ns.foldl min n:=by rw [zj,zQ hj];exact ej
     have e2:(n::ns).getD (argBest (λi j=>decide ((λi=>(n::ns).getD i 0) i < (λi=>(n::ns).getD i 0) j)) (its.toArray.size - 1)) 0=(n::ns)[argBest (λi j=>decide ((λi=>(n::ns).getD i 0) i < (λi=>(n::ns).getD i 0) j)) (its.toArray.size - 1)]:=by rw [zj,zQ hl];rfl
     have c1':=c1;rw [e1] at c1';rw [<-e2] at c2
     congr 1
     exact Int.le_antisymm c1' c2
   ·exact q.elim
  ·exact q.elim
 ·exact q.elim
theorem ZQH (hc:X.calm=true):CallR X (.builtin "max") (lRn X.K E R7):=by
 intro vG s σ H vs us Q I rs h;obtain ⟨a,G,ds,hk,rfl,sm,r,q⟩:=h;unfold R7 at q;split at q
 ·rename_i d;obtain ⟨v,rfl,rv⟩:=reps1 r;split at q
  ·rename_i xs hs;split at q
   ·rename_i n ns hn;cases Sg hn;obtain ⟨p,ws,rfl,h1,r1⟩:=Jw sm rv hs;cases Yh r1;rw [hk] at h1;obtain ⟨u,rfl,ru⟩:=vals1 rs;cases ru;refine call_max_walk (Ye I hc h1 λit fp wr its St s₂ hv W st hfp fin=>⟨it,fp,wr,its.toArray.size,_,St,_,rfl,W,st,hfp,?_,CmpOf.ints_gt (λi=>(n::ns).getD i 0) (λi w hw=>(intAt hv hw).2),λw h' tk hw kk=> ?_⟩)
    ·rw [zY,<-hv.length];simp
    ·obtain ⟨hl,t,rfl⟩:=intAt hv hw;obtain ⟨b1,b2⟩:=argBest_gt (λi=>(n::ns).getD i 0) (its.toArray.size - 1);refine ⟨.int (ns.foldl max n),a.H,fin h' tk kk,⟨t,?_⟩,q a _ (Ext.refl a) sm rfl⟩;have hsz:its.toArray.size=ns.length + 1:=by rw [zY,<-hv.length];simp
     obtain ⟨m1,m2,m3⟩:=ZF6 ns n;have hle:∀x∈n::ns,x<=ns.foldl max n:=λx hx=>by
      rcases zx.mp hx with rfl | hx
      ·exact m1
      ·exact m2 x hx
     have hin:ns.foldl max n∈n::ns:=by
      rcases m3 with h | h
      ·rw [h];exact zV
      ·exact zZ _ h
     obtain ⟨j,hj,ej⟩:=qB hin;have c1:=b2 j (by simp at hj;lia);have c2:=hle _ (zM hl);have e1:(n::ns).getD j 0=ns.foldl max n:=by rw [zj,zQ hj];exact ej
     have e2:(n::ns).getD (argBest (λi j=>decide ((λi=>(n::ns).getD i 0) i > (λi=>(n::ns).getD i 0) j)) (its.toArray.size - 1)) 0=(n::ns)[argBest (λi j=>decide ((λi=>(n::ns).getD i 0) i > (λi=>(n::ns).getD i 0) j)) (its.toArray.size - 1)]:=by rw [zj,zQ hl];rfl
     have c1':=c1;rw [e1] at c1';rw [<-e2] at c2
     congr 1
     exact Int.le_antisymm c2 c1'
   ·exact q.elim
  ·exact q.elim
 ·exact q.elim
noncomputable def Lg:D->D->DH->R D
 | .ref p,.int k,G=>match G[p]? with
  | some (.lst xs)=>if -(2 ^ 63)<=k/\k < 2 ^ 63/\xs.length * k.toNat<=1000000 then .ok (.ref G.length) (G++ [.lst (zC k.toNat xs).flatten]) else .bad
  | _=>.bad
 | _,_,_=>.bad
theorem Reps.rep {ds:List D} {vs:List V} (r:Reps a ds vs):∀k,Reps a (zC k ds).flatten (zC k vs).flatten
 | 0=>rfl
 | k + 1=>by rw [qw,qw,qI,qI];exact r.append (Reps.rep r k)
theorem ZHu:OpR X (xG .Mult) (lR2 X.K E Lg):=ZMC.mono λx y H Q h=>by
 obtain ⟨a,G,d,e,hk,rfl,s,rd,re,q⟩:=h;cases d with
 | ref p=>
  cases e with
  | int k=>
   unfold Lg at q;dsimp only at q;split at q
   ·rename_i xs hx;split at q
    ·rename_i hc;obtain ⟨vs,e1,r1⟩:=s.lst hx;obtain ⟨hp,rfl⟩:=rd;refine ⟨a.m p,k,vs,rfl,re,e1,hc.1,hc.2.1,?_,λp hp=>M9 s (Reps.rep r1 k.toNat) q p hp⟩;rw [<-r1.length];exact zB hc.2.2 size6
    ·exact q.elim
   ·exact q.elim
  | _=>exact (show False from q).elim
 | _=>exact (show False from q).elim
end
end DL
namespace DL
open PySem PySem.W PyProof.Rows
noncomputable def Safe (n:Nat) {α:Type} (P:α->Prop):KasT α->Prop
 | .ret a=>P a
 | .ask i j k=>i < n/\j < n/\∀b,Safe n P (k b)
theorem Safe.bind {n:Nat} {α β:Type} {f:α->KasT β} {P:α->Prop} {Q:β->Prop} (h2:∀a,P a->Safe n Q (f a)):∀{t:KasT α},Safe n P t->Safe n Q (t.bind f)
 | .ret a,h=>h2 a h
 | .ask _ _ _,h=>⟨h.1,h.2.1,λb=>Safe.bind h2 (h.2.2 b)⟩
def Ents (n:Nat) (p:Array Nat):Prop:=0 < n/\p.Perm (zX n).toArray
theorem Ents.lt {n:Nat} {p:Array Nat} (h:Ents n p) {x:Nat} (hx:x∈p):x < n:=by have:=h.2.mem_iff.mp hx;simpa using this
theorem Ents.pt {n:Nat} {p:Array Nat} (h:Ents n p) (k:Nat):p.getD k 0 < n:=by
 by_cases hk:k < p.size
 ·have:p.getD k 0=p[k]:=by simp [Array.getD,hk]
  rw [this];exact h.lt (Array.getElem_mem hk)
 ·have:p.getD k 0=0:=by simp [Array.getD,hk]
  rw [this];exact h.1
theorem Ents.perm {n:Nat} {p q:Array Nat} (h:Ents n p) (e:q.Perm p):Ents n q:=⟨h.1,e.trans h.2⟩
theorem ZD5 {n:Nat} {p:Array Nat} (h:Ents n p):∀f m,Safe n (λ_=>True) (kas_asc p f m)
 | 0,m=>trivial
 | f + 1,m=>⟨h.pt _,h.pt _,λb=>by
   cases b with
   | true=>exact trivial
   | false=>exact ZD5 h f (m + 1)⟩
theorem Zd {n:Nat}:∀f {p:Array Nat} m q,Ents n p->Safe n (λr=>Ents n r.1) (kas_desc f p m q)
 | 0,p,m,q,h=>h
 | f + 1,p,m,q,h=>⟨h.pt _,h.pt _,λb=>by
   cases b with
   | true=>
    by_cases hq:q > 0
    ·simp only [if_true,if_pos hq];exact Zd f _ _ (h.perm (mirror_perm ..))
    ·simp only [if_true,if_neg hq];exact Zd f _ _ h
   | false=>
    refine ⟨h.pt _,h.pt _,λd=> ?_⟩;cases d with
    | true=>exact h
    | false=>exact Zd f _ _ h⟩
theorem ZFL {n:Nat} {p:Array Nat} (h:Ents n p) (m k:Nat):Safe n (λr=>Ents n r.2) (kas_tail3 m k p):=by unfold kas_tail3;refine Safe.bind (P:=λ_=>True) (λa _=> ?_) (ZD5 (h.perm (mirror_perm ..)) _ _);exact h.perm (mirror_perm ..)
theorem ZIt {n:Nat} {p:Array Nat} (h:Ents n p) (m k:Nat):Safe n (λr=>Ents n r.2) (kas_descPart m k p):=
 Safe.bind (P:=λr=>Ents n r.1) (λa ha=>by
  split
  ·exact ZFL (ha.perm (mirror_perm ..)) _ _
  ·exact ZFL ha _ _) (Zd _ _ _ h)
theorem ZER {n:Nat} {p:Array Nat} (h:Ents n p) (k:Nat):Safe n (λr=>Ents n r.2) (kas_count k p):=
 Safe.bind (P:=λ_=>True) (λa _=>by
  split
  ·exact h
  ·split
   ·refine ⟨h.pt _,h.pt _,λc=> ?_⟩;cases c with
    | true=>exact h
    | false=>exact ZIt (h.perm (mirror_perm ..)) _ _
   ·exact ZIt h _ _) (ZD5 h _ _)
theorem Y9 {n:Nat} {p:Array Nat} (h:Ents n p) (k:Nat):∀f l r,Safe n (λ_=>True) (kas_place p k f l r)
 | 0,l,r=>trivial
 | f + 1,l,r=>by
  unfold kas_place;split
  ·trivial
  ·refine ⟨h.pt _,h.pt _,λc=> ?_⟩;cases c with
   | true=>exact Y9 h k f _ _
   | false=>exact Y9 h k f _ _
theorem ZI2 {n:Nat}:∀f {p:Array Nat} k,Ents n p->Safe n (λ_=>True) (kas_bin f p k)
 | 0,p,k,h=>trivial
 | f + 1,p,k,h=>Safe.bind (P:=λ_=>True) (λa _=>ZI2 f _ (h.perm (bubble_perm ..))) (Y9 h k _ _ _)
theorem ZLL {n:Nat} (hn:0 < n):Safe n (λ_=>True) (kas_sort n):=
 Safe.bind (P:=λr=>Ents n r.2) (λa ha=>by
  split
  ·exact ZI2 _ _ ha
  ·trivial) (ZER ⟨hn,Array.Perm.refl _⟩ _)
end DL
namespace DL
open PySem PySem.Spec L2
open PyProof.Rows hiding St
variable {a:Wd} {d:D} {v:V} {xs ys:List D} {G:DH} {vs:List V} {te:DE} {g:DG} {k:Nat} {us:List (Str×V)} {F:List D->DH->R D} {CX:CXT} {fd:xq} {ps:List Str} {e:xY} {ta:DA} {T:String}
noncomputable def ltL:List D->List D->Option Bool
 | [],[]=>some false
 | [],_::_=>some true
 | _::_,[]=>some false
 | .int a::r,.int b::r'=>if a=b then ltL r r' else some (decide (a < b))
 | .str a::r,.str b::r'=>if a=b then ltL r r' else some (decide (a.cps.toList < b.cps.toList))
 | _::_,_::_=>none
def ltD:D->D->Option Bool
 | .tup xs,.tup ys=>ltL xs ys
 | _,_=>none
noncomputable def ltI (xs:List D) (i j:Nat):Bool:=(ltD (xs.getD i .non) (xs.getD j .non)).getD false
def isIt:D->Bool
 | .tup (.int _::_)=>true
 | _=>false
def Y0:D->Bool
 | .tup (.str _::_)=>true
 | _=>false
noncomputable def Qq (xs:List D):Bool:=(xs.all isIt || xs.all Y0) && xs.all λx=>xs.all λy=>(ltD x y).isSome
noncomputable def Mf (xs:List D):List D:=if xs.length < 2 then xs else (Ck (ltI xs) (PySem.W.kas_sort xs.length)).toList.map λi=>xs.getD i .non
noncomputable def Ul (ds:List D) (G:DH):R D:=match ds with
 | [d]=>match Hq d G with
  | some xs=>if (xs.length < 64/\(Mf xs).length < 64)/\Qq xs=true then .ok (.ref G.length) (G++ [.lst (Mf xs)]) else .bad
  | none=>.bad
 | _=>.bad
theorem ZEz {n:Nat} {cmp:Nat->Nat->(Bool->xk->Prop)->xk->Prop} {lt:Nat->Nat->Bool} {s:xk} (h:∀i j,i < n->j < n->∀C:Bool->xk->Prop,C (lt i j) s->cmp i j C s) {α:Type} {P:α->Prop} {Q:α->xk->Prop}:
  ∀{t:PySem.W.KasT α},Safe n P t->Q (Ck lt t) s->t.kasWp cmp Q s
 | .ret _,_,hq=>hq
 | .ask i j k,hs,hq=>h i j hs.1 hs.2.1 _ (ZEz h (hs.2.2 (lt i j)) hq)
section
variable {prog:xj} {w:xA} {A:xK} {s:xk}
theorem ZMo {c:Bool} {a b:Int} {t u:Tok} {Q:Bool->xk->Prop} {E:x9->xk->Prop} (h:Q (decide (a < b)) s):vj (vV prog w) A (oneLt' c (.int a t) (.int b u)) Q E s:=by
 cases c with
 | true=>exact oneLt_int h
 | false=>exact PySem.W.kat_one _ _ (lt_int (Q:=PySem.W.BoolBack Q) h)
theorem ZKX {c:Bool} {a b:Str} {t u:Tok} {Q:Bool->xk->Prop} {E:x9->xk->Prop} (h:Q (decide (a.cps.toList < b.cps.toList)) s):vj (vV prog w) A (oneLt' c (.str a t) (.str b u)) Q E s:=by
 cases c with
 | true=>exact oneLt_str h
 | false=>exact PySem.W.kat_one _ _ (lt_str (Q:=PySem.W.BoolBack Q) h)
theorem ZAs {Q:Bool->xk->Prop} {fin:Bool}:∀{xs ys:List D} {vs ws:List V} {us zs:List x9} {i:Nat} {k:Bool},Reps a xs vs->Reps a ys ws->Vals vs us->Vals ws zs->ltL xs ys=some k->fin=decide (us.length < zs.length)->Q k s->
  PySem.W.KatLex prog w A true fin Q (us.zip zs) i s
 | [],[],vs,ws,us,zs,i,k,r1,r2,v1,v2,h,hf,hq=>by
  cases (show vs= [] from r1);cases (show ws= [] from r2);cases v1;cases v2
  cases h;subst hf;exact PySem.W.kat_nil hq
 | [],y::ys,vs,ws,us,zs,i,k,r1,r2,v1,v2,h,hf,hq=>by
  cases (show vs= [] from r1);cases v1
  obtain ⟨w1,wr,rfl,_,_⟩:=r2;cases v2;cases h;subst hf;exact PySem.W.kat_nil (by simpa using hq)
 | x::xs,[],vs,ws,us,zs,i,k,r1,r2,v1,v2,h,hf,hq=>by
  cases (show ws= [] from r2);cases v2
  obtain ⟨w1,wr,rfl,_,_⟩:=r1;cases v1;have hk:k=false:=by cases x <;> (simp [ltL] at h;exact h)
  subst hk;subst hf;exact PySem.W.kat_nil (by simpa using hq)
 | x::xs,y::ys,vs,ws,us,zs,i,k,r1,r2,v1,v2,h,hf,hq=>by
  have hcase:(∃m n,x=.int m/\y=.int n)∨(∃m n,x=.str m/\y=.str n):=by
   cases x <;> cases y <;> first
    | exact .inl ⟨_,_,rfl,rfl⟩
    | exact .inr ⟨_,_,rfl,rfl⟩
    | (exfalso;simp [ltL] at h)
  obtain ⟨v0,vr,rfl,e1,r1⟩:=r1;obtain ⟨w0,wr,rfl,e2,r2⟩:=r2;rcases hcase with ⟨m,n,rfl,rfl⟩ | ⟨m,n,rfl,rfl⟩
  ·cases (show v0=V.int m from e1)
   cases (show w0=V.int n from e2)
   cases v1 with
   | cons q1 v1=>
    cases v2 with
    | cons q2 v2=>
     obtain ⟨t,rfl⟩:=q1;obtain ⟨u,rfl⟩:=q2;rw [List.zip_cons_cons];refine PySem.W.kat_cons (wpAny_eqBool_int (PySem.W.kat_go (λhe=> ?_) λhe=> ?_))
     ·have e:m=n:=by simpa using he
      rw [show ltL (.int m::xs) (.int n::ys)=if m=n then ltL xs ys else some (decide (m < n)) from rfl,if_pos e] at h
      exact PySem.W.kat_yes (ZAs r1 r2 v1 v2 h (by simpa using hf) hq)
     ·have e:m≠n:=by simpa using he
      rw [show ltL (.int m::xs) (.int n::ys)=if m=n then ltL xs ys else some (decide (m < n)) from rfl,if_neg e] at h
      cases h;exact PySem.W.kat_no (ZMo hq)
  ·cases (show v0=V.str m from e1)
   cases (show w0=V.str n from e2)
   cases v1 with
   | cons q1 v1=>
    cases v2 with
    | cons q2 v2=>
     obtain ⟨t,rfl⟩:=q1;obtain ⟨u,rfl⟩:=q2;rw [List.zip_cons_cons];refine PySem.W.kat_cons (wpAny_eqBool_str (PySem.W.kat_go (λhe=> ?_) λhe=> ?_))
     ·have e:m=n:=by simpa using he
      rw [show ltL (.str m::xs) (.str n::ys)=if m=n then ltL xs ys else some (decide (m.cps.toList < n.cps.toList)) from rfl,if_pos e] at h
      exact PySem.W.kat_yes (ZAs r1 r2 v1 v2 h (by simpa using hf) hq)
     ·have e:m≠n:=by simpa using he
      rw [show ltL (.str m::xs) (.str n::ys)=if m=n then ltL xs ys else some (decide (m.cps.toList < n.cps.toList)) from rfl,if_neg e] at h
      cases h;exact PySem.W.kat_no (ZKX hq)
end
section
variable {X:Cx} {E:XK} {vG:List (xW×Obj)} {σ:St} {s:xk} {H:Hp} {h':Heap}
theorem ZFE {t':Nat} (I:Inv X vG σ H s) (k:∀b o,b≠X.env.locals->s.heap.get? b=some o->h'.get? b=some o) (ns:∀m,s.heap.Ns X.env.locals m->h'.Ns X.env.locals m):Inv X vG σ H {s with heap:=h',toks:=t'}:=by
 refine I.step (g':=s.gens) (d':=s.drawn) (ch:= []) (λ_ z=>nomatch z) (λb o hL _ _ e _=>k b o hL e) (λb o hL _ _ e _=>⟨o.slots,k b o hL e⟩) (λ_ _ _ _ n=>n) (λb o _ e=> ?_) (λ_ _ e=>e) (λ_ _ _ e=>e)
  (λb ps e=>⟨#[],by rw [e];simp⟩) ns (λb u e=> ?_) I.bare
 ·by_cases hb:b=X.env.locals
  ·obtain ⟨m,hn,_⟩:=I.loc;obtain ⟨o',_,_,ho',_⟩:=ns m hn;exact ⟨o',by rw [hb];exact ho'⟩
  ·exact ⟨o,k b o hb e⟩
 ·have nL:∀c w,H c=some w->c≠X.env.locals:=λc w e z=>by rw [z,I.free] at e;cases e
  refine (I.hok b u e).stay (λc v hc q=>k c v ?_ q) (λ_ q=>q) λ_ _ q=>q
  rcases hc with z | z
  ·rw [z];exact nL b u e
  ·exact nL c _ z
end
section
variable {prog:xj} {w:xA} {A:xK} {E:x9->xk->Prop} {s:xk}
theorem ZQ6 {l:xW} {vs:List x9} {Q:x9->xk->Prop} (hl:s.heap.IsList l vs.toArray) (hz:vs.length < 64)
  (h:∀h1,h1.get? (s.heap.objs.size + 1)=some (seqObj "list" vs.toArray 0)->(∀b o,s.heap.get? b=some o->h1.get? b=some o)->
   vj (vV prog w) A.in1.in1 (Builtin.«list.sort» ⟨[.ref (s.heap.objs.size + 1)],[]⟩) (λfin s'=>fin=.done (.ret .none)/\Q (.ref (s.heap.objs.size + 1)) s') E {s with heap:=h1}):
  vj (vV prog w) A (call (.builtin "sorted") [.ref l]) Q E s:=by
 have h64:vs.length<=sizeLine:=by rw [vK];lia
 refine Calls.call_function_entry kind_sorted plain_sorted entry_sorted (args_sorted1 _) ?_;unfold Builtin.«sorted»;refine vv (m:=checkCount "sorted" 1 1 _) (vA (vv (collect_list hl (vv (wpAny_newList ?_ h64)) h64)))
 generalize hh:(s.heap.push (seqObj "list" #[] 0)).update s.heap.objs.size (Obj.mapSeq (·++vs.toArray))=h0
 have e0:h0.objs.size=s.heap.objs.size + 1:=by rw [<-hh,Heap.size_update,size_push']
 have k0:∀b o,s.heap.get? b=some o->h0.get? b=some o:=λb o q=>by have hlt:b < s.heap.objs.size:=zw q;rw [<-hh,Heap.get?_update_ne _ _ _ _ (zD hlt),Heap.get?_push_ne _ _ _ (zD hlt)];exact q
 have hD:(h0.push (seqObj "list" vs.toArray 0)).get? (s.heap.objs.size + 1)=some (seqObj "list" vs.toArray 0):=by rw [<-e0];exact z9 _ rfl
 have hq:=h (h0.push (seqObj "list" vs.toArray 0)) hD λb o q=>zJ _ (k0 b o q)
 show vj _ _ _ _ _ {s with heap:=h0.push (seqObj "list" vs.toArray 0)};rw [e0];refine vv (v6 (v4 slot_list_sort ⟨_,hD,rfl⟩ entry_list_sort ?_ (args_list_sort _)));refine v7 hq (λfin s' hf=> ?_) λ_ _ x=>x
 exact ⟨_,hf.1,vA ⟨_,rfl,hf.2⟩⟩
theorem ZKk {a:xW} {vs:List x9} {n:Nat} {P:Fin->xk->Prop} (ho:s.heap.get? a=some (seqObj "list" vs.toArray n)) (h2:vs.length < 2)
  (h:∀h' c,h'.get? a=some (seqObj "list" vs.toArray c)->(∀b o,b≠a->s.heap.get? b=some o->h'.get? b=some o)->P (.done (.ret .none)) {s with heap:=h'}):vj (vV prog w) A (Builtin.«list.sort» ⟨[.ref a],[]⟩) P E s:=by
 have ha:a < s.heap.objs.size:=zw ho;have s1:=qy.update s.heap a (Obj.mapSeq λ_=>(#[]:Array x9));obtain ⟨e1,ho1⟩:∃e1,(s.heap.update a (Obj.mapSeq λ_=>(#[]:Array x9))).get? a=some (seqObj "list" #[] e1):=⟨_,get?_update_seq ho λ_=> #[]⟩;rw [list_sort_plain];refine vv (listItems_at ho rfl (vv (listUpdate_at ho rfl ?_ (by rw [zY,vK];lia) (jL _))))
 refine vv (seqEpoch_at ho1 rfl (vv (wpAny_newTuple (vv (wpAny_newList (v6 ?_) (jL _))) (by show vs.length<=_;rw [vK];lia))));dsimp only;have hn2:vs.toArray.size < 2:=by rw [zY];lia
 rw [if_pos hn2,if_pos hn2];refine vv (vA (vv (wpAny_of_eq (a:=((),SortSt.mk' general' (vs.toArray.zip vs.toArray) #[] 7 none)) rfl ?_)));dsimp only
 have hout:(arrOf (SortSt.mk' general' (vs.toArray.zip vs.toArray) #[] 7 none)).map (·.2)=vs.toArray:=by
  show (vs.toArray.zip vs.toArray).map (·.2)=vs.toArray
  refine Array.ext (by simp) λi h1 h2=>by simp
 rw [hout];generalize hh:((s.heap.update a (Obj.mapSeq λ_=>(#[]:Array x9))).push {cls:=.type "tuple",data:=.seq vs.toArray.toList.toArray}).push {cls:=.type "list",data:=.seq ([]:List x9).toArray}=h3;have ho3:h3.get? a=some (seqObj "list" #[] e1):=by rw [<-hh];exact zJ _ (zJ _ ho1)
 have k3:∀b o,b≠a->s.heap.get? b=some o->h3.get? b=some o:=λb o hb q=>by rw [<-hh];exact zJ _ (zJ _ (s1.extBut b o hb q))
 refine vv (seqEpoch_at (o:=seqObj "list" #[] e1) ?_ rfl ?_)
 ·exact ho3
 have s2:=qy.update h3 a (Obj.mapSeq λ_=>vs.toArray);obtain ⟨c2,hc2⟩:∃c2,(h3.update a (Obj.mapSeq λ_=>vs.toArray)).get? a=some (seqObj "list" vs.toArray c2):=⟨_,get?_update_seq ho3 λ_=>vs.toArray⟩;refine vv (listUpdate_at ho3 rfl ?_ (jL _) (by show vs.toArray.size<=_;rw [zY,vK];lia));simp only [bne_self_eq_false,Bool.false_eq_true,if_false];exact vA (h _ c2 hc2 λb o hb q=>s2.extBut b o hb (k3 b o hb q))
end
theorem ZNF:xH "sorted"=some (.builtin "sorted"):=by decide +kernel
section
variable {X:Cx} {E:XK} {vG:List (xW×Obj)} {σ:St} {s:xk} {H:Hp}
theorem ZAV (I:Inv X vG σ a.H s) (hk:a.K=X.K) {u:x9} (r:Rep a d v) (ru:RelV v u) (h:d=.tup xs):∃p o vs us n,u=.ref p/\s.heap.get? p=some o/\o.cls=.type "tuple"/\o.data=.seq us n/\Vals vs us.toList/\Reps a xs vs:=by subst h;obtain ⟨p,vs,rfl,hq,rv⟩:=r;cases ru;rw [hk] at hq;obtain ⟨its,rr,⟨o,ho,hc,n,hd⟩,hz⟩:=I.tuple hq;exact ⟨p,o,vs,its.toArray,n,rfl,ho,hc,hd,by simpa using rr,rv⟩
theorem ZRu (h:isIt d=true):∃i r,d=.tup (.int i::r):=by
 unfold isIt at h;split at h
 ·exact ⟨_,_,rfl⟩
 ·cases h
theorem ZJy (h:Y0 d=true):∃i r,d=.tup (.str i::r):=by
 unfold Y0 at h;split at h
 ·exact ⟨_,_,rfl⟩
 ·cases h
theorem ZI4 (I:Inv X vG σ a.H s) (hk:a.K=X.K):∀{xs:List D} {vs:List V} {us:List x9},Reps a xs vs->Vals vs us->xs.all isIt=true->∃fs,PySem.W.KatTups s.heap us fs/\fs.length=us.length/\∀v∈fs,∃i t,v=.int i t
 | [],vs,us,r,v,h=>by
  cases (show vs= [] from r);cases v
  exact ⟨[],.nil,rfl,λ_ hm=>nomatch hm⟩
 | d::xs,vs,us,r,v,h=>by
  rw [jX,zA] at h;obtain ⟨v0,vr,rfl,e1,r1⟩:=r;cases v with
  | cons q1 v1=>
   obtain ⟨i,rr,rfl⟩:=ZRu h.1;obtain ⟨p,o,ws,zs,n,rfl,ho,hc,hd,hv,hr⟩:=ZAV I hk e1 q1 rfl;obtain ⟨w0,wr,rfl,g1,g2⟩:=hr
   cases (show w0=V.int i from g1)
   obtain ⟨fs,k1,k2,k3⟩:=ZI4 I hk r1 v1 h.2;have hz:∃t,zs[0]? =some (.int i t):=by
    cases hz:zs.toList with
    | nil=>rw [hz] at hv;cases hv
    | cons z zr=>
     rw [hz] at hv;cases hv with
     | cons q _=>
      obtain ⟨t,rfl⟩:=q;exact ⟨t,by rw [<-qS,hz];rfl⟩
   obtain ⟨t,hz⟩:=hz;refine ⟨.int i t::fs,.cons ho hc hd hz k1,by simp [k2],λv hm=> ?_⟩;rcases zx.mp hm with rfl | hm
   ·exact ⟨i,t,rfl⟩
   ·exact k3 v hm
theorem ZJh (I:Inv X vG σ a.H s) (hk:a.K=X.K):∀{xs:List D} {vs:List V} {us:List x9},Reps a xs vs->Vals vs us->xs.all Y0=true->∃fs,PySem.W.KatTups s.heap us fs/\fs.length=us.length/\∀v∈fs,∃i t,v=.str i t
 | [],vs,us,r,v,h=>by
  cases (show vs= [] from r);cases v
  exact ⟨[],.nil,rfl,λ_ hm=>nomatch hm⟩
 | d::xs,vs,us,r,v,h=>by
  rw [jX,zA] at h;obtain ⟨v0,vr,rfl,e1,r1⟩:=r;cases v with
  | cons q1 v1=>
   obtain ⟨i,rr,rfl⟩:=ZJy h.1;obtain ⟨p,o,ws,zs,n,rfl,ho,hc,hd,hv,hr⟩:=ZAV I hk e1 q1 rfl;obtain ⟨w0,wr,rfl,g1,g2⟩:=hr
   cases (show w0=V.str i from g1)
   obtain ⟨fs,k1,k2,k3⟩:=ZJh I hk r1 v1 h.2;have hz:∃t,zs[0]? =some (.str i t):=by
    cases hz:zs.toList with
    | nil=>rw [hz] at hv;cases hv
    | cons z zr=>
     rw [hz] at hv;cases hv with
     | cons q _=>
      obtain ⟨t,rfl⟩:=q;exact ⟨t,by rw [<-qS,hz];rfl⟩
   obtain ⟨t,hz⟩:=hz;refine ⟨.str i t::fs,.cons ho hc hd hz k1,by simp [k2],λv hm=> ?_⟩;rcases zx.mp hm with rfl | hm
   ·exact ⟨i,t,rfl⟩
   ·exact k3 v hm
theorem ZI5 {ws:List V} {us:List x9} {Q:VK} {h2:Heap} {c:Nat} (I:Inv X vG σ a.H s) (sm:Sim a G) (q:out E a (.ok (.ref G.length) (G++ [.lst ys])) Q) (r:Reps a ys ws) (v:Vals ws us) (hz:us.length < 64)
  (hD:h2.get? (s.heap.objs.size + 1)=some (seqObj "list" us.toArray c)) (k:∀b o,b≠X.env.locals->s.heap.get? b=some o->h2.get? b=some o) (ns:∀m,s.heap.Ns X.env.locals m->h2.Ns X.env.locals m):
  EP X vG σ Q (.ref (s.heap.objs.size + 1)) {s with heap:=h2}:=by
 have hle:s.heap.objs.size<=s.heap.objs.size + 1:=j5 _;obtain ⟨g0,g1,g2,g3,g4,g5⟩:=I.K8 (H':=a.H) hle (I.hok.fresh hle);have I2:Inv X vG σ a.H {s with heap:=h2}:=ZFE (t':=s.toks) I k ns;refine ⟨.ref (s.heap.objs.size + 1),_,ZDP I2 g0 (zB I.sz hle) g1 g4 g5 (o:=.lst ws) ⟨?_,us,c,v,hD⟩,rfl,M9 sm r q _ g0⟩;rw [v.length,vK];lia
end
section
variable {X:Cx} {E:XK}
theorem ZQ7 (h:Qq xs=true) {x y:D} (hx:x∈xs) (hy:y∈xs):∃k,ltD x y=some k:=by unfold Qq at h;rw [zA] at h;exact jv.mp (qj.mp (qj.mp h.2 x hx) y hy)
theorem ZN9 {x y:D} {k:Bool} (h:ltD x y=some k):∃xs ys,x=.tup xs/\y=.tup ys/\ltL xs ys=some k:=by
 unfold ltD at h;split at h
 ·exact ⟨_,_,rfl,rfl,h⟩
 ·cases h
theorem ZIj (r:Reps a xs vs):∀l:List Nat,(∀i∈l,i < xs.length)->Reps a (l.map λi=>xs.getD i .non) (l.map λi=>vs.getD i .non)
 | [],_=>rfl
 | i::l,h=>by
  have hi:i < xs.length:=h i zV;obtain ⟨v,ev,rv⟩:=r.get (i:=i) (d:=xs[i]) (zQ hi);refine ⟨vs.getD i .non,_,rfl,?_,ZIj r l λj hj=>h j (zZ _ hj)⟩;have e1:xs.getD i .non=xs[i]:=by simp [hi]
  have e2:vs.getD i .non=v:=by rw [zj,ev];rfl
  show Rep a (xs.getD i .non) (vs.getD i .non);rw [e1,e2];exact rv
theorem ZJa {us:List x9} (r:Vals vs us):∀l:List Nat,(∀i∈l,i < vs.length)->Vals (l.map λi=>vs.getD i .non) (l.map λi=>us.getD i .none)
 | [],_=>.nil
 | i::l,h=>by
  have hi:i < vs.length:=h i zV;obtain ⟨u,eu,ru⟩:=r.get (i:=i) (x:=vs[i]) (zQ hi);rw [zW,zW];have e1:vs.getD i .non=vs[i]:=by simp [hi]
  have e2:us.getD i .none=u:=by rw [zj,eu];rfl
  rw [e1,e2];exact .cons ru (ZJa r l λj hj=>h j (zZ _ hj))
theorem ZGm {n:Nat} {lt:Nat->Nat->Bool} {P:Array Nat->Prop}:∀{t:PySem.W.KasT (Array Nat)},Safe n P t->P (Ck lt t)
 | .ret _,h=>h
 | .ask i j k,h=>ZGm (t:=k (lt i j)) (h.2.2 (lt i j))
theorem ZH6 {n:Nat}:∀f {p:Array Nat} k,Ents n p->Safe n (Ents n) (PySem.W.kas_bin f p k)
 | 0,p,k,h=>h
 | f + 1,p,k,h=>Safe.bind (P:=λ_=>True) (λa _=>ZH6 f _ (h.perm (bubble_perm ..))) (Y9 h k _ _ _)
theorem ZHW {n:Nat} (hn:0 < n):Safe n (Ents n) (PySem.W.kas_sort n):=
 Safe.bind (P:=λr=>Ents n r.2) (λa ha=>by
  split
  ·exact ZH6 _ _ ha
  ·exact ha) (ZER ⟨hn,Array.Perm.refl _⟩ _)
theorem ZOJ:CallR X (.builtin "sorted") (lRn X.K E Ul):=by
 intro vG s σ H vs us Q I rs h;obtain ⟨a,G,ds,hk,rfl,sm,r,q⟩:=h;unfold Ul at q;split at q
 ·rename_i d;obtain ⟨v,rfl,rv⟩:=reps1 r;split at q
  ·rename_i xs hs;split at q
   ·rename_i hc;obtain ⟨p,ws,rfl,h1,r1⟩:=Uc sm rv hs;rw [hk] at h1;obtain ⟨u,rfl,ru⟩:=vals1 rs;cases ru;obtain ⟨its,hv,pl,hz⟩:=I.list h1;have hlx:xs.length=its.length:=r1.length.trans hv.length;refine ZQ6 pl.isList (by lia) λh1 hD k1=> ?_
    obtain ⟨m,hn,_⟩:=id I.loc;have hns1:h1.Ns X.env.locals m:=hn.keeps k1;have hDL:s.heap.objs.size + 1≠X.env.locals:=qP (qL I.lt);have nsAll:∀{h2:Heap},h2.Ns X.env.locals m->∀m',s.heap.Ns X.env.locals m'->h2.Ns X.env.locals m':=λ{h2} hh m' hm'=>by have e1:=hn.eq_nsMap;have e2:=hm'.eq_nsMap;rw [e2,<-e1];exact hh
    by_cases hlen:xs.length < 2
    ·refine ZKk (s:={s with heap:=h1}) hD (by lia) λh2 c hD2 k2=>⟨rfl,?_⟩
     have es:Mf xs=xs:=by unfold Mf;rw [if_pos hlen]
     rw [es] at q;refine ZI5 I sm q r1 hv (by lia) hD2 (λb o hb e=>k2 b o ?_ (k1 b o e)) (nsAll (hns1.at λo e=>k2 _ o (Ne.symm hDL) e));exact zD (qL (zw e))
    ·have es:Mf xs=(Ck (ltI xs) (PySem.W.kas_sort xs.length)).toList.map λi=>xs.getD i .non:=by unfold Mf;rw [if_neg hlen]
     rw [es] at q;refine PySem.W.kat_list_sort (s:={s with heap:=h1}) (Att.ZOn hns1) (news:=Att.ledger h1 X.env.locals (s.heap.objs.size + 1)) ?_ hD hDL (Att.ZDr _ _) (λ⟨_,_⟩ hp=>(Att.Ug.mp hp).2.1) (by lia) (by lia) λe1 h2 F2 N2=> ?_
     ·rintro ⟨b,o⟩ hp;obtain ⟨n1,n2,e⟩:=Att.Ug.mp hp;exact ⟨e,n1,Att.ZDr _ _⟩
     have k2:∀b o,b≠X.env.locals->s.heap.get? b=some o->h2.get? b=some o:=λb o hb e=>
      (N2 (b,o) (zZ _ (Att.Ug.mpr ⟨hb,zD (qL (zw e)),k1 b o e⟩))).1
     have I2:Inv X vG σ a.H {s with heap:=h2}:=ZFE (t':=s.toks) I k2 (nsAll F2.ns);have hpos:0 < its.length:=by lia
     have fin:(PySem.W.kas_sort its.length).kasWp (PySem.W.kas_ask X.prog X.w X.A.in1.in1 (tuples' true) its) (λp s''=>PySem.W.KasFin (Att.Yp h1) X.env.locals m (s.heap.objs.size + 1) e1 (p.toList.map λi=>its.getD i Value.none) (λs3=>PySem.Fin.done (.ret .none)=PySem.Fin.done (.ret .none)/\EP X vG σ Q (.ref (s.heap.objs.size + 1)) s3) s'') {s with heap:=h2}:=by
      refine ZEz (lt:=ltI xs) (λi j hi hj C hC=> ?_) (ZHW hpos) ?_
      ·have hxi:i < xs.length:=by lia
       have hxj:j < xs.length:=by lia
       obtain ⟨v1,ev1,rv1⟩:=r1.get (i:=i) (d:=xs[i]) (zQ hxi);obtain ⟨v2,ev2,rv2⟩:=r1.get (i:=j) (d:=xs[j]) (zQ hxj);obtain ⟨u1,eu1,ru1⟩:=hv.get ev1;obtain ⟨u2,eu2,ru2⟩:=hv.get ev2;obtain ⟨k,hlt⟩:=ZQ7 hc.2 (zM hxi) (zM hxj);obtain ⟨as,bs,ea,eb,hlL⟩:=ZN9 hlt;obtain ⟨p1,o1,vs1,us1,n1,rfl,ho1,_,hd1,hv1,hr1⟩:=ZAV I2 hk rv1 ru1 ea;obtain ⟨p2,o2,vs2,us2,n2,rfl,ho2,_,hd2,hv2,hr2⟩:=ZAV I2 hk rv2 ru2 eb
       have hC':C k {s with heap:=h2}:=by
        have:ltI xs i j=k:=by
         unfold ltI;have e1:xs.getD i .non=xs[i]:=by simp [hxi]
         have e2:xs.getD j .non=xs[j]:=by simp [hxj]
         rw [e1,e2,hlt];rfl
        rw [<-this];exact hC
       unfold PySem.W.kas_ask;have g1:its.getD i Value.none=.ref p1:=by rw [zj,eu1];rfl
       have g2:its.getD j Value.none=.ref p2:=by rw [zj,eu2];rfl
       rw [g1,g2];exact PySem.W.kat_lt ho1 hd1 ho2 hd2 (ZAs hr1 hr2 hv1 hv2 hlL (by simp) hC')
      ·have hen:Ents its.length (Ck (ltI xs) (PySem.W.kas_sort its.length)):=ZGm (ZHW hpos);rw [hlx] at q;refine PySem.W.KasFin.intro F2 N2 (.head λ⟨_,_⟩ hp=>(Att.Ug.mp hp).2.1) λh3 c F3 N3=>⟨rfl,?_⟩
       have hin:∀i∈(Ck (ltI xs) (PySem.W.kas_sort its.length)).toList,i < its.length:=λi hi=>hen.lt (by simpa using hi)
       refine ZI5 I sm q (ZIj r1 _ λi hi=>by rw [hlx];exact hin i hi) (ZJa hv _ λi hi=>by rw [hv.length];exact hin i hi) ?_ (N3 _ zV).1 (λb o hb e=> ?_) (nsAll F3.ns)
       ·rw [hlx] at es;have:=hc.1.2;rw [es] at this;simpa using this
       ·exact (N3 (b,o) (zZ _ (Att.Ug.mpr ⟨hb,zD (qL (zw e)),k1 b o e⟩))).1
     unfold Qq at hc;rw [zA,xX] at hc;rcases hc.2.1 with hall | hall
     ·obtain ⟨fs,t1,t2,t3⟩:=ZI4 I2 hk r1 hv hall;refine PySem.W.kat_kind (T:=.type "int") t1 (by lia) (λv hm=> ?_) (by decide) ?_
      ·obtain ⟨i,t,rfl⟩:=t3 v hm;exact PySem.W.Looks.now
      ·exact fin
     ·obtain ⟨fs,t1,t2,t3⟩:=ZJh I2 hk r1 hv hall;refine PySem.W.kat_kind (T:=.type "str") t1 (by lia) (λv hm=> ?_) (by decide) ?_
      ·obtain ⟨i,t,rfl⟩:=t3 v hm;exact PySem.W.Looks.now
      ·exact fin
   ·exact q.elim
  ·exact q.elim
 ·exact q.elim
end
section
variable {S:DSt} {G:DH}
@[simp] theorem ZS5 {to ti:DE} {f:D->D->DH->R D}:Px to ti te f S G=(to S G).toS λo G1=>(ti S G1).toS λi G2=>(ixL o i G2).toS λx G3=>(te S G3).toS λy G4=>(f x y G4).toS λz G5=>(Mx o i z G5).toS λ_ G6=>.nx S G6:=id rfl
theorem Wk {p:Nat} {k:Int} (h:G[p]? =some (.lst xs)) (e:atI xs k=some d):ixL (.ref p) (.int k) G=.ok d G:=by unfold ixL;simp only;rw [h];simp only;rw [e]
def Dz (xs:List D):List D:=xs.zipIdx.map λq=>.tup [.int q.2,q.1]
def Nj (xs ys:List D):List D:=(xs.zip ys).map λq=>.tup [q.1,q.2]
theorem ZIv {f:Nat->DH->Option (Option D)} {b:DS} (h:∀j G,f j G=some xs[j]?):∀(n j:Nat),j + n=xs.length->∀S G,Ef f g b n j S G=Bx g b (xs.drop j) S G
 | 0,j,e,S,G=>by
  unfold Ef;rw [h,z0 (by lia),zR (by lia)]
  rfl
 | n + 1,j,e,S,G=>by
  have hj:j < xs.length:=by lia
  unfold Ef;rw [h,zQ hj,zN hj,Et];have:Ef f g b n (j + 1)=Bx g b (xs.drop (j + 1)):=by funext S G;exact ZIv h n (j + 1) (by lia) S G
  rw [this]
theorem T7 {f:Nat->DH->Option (Option D)} {b:DS} {n:Nat} (h:∀j G,f j G=some xs[j]?) (hn:n=xs.length):Ef f g b n 0 S G=Bx g b xs S G:=by rw [ZIv h n 0 (by lia)];rfl
theorem Z4 (j:Nat) (G:DH):Eo 0 (.fl xs) j G=some (Dz xs)[j]? :=by
 unfold Eo Dz;simp only [Bu,zk,List.getElem?_zipIdx]
 cases xs[j]? <;> simp
theorem ZQ5 (j:Nat) (G:DH):Eo 0 (.tup xs) j G=some (Dz xs)[j]? :=by
 unfold Eo Dz;simp only [Bu,zk,List.getElem?_zipIdx]
 cases xs[j]? <;> simp
theorem Ko:(Dz xs).length=xs.length:=by simp [Dz]
@[simp] theorem ZSW:Iv [.fl xs] G=.ok (.fn xs.length (Eo 0 (.fl xs))) G:=by simp [Iv,Lk,Bu,lenOf]
@[simp] theorem ZR1 {b:DS} :Ef (Eo 0 (.fl xs)) g b xs.length 0 S G=Bx g b (Dz xs) S G:=T7 Z4 Ko.symm
@[simp] theorem ZSj {b:DS} :Ef (Eo 0 (.tup xs)) g b xs.length 0 S G=Bx g b (Dz xs) S G:=T7 ZQ5 Ko.symm
theorem ZFW {f:Nat->DH->Option (Option D)} {c:DB} {F:D->Option D} (hf:∀j,f j G=some xs[j]?) (h:∀x∈xs,CStep g c te S G x (F x)):
  ∀(n j:Nat),xs.length<=j + n->Dk f g c te S n j G=.ok ((xs.drop j).filterMap F) G
 | 0,j,hj=>by
  unfold Dk;rw [hf,z0 (by lia)];simp only;rw [zR (by lia)]
  rfl
 | n + 1,j,hj=>by
  unfold Dk;rw [hf];by_cases hlt:j < xs.length
  ·have ih:=ZFW hf h n (j + 1) (by lia);obtain ⟨S1,h1,h2⟩:=h xs[j] (zM hlt);rw [zQ hlt];simp only [h1,R.J7];rw [zN hlt,qz];rcases h2 with ⟨h2,h3⟩ | ⟨h2,d,h3,h4⟩
   ·simp [h2,h3,ih]
   ·simp [h2,h3,h4,ih]
  ·rw [z0 (by lia),zR (by lia)]
   rfl
theorem Wr {f:Nat->DH->Option (Option D)} {c:DB} {F:D->Option D} {n:Nat} (hf:∀j,f j G=some xs[j]?) (h:∀x∈xs,CStep g c te S G x (F x)) (hn:xs.length<=n):
  Dk f g c te S n 0 G=.ok (xs.filterMap F) G:=ZFW hf h n 0 (by lia)
theorem ZDL {e:D} (hd:Bu d G=some xs) (he:Bu e G=some ys) (j:Nat):Gf [d,e] j G=some (Nj xs ys)[j]? :=by
 unfold Gf Nj;simp only [Hy,hd,he,zk,List.getElem?_zip_eq_some]
 have ez:(xs.zip ys)[j]? =match xs[j]?,ys[j]? with
  | some x,some y=>some (x,y)
  | _,_=>none:=by
  rw [List.zip,List.getElem?_zipWith]
  cases xs[j]? <;> cases ys[j]? <;> rfl
 rw [ez];cases xs[j]? with
 | none=>rfl
 | some x=>
  cases ys[j]? with
  | none=>rfl
  | some y=>rfl
theorem ZDB {e:D} (hd:Bu d G=some xs) (he:Bu e G=some ys):Hz 2 [d,e] G=.ok (.fn xs.length (Gf [d,e])) G:=by simp [Hz,Lk,hd,he,lenOf]
@[simp] theorem ZH4:Bu (.fl xs) G=some xs:=id rfl
@[simp] theorem R8:Bu (.tup xs) G=some xs:=id rfl
theorem ZO6 {i:Nat} (h:G[i]? =some (.lst xs)):Bu (.ref i) G=some xs:=by simp [Bu,h]
theorem ZRv {n:Int} {ns:List Int} (h:Bu d G=some ((n::ns).map D.int)):R1 [d] G=.ok (.int (ns.foldl min n)) G:=by simp only [R1,h,ZAw]
theorem ZMy {n:Int} {ns:List Int} (h:Bu d G=some ((n::ns).map D.int)):R7 [d] G=.ok (.int (ns.foldl max n)) G:=by simp only [R7,h,ZAw]
theorem ZI6 {p:Nat} (h:G[p]? =some (.lst [d])) (hk:k<=1000000):Lg (.ref p) (.int (k:Int)) G=.ok (.ref G.length) (G++ [.lst (zC k d)]):=by
 unfold Lg;simp only;rw [h];simp only;have e:(zC k [d]).flatten=zC k d:=by
  induction k with
  | zero=>rfl
  | succ k ih=>rw [qw,qI,ih (by lia),qw];rfl
 rw [if_pos ⟨by lia,by lia,by simpa using hk⟩,Int.toNat_natCast,e]
end
def Bts (i:Int):Prop:=i.natAbs.log2 < 33554432
def MulB (i j:Int):Prop:=CMul i j∨(Bts i/\Bts j)
instance (i:Int):Decidable (Bts i):=by unfold Bts;infer_instance
instance (i j:Int):Decidable (MulB i j):=by unfold MulB;infer_instance
theorem MulB.ok {i j:Int} (h:MulB i j):IntMulOk i j:=by
 rcases h with h | ⟨h1,h2⟩
 ·exact h.ok
 ·have b:∀k:Int,Bts k->Builtin.Int.intBits k<=33554432:=λk hk=>by
   unfold Builtin.Int.intBits;split
   ·exact jL _
   ·exact hk
  have c1:=b i h1;have c2:=b j h2;have h:Builtin.Int.intTooBig (Builtin.Int.intBits i + Builtin.Int.intBits j)=false:=by unfold Builtin.Int.intTooBig bitsLine;exact decide_eq_false (by lia)
  unfold IntMulOk;rw [h];simp
noncomputable def Dm:D->D->DH->R D
 | .int i,.int j,G=>if MulB i j then .ok (.int (i * j)) G else .bad
 | _,_,_=>.bad
section
variable {X:Cx} {E:XK}
theorem ZJ9:OpR X (xG .Mult) (rI MulB λi j=>.int (i * j)):=opI λ_ _ _ _ _ _ _ hc q=>mul_int q hc.ok
theorem G9:OpR X (xG .Mult) (lR2 X.K E Dm):=Hm ZJ9 λa G d e x y Q hk s rd re q=>by
 cases d <;> cases e <;> first
  | exact q.elim
  | (
    rename_i i j;unfold Dm at q;dsimp only at q;split at q
    ·exact ⟨_,_,rd,re,by assumption,q a _ (Ext.refl a) s rfl⟩
    ·exact q.elim)
end
section
variable {i j:Int} {G:DH}
theorem ZKr (h:MulB i j):Dm (.int i) (.int j) G=.ok (.int (i * j)) G:=if_pos h
theorem M6 (h1: -(2 ^ 64) < i) (h2:i < 2 ^ 64):Dm (.int i) (.int j) G=.ok (.int (i * j)) G:=if_pos (.inl (.inl ⟨h1,h2⟩))
theorem Ys (h1: -(2 ^ 64) < j) (h2:j < 2 ^ 64):Dm (.int i) (.int j) G=.ok (.int (i * j)) G:=if_pos (.inl (.inr ⟨h1,h2⟩))
@[simp] theorem ZS2 {n:Nat} (h:n < 18446744073709551616):Dm (.int (no_index (OfNat.ofNat n))) (.int j) G=.ok (.int (OfNat.ofNat n * j)) G:=
 M6 (by have:(0:Int)<=(OfNat.ofNat n:Int):=Int.natCast_nonneg n;lia) (by have:(OfNat.ofNat n:Int) < 18446744073709551616:=Int.ofNat_lt.mpr h;lia)
theorem Bts.ZJq {m:Nat} (h:i.natAbs < 2 ^ m) (hm:m<=33554432) (h0:0 < m):Bts i:=by
 unfold Bts;rcases Nat.eq_zero_or_pos i.natAbs with z | z
 ·rw [z];decide
 ·exact zq ((Nat.log2_lt (qP z)).mpr h) hm
theorem Bts.lt (h:i.natAbs.log2 < 1048576):i.natAbs < 2 ^ 1048576:=by
 rcases Nat.eq_zero_or_pos i.natAbs with z | z
 ·rw [z];exact Nat.two_pow_pos _
 ·exact (Nat.log2_lt (qP z)).mp h
end
theorem ZJO:∀{ns:List Int},PySem.W.WData.weightAll (ns.map PySem.W.WData.int)<=2 ^ 20->∀n∈ns,n.natAbs.log2 < 1048576
 | [],_,n,h=>nomatch h
 | m::ns,hw,n,h=>by
  rw [zW,PySem.W.WData.weightAll,PySem.W.WData.weight] at hw;rcases zx.mp h with rfl | h
  ·split at hw
   ·rename_i hz;have:n=0:=by simpa using hz
    rw [this];decide
   ·lia
  ·exact ZJO (by lia) n h
theorem ZNS {l:PySem.W.OpenLaw} {n:Nat} {q:xj} {loose:List Str} {XP:(Str->Option x9)->Heap->Prop} {YP:xA->Heap->Prop} {d:DefRec} {K:xA->PySem.W.Frag} {CX:xA->CXT} {sp:xA->Sp} {x:Str}
  (hn:l.most=some n) (hn2:n<=sizeLine) (hdf:d.params.defaults= []) (hr:Room k callerA) (hY:∀(w:xA) (h:Heap),YP w h->(K w).In h)
  (F:∀(w:xA) (mg:Str->Option x9) (fa:xW) (h:Heap),(K w).In h->h.Ns vX mg->mg d.name=some (.ref fa)->
   ∃fd:xq,(∀(s:xk) (u:x9),BindsTo s fd ⟨[u],[]⟩ [(x,u)])/\∀base:Heap,(K w).In base->base.Ns vX mg->FnOk l.prog w (K w) mg base (CX w) k fa fd [x] (sp w))
  (hsp:∀(w:xA) (H:Hp) (a:xW) (ns:List Int),ns.length<=n->(∀m∈ns,m.natAbs.log2 < 1048576)->Only H->SqL (K w) H a (ns.map V.int)->sp w [.ref a] H (λv _=>v=.bl true) λ_ _ _=>False)
  (hCX:∀(w:xA) (H:Hp) (s:xk) (e:x9) (s':xk),CX w [] H s (λ_ _ _=>False) e s'->False):PySem.W.WalkO q loose XP YP l.row.toRowW d [] (λf vs=>PySem.call f vs):=by
 intro w s₀ s₁ mg mb G Y fa o pm cd doc dV kV ho hd hcd hD hmg hg args vals as hpre hlay hrd hwl hlo;obtain rfl:dV=.none:=PySem.W.Dflts.none hD hdf;obtain rfl:kV=.none:=PySem.W.Dflts.noKw hD;obtain ⟨a,vs,ns,rfl,rfl,hobj,hints,hlen⟩:=Att.ZNo hn hpre hwl;have KX:=hY w _ Y;obtain ⟨fd,hb,hF⟩:=F w mg fa _ KX G.T.g hmg;have hw:PySem.W.WData.weightAll (ns.map PySem.W.WData.int)<=2 ^ 20:=by
  have h1:PySem.W.WData.layable (.list (ns.map PySem.W.WData.int))=true:=by have:=hlay;simpa [PySem.W.WData.layableAll] using this
  have h2:=of_decide_eq_true (jQ.mp h1).2;simpa only [PySem.W.WData.weight] using h2
 refine PySem.W.enter_call (xM (ZMA KX G.T.g G.T.b G.T.builtins G.T.nolimit hg hobj hints (zB hlen hn2) hr hF hb (λH hO hS=>hsp w H a ns hlen (ZJO hw) hO hS) λH e s'=>hCX w H s₁ e s') λr s' hq=> ?_);obtain ⟨rfl,h2,h3,h4⟩:=hq
 exact ⟨.inl ⟨.bool true,.bool true,[],rfl,λ_=>rfl,.bool true,Att.ZMM l _,λ_=>⟨List.Pairwise.nil,λ_ hm=>(nomatch hm)⟩⟩,h2,h3,h4⟩
section
variable {X:Cx} {E:XK}
end
noncomputable def Hr (f:Str) (v:D):List (Str×D)->List (Str×D)
 | []=> [(f,v)]
 | (g,x)::r=>if g=f then (g,v)::r else (g,x)::Hr f v r
theorem RepF.mono {b:Wd} (x:Ext a b) {fs:List (Str×D)} (h:RepF a fs us):RepF b fs us:=⟨h.1,h.2.mono x⟩
theorem RepF.cons {g:Str} {fs:List (Str×D)} (h:Rep a d v) (r:RepF a fs us):RepF a ((g,d)::fs) ((g,v)::us):=
 ⟨by simp [r.1],v,us.map (·.2),rfl,h,r.2⟩
theorem RepF.uncons {g:Str} {fs:List (Str×D)} (h:RepF a ((g,d)::fs) us):∃v us',us=(g,v)::us'/\Rep a d v/\RepF a fs us':=by
 obtain ⟨h1,h2⟩:=h;cases us with
 | nil=>simp at h1
 | cons q us=>
  obtain ⟨g',y⟩:=q;simp only [zW,List.cons.injEq] at h1;obtain ⟨rfl,h1⟩:=h1;obtain ⟨v,r,e1,r1,r2⟩:=h2;simp only [zW,List.cons.injEq] at e1;obtain ⟨rfl,rfl⟩:=e1;exact ⟨y,us,rfl,r1,h1,r2⟩
theorem RepF.nil' (h:RepF a [] us):us= []:=by
 obtain ⟨h1,_⟩:=h;cases us with
 | nil=>rfl
 | cons q us=>simp at h1
theorem lkc {α:Type} {f g:Str} {x:α} {fs:List (Str×α)}:jy f ((g,x)::fs)=if (f == g)=true then some x else fs.lookup f:=by
 show (match f == g with
  | true=>some x
  | false=>jy f fs)=_
 cases f == g <;> rfl
theorem RepF.look {f:Str} :∀{fs:List (Str×D)} {us:List (Str×V)},RepF a fs us->fs.lookup f=some d->∃u,us.lookup f=some u/\Rep a d u
 | [],us,h,e=>by simp at e
 | (g,x)::fs,us,h,e=>by
  obtain ⟨v,us',rfl,hv,hr⟩:=h.uncons;rw [lkc] at e ⊢;by_cases q:(f == g)=true
  ·rw [if_pos q] at e ⊢;cases e;exact ⟨v,rfl,hv⟩
  ·rw [if_neg q] at e ⊢;exact RepF.look hr e
theorem RepF.ZAY {f:Str}:∀{fs:List (Str×D)} {us:List (Str×V)},RepF a fs us->fs.lookup f=none->us.lookup f=none
 | [],us,h,e=>by rw [h.nil'];rfl
 | (g,x)::fs,us,h,e=>by
  obtain ⟨v,us',rfl,hv,hr⟩:=h.uncons;rw [lkc] at e ⊢;by_cases q:(f == g)=true
  ·rw [if_pos q] at e;cases e
  ·rw [if_neg q] at e ⊢;exact RepF.ZAY hr e
theorem RepF.put {f:Str} (q:Rep a d v):∀{fs:List (Str×D)} {us:List (Str×V)},RepF a fs us->RepF a (Hr f d fs) (Fq f v us)
 | [],us,h=>by rw [h.nil'];exact RepF.cons (fs:= []) (us:= []) q ⟨rfl,rfl⟩
 | (g,x)::fs,us,h=>by
  obtain ⟨w,us',rfl,hv,hr⟩:=h.uncons;unfold Hr Fq;by_cases e:g=f
  ·rw [if_pos e,if_pos e];exact .cons q hr
  ·rw [if_neg e,if_neg e];exact .cons hv (RepF.put q hr)
theorem RepF.len {fs:List (Str×D)} (h:RepF a fs us):us.length=fs.length:=by have:=congrArg List.length h.1;simpa using this.symm
theorem Ext.wrI {p C dx:xW} {ho:HO} (h:a.H p=some (.ins C dx us)):Ext a (a.put p ho):=
 ⟨rfl,zK _,λ_ _=>rfl,λq xs e=>by
  show upd a.H p ho q=_;rw [Bh (λz=>by subst z;rw [h] at e;cases e)];exact e,λq o u e=>by
  show upd a.H p ho q=_;rw [Bh (λz=>by subst z;rw [h] at e;cases e)];exact e,λ_ t=>t.mono (λq ps e=>by show upd a.H p ho q=_;rw [Bh (λz=>by subst z;rw [h] at e;cases e)];exact e) (λq o u e=>by show upd a.H p ho q=_;rw [Bh (λz=>by subst z;rw [h] at e;cases e)];exact e)⟩
theorem Sim.wrI (s:Sim a G) {i:Nat} (hi:i < a.n) {c:Str} {C dx:xW} {us':List (Str×V)} {fs':List (Str×D)} (hn:PySem.W.nsIn a.K vX c=some (some (.ref C))) (h:a.H (a.m i)=some (.ins C dx us)) (r:RepF (a.put (a.m i) (.ins C dx us')) fs' us'):
  Sim (a.put (a.m i) (.ins C dx us')) (G.set i (.ins c fs')):=by
 refine ⟨by rw [jD];exact s.len,s.inj,λj o e=> ?_,λj hj=> ?_⟩
 ·rw [jq] at e;show ORep _ o (upd a.H (a.m i) (.ins C dx us') (a.m j));by_cases hij:i=j
  ·subst hij;rw [if_pos rfl,if_pos (by rw [s.len];exact hi)] at e;cases e;rw [Gh];exact ⟨C,dx,us',hn,rfl,r⟩
  ·rw [if_neg hij] at e;rw [Bh λz=>hij (s.inj _ _ (s.lt e) hi z).symm];exact (s.obj j o e).mono (Ext.wrI h)
 ·show upd a.H (a.m i) (.ins C dx us') (a.m j)≠none;by_cases hij:a.m j=a.m i
  ·rw [hij,Gh];simp
  ·rw [Bh hij];exact s.tr j hj
noncomputable def K1 (c:Str) (d:D) (G:DH):Option (List (Str×D)):=match d with
 | .ref i=>match G[i]? with
  | some (.ins c' fs)=>if c'=c then some fs else none
  | _=>none
 | _=>none
theorem Sim.ins {x:V} {c:Str} {fs:List (Str×D)} (s:Sim a G) (r:Rep a d x) (h:K1 c d G=some fs):
  ∃i C dx us,d=.ref i/\i < a.n/\x=.ref (a.m i)/\G[i]? =some (.ins c fs)/\PySem.W.nsIn a.K vX c=some (some (.ref C))/\a.H (a.m i)=some (.ins C dx us)/\RepF a fs us:=by
 unfold K1 at h;split at h
 ·rename_i i;split at h
  ·rename_i c' fs' e;split at h
   ·rename_i hc;subst hc;cases h;obtain ⟨l,ev⟩:=r;obtain ⟨C,dx,us,n,e1,r1⟩:=s.obj i _ e;exact ⟨i,C,dx,us,rfl,l,ev,e,n,e1,r1⟩
   ·cases h
  ·cases h
 ·cases h
noncomputable def Ez (c:Str) (t:DE) (f:Str):DE:=λS G=>(t S G).bind λd G1=>match K1 c d G1 with
 | some fs=>match fs.lookup f with
  | some v=>.ok v G1
  | none=>.bad
 | none=>.bad
noncomputable def H9 (c:Str) (to tv:DE) (f:Str):DS:=λS G=>(tv S G).toS λd G1=>(to S G1).toS λo G2=>match o with
 | .ref i=>match K1 c o G2 with
  | some fs=>if fs.length < 1000 then .nx S (G2.set i (.ins c (Hr f d fs))) else .bad
  | none=>.bad
 | _=>.bad
noncomputable def J8 (c:Str) (m:Str) (F:List D->DH->R D) (to:DE) (t:DA):DE:=λS G=>(to S G).bind λo G1=>match K1 c o G1 with
 | some fs=>match fs.lookup m with
  | none=>(t S G1).bind λds G2=>F (o::ds) G2
  | some _=>.bad
 | none=>.bad
noncomputable def ZEH (c:Str) (F:List D->DH->R D) (t:DA):DE:=λS G=>(t S G).bind λds G1=>(F (.ref G1.length::ds) (G1++ [.ins c []])).bind λv G2=>match v with
 | .non=>.ok (.ref G1.length) G2
 | _=>.bad
section
variable {X:Cx} {E:XK} {c f m:Str} {C:xW} {e o:xY} {es:List xY} {t ta tv:DE} {tr:DA} {pos apos pos':Pos}
theorem Fw (hn:PySem.W.nsIn X.K vX c=some (some (.ref C))) (hc:Cls X.K C) (hf:NoAttr X.K C f) (ha:QE X E e t) (hb:xC e f X.env (eval e X.env)=eval e X.env:=by rfl):QE X E (.Attribute e f pos) (Ez c t f):=
 (ZOW ha hb).mono λσ H Q h=>by
  obtain ⟨a,S,G,hk,rfl,s,r,h⟩:=h;refine ⟨a,S,G,hk,rfl,s,r,(Ig h).imp ?_⟩;rintro v _ ⟨b,d,G1,rfl,x,s1,q,-,h1⟩;split at h1
  ·rename_i fs hi;obtain ⟨i,C',dx,us,rfl,_,rfl,_,n',e1,r1⟩:=s1.ins q hi;have hCC:C'=C:=by
    rw [x.k,hk,hn] at n';cases n'
    rfl
   subst hCC;split at h1
   ·rename_i d' hd;obtain ⟨u,eu,ru⟩:=r1.look hd;exact ⟨b.m i,C',dx,us,u,rfl,e1,hc,hf,eu,h1 b u (Ext.refl b) s1 ru⟩
   ·exact h1.elim
  ·exact h1.elim
theorem Nx (hn:PySem.W.nsIn X.K vX c=some (some (.ref C))) (hc:Cls X.K C) (hf:NoAttr X.K C f) (ha:QE X E o ta) (hv:QE X E e tv) (hs:swapsWith e (some (.Attribute o f pos')) pos.line X.env=pure false:=by rfl):
  QS X E (.Assign [.Attribute o f pos'] e pos) (H9 c ta tv f):=
 (ZP7 ha hv hs).mono λW σ H h=>by
  obtain ⟨a,S,G,hk,rfl,s,r,h⟩:=h;refine ⟨a,S,G,hk,rfl,s,r,(Im h).imp ?_⟩;rintro v _ ⟨b,d,G1,rfl,x,s1,q,-,h1⟩;refine ⟨b,S,G1,x.k.trans hk,rfl,s1,r.mono x,(Im h1).imp ?_⟩;rintro v2 _ ⟨b2,d2,G2,rfl,x2,s2,q2,-,h2⟩;split at h2
  ·rename_i i;split at h2
   ·rename_i fs hi;split at h2
    ·rename_i hl;obtain ⟨i',C',dx,us,ei,li,rfl,eg,n',e1,r1⟩:=s2.ins q2 hi;cases ei;have hCC:C'=C:=by
      rw [x2.k,x.k,hk,hn] at n';cases n'
      rfl
     subst hCC;have x3:Ext b2 (b2.put (b2.m i) (.ins C' dx (Fq f v us))):=Ext.wrI e1;have s3:=s2.wrI (fs':=Hr f d fs) li n' e1 (RepF.put ((q.mono x2).mono x3) (r1.mono x3));exact ⟨b2.m i,C',dx,us,rfl,e1,hc,hf,by rw [r1.len];exact hl,h2 _ σ x3 s3 (((r.mono x).mono x2).mono x3)⟩
    ·exact h2.elim
   ·exact h2.elim
  ·exact h2.elim
theorem ZNj {sp:List D->DH->R D} {σ:St} {H:Hp} {Q:VK} (hn:PySem.W.nsIn X.K vX c=some (some (.ref C))) (h:lE X.K E (J8 c m F ta tr) σ H Q):ZCo C m (lF X.K F) [] E (lE X.K E ta) (lA X.K E tr) σ H Q:=by
 obtain ⟨a,S,G,hk,rfl,s,r,h⟩:=h;refine ⟨a,S,G,hk,rfl,s,r,(Ig h).imp ?_⟩;rintro v _ ⟨b,d,G1,rfl,x,s1,q,-,h1⟩;split at h1
 ·rename_i fs hi;obtain ⟨i,C',dx,us,rfl,_,rfl,_,n',e1,r1⟩:=s1.ins q hi;have hCC:C'=C:=by
   rw [x.k,hk,hn] at n';cases n'
   rfl
  subst hCC;split at h1
  ·rename_i hm;refine ⟨b.m i,dx,us,rfl,e1,r1.ZAY hm,b,S,G1,x.k.trans hk,rfl,s1,r.mono x,(Mr h1).imp ?_⟩;rintro vs _ ⟨b2,ds,G2,rfl,x2,s2,q2,-,h2⟩;exact ⟨b2,G2,.ref i::ds,(x2.k.trans x.k).trans hk,rfl,s2,⟨.ref (b.m i),vs,by rw [q8],q.mono x2,q2⟩,h2⟩
  ·exact h1.elim
 ·exact h1.elim
theorem R3 {g:xW} {pl:Sem Bool} (hn:PySem.W.nsIn X.K vX c=some (some (.ref C))) (hc:Cls X.K C) (hm:Meth X.K C m g) (FF:FnOk X.prog X.w X.K X.mg X.base CX k g fd ps (lF X.K F)) (hr:Room k X.A) (hb:Binds X.K fd ps [])
  (hx:Passes CX X E) (ho:QE X E o ta) (ha:QA X E (e::es) tr) (he:notStar e=true:=by rfl) (hpl:es.all notStar=true:=by rfl)
  (ht:eval (.Call (.Attribute o m apos) (e::es) [] pos) X.env=(do
   let ov<-eval o X.env
   standAt apos.atName
   let (f,first)<-holding [ov] (getMethod ov m pl)
   callWith pos f first (xD pos (vq (e::es) X.env)) (xE pos (vZ [] X.env))):=by rfl):QE X E (.Call (.Attribute o m apos) (e::es) [] pos) (J8 c m F ta tr):=
 (ZN8 (pl:=pl) ho hc hm FF hr hb .nil hx ha (Nu e es X.env he) (R6 pos X.env es hpl) ht).mono λσ H Q h=>ZNj (sp:=F) hn h
theorem ZGn {g:xW} {pl:Sem Bool} (hn:PySem.W.nsIn X.K vX c=some (some (.ref C))) (hc:Cls X.K C) (hm:Meth X.K C m g) (FF:FnOk X.prog X.w X.K X.mg X.base CX k g fd ps (lF X.K F)) (hr:Room k X.A) (hb:Binds X.K fd ps [])
  (hx:Passes CX X E) (ho:QE X E o ta)
  (ht:eval (.Call (.Attribute o m apos) [] [] pos) X.env=(do
   let ov<-eval o X.env
   standAt apos.atName
   let (f,first)<-holding [ov] (getMethod ov m pl)
   callWith pos f first (xD pos (vq [] X.env)) (xE pos (vZ [] X.env))):=by rfl):QE X E (.Call (.Attribute o m apos) [] [] pos) (J8 c m F ta Ae):=
 (ZKq (pl:=pl) ho hc hm FF hr hb .nil hx ht).mono λσ H Q h=>by
  obtain ⟨a,S,G,hk,rfl,s,r,h⟩:=h;refine ⟨a,S,G,hk,rfl,s,r,(Ig h).imp ?_⟩;rintro v _ ⟨b,d,G1,rfl,x,s1,q,-,h1⟩;split at h1
  ·rename_i fs hi;obtain ⟨i,C',dx,us,rfl,_,rfl,_,n',e1,r1⟩:=s1.ins q hi;have hCC:C'=C:=by
    rw [x.k,hk,hn] at n';cases n'
    rfl
   subst hCC;split at h1
   ·rename_i hm;exact ⟨b.m i,dx,us,rfl,e1,r1.ZAY hm,b,G1,[.ref i],x.k.trans hk,rfl,s1,⟨.ref (b.m i),[],rfl,q,rfl⟩,h1⟩
   ·exact h1.elim
  ·exact h1.elim
theorem ZPa {ds:List D} {Q:VK} (hk:a.K=X.K) (hn:PySem.W.nsIn X.K vX c=some (some (.ref C))) (s:Sim a G) (q:Reps a ds vs)
  (h:out E a ((F (.ref G.length::ds) (G++ [.ins c []])).bind λv G2=>match v with
   | .non=>.ok (.ref G.length) G2
   | _=>.bad) Q):∀x dx,a.H x=none->a.H dx=none->dx≠x->lF X.K F (.ref x::(vs++ [])) (upd (upd a.H dx (.own x)) x (.ins C dx [])) (λv H2=>v=.non/\Q (.ref x) H2) E:=λp dx hp hdx hne=>by
 have x1:Ext a (a.put dx (.own p)):=Ext.put hdx;have s1:Sim (a.put dx (.own p)) G:=s.put hdx;have hp1:(a.put dx (.own p)).H p=none:=by show upd a.H dx (.own p) p=none;rw [Bh λz=>hne z.symm];exact hp
 have x2:Ext (a.put dx (.own p)) ((a.put dx (.own p)).push p (.ins C dx [])):=Ext.push hp1;have s2:Sim ((a.put dx (.own p)).push p (.ins C dx [])) (G++ [.ins c []]):=s1.push hp1 ⟨C,dx,[],by show PySem.W.nsIn a.K vX c=_;rw [hk];exact hn,rfl,rfl,rfl⟩;have hgl:G.length=a.n:=s.len;have mnew:((a.put dx (.own p)).push p (.ins C dx [])).m a.n=p:=by show (if a.n=a.n then p else a.m a.n)=p;rw [if_pos rfl]
 have rp:Rep ((a.put dx (.own p)).push p (.ins C dx [])) (.ref G.length) (.ref p):=by rw [hgl];exact ⟨qW _,by rw [mnew]⟩
 refine ⟨(a.put dx (.own p)).push p (.ins C dx []),_,.ref G.length::ds,hk,rfl,s2,⟨.ref p,vs,by rw [q8],rp,(q.mono x1).mono x2⟩,(Ig (out.mono (x1.trans x2) h)).imp ?_⟩;rintro v _ ⟨b,d,G1,rfl,x3,s3,q3,-,h3⟩;split at h3
 ·have:v=.non:=q3;exact ⟨this,h3 b _ (Ext.refl b) s3 (rp.mono x3)⟩
 ·exact h3.elim
theorem ZQ0 {g:xW} {p:Pos} (hn:PySem.W.nsIn X.K vX c=some (some (.ref C))) (M:Mk X.K C g) (FF:FnOk X.prog X.w X.K X.mg X.base CX k g fd ps (lF X.K F)) (hr:Room (k + 1) X.A) (hg:Gl X c) (hm:X.mg c=some (.ref C)) (hb:Binds X.K fd ps [])
  (hx:Passes CX X E) (ha:QA X E (e::es) tr) (hdb:(c == ("__debug__":Str))=false:=by decide) (he:notStar e=true:=by rfl) (hpl:es.all notStar=true:=by rfl):QE X E (.Call (.Name c p) (e::es) [] pos) (ZEH c F tr):=
 (ZKC M FF hr hg hm hb .nil hx ha hdb (Nu e es X.env he) (R6 pos X.env es hpl)).mono λσ H Q h=>by obtain ⟨a,S,G,hk,rfl,s,r,h⟩:=h;refine ⟨a,S,G,hk,rfl,s,r,(Mr h).imp ?_⟩;rintro vs _ ⟨b,ds,G1,rfl,x,s1,q,-,h1⟩;exact ZPa (x.k.trans hk) hn s1 q h1
end
noncomputable def Qx (d:D) (ds:List D) (G:DH):R D:=match ds with
 | [.int k]=>match Hq d G with
  | some xs=>match Gu xs with
   | some ns=>if k∈ns/\ns.length<=1000000 then .ok (.int (ns.idxOf k)) G else .bad
   | none=>.bad
  | none=>.bad
 | _=>.bad
theorem ZGV:∀{ns:List Int} {vs:List V},Reps a (ns.map D.int) vs->vs=ns.map V.int
 | [],vs,h=>h
 | n::ns,vs,h=>by
  obtain ⟨v,r,e,h1,h2⟩:=h
  cases (show v=V.int n from h1)
  rw [e,ZGV h2]
  rfl
theorem T6:∀{ns:List Int} {us:List x9},Vals (ns.map V.int) us->us.length=ns.length/\∀(j:Nat) (u:x9),us[j]? =some u->∃t,∃h:j < ns.length,u=.int ns[j] t
 | [],us,h=>by cases h;exact ⟨rfl,λj u e=>by simp at e⟩
 | n::ns,us,h=>by
  cases h with
  | cons r rr=>
   obtain ⟨h1,h2⟩:=T6 rr;obtain ⟨t,rfl⟩:=r;refine ⟨by simp [h1],λj u e=> ?_⟩;cases j with
   | zero=>simp at e;exact ⟨t,by simp,by simpa using e.symm⟩
   | succ j=>
    obtain ⟨t',hj,e'⟩:=h2 j u (by simpa using e);exact ⟨t',by simpa using hj,by simpa using e'⟩
section
variable {X:Cx} {E:XK}
theorem ZML:MtM X "list.index" (lRm X.K E Qx):=by
 intro vG s σ H x xs v us Q I rx rxs h;obtain ⟨a,G,d,ds,hk,rfl,sm,rd,rds,q⟩:=h;unfold Qx at q;split at q
 ·rename_i k;split at q
  ·rename_i ys hy;split at q
   ·rename_i ns hns;split at q
    ·rename_i hk';obtain ⟨hmem,hlen⟩:=hk';obtain ⟨p,vs,rfl,hq,rv⟩:=Uc sm rd hy;rw [Sg hns] at rv;rw [ZGV rv,hk] at hq;cases rx;obtain ⟨v1,rfl,rv1⟩:=reps1 rds
     cases (show v1=V.int k from rv1)
     obtain ⟨u,rfl,ru⟩:=rxs.one;obtain ⟨t,rfl⟩:=ru;obtain ⟨its,rits,⟨o,n,ho,hc,hdi,hd⟩,hz⟩:=I.list hq;obtain ⟨hl1,hl2⟩:=T6 rits;have hlt:ns.idxOf k < ns.length:=qq hmem;have hjs:ns.idxOf k < its.toArray.size:=by simpa [hl1] using hlt
     have hob:o={cls:=.type "list",dict:=o.dict,data:=.seq its.toArray n,slots:=o.slots}:=by
      obtain ⟨c1,c2,c3,c4⟩:=o;simp only at hc hd;subst hc;subst hd
      rfl
     rw [hob] at ho
     refine call_meets PySem.F.slot_list_index ⟨_,ho,rfl⟩ PySem.F.entry_list_index (PySem.F.args_list_index_2 _ _) (SeqAt.list_indexAt p its.toArray n o.dict o.slots (.int k t) (λy=>match y with | .int i _=>i == k | _=>false) (ns.idxOf k) hjs (by lia) ?_ ?_) ⟨ho,λy hy=> ?_,?_⟩
     ·have hg:its[ns.idxOf k]? =some its.toArray[ns.idxOf k]:=by simp [zQ (by simpa [hl1] using hlt:ns.idxOf k < its.length)]
      obtain ⟨t',h3,e3⟩:=hl2 _ _ hg;rw [e3];simp
     ·intro m hm hlt2;have hml:m < its.length:=by simpa using hm
      have hg:its[m]? =some its.toArray[m]:=by simp [zQ hml]
      obtain ⟨t',h3,e3⟩:=hl2 _ _ hg;rw [e3];have:=List.not_of_lt_findIdx (p:=λx=>x == k) (xs:=ns) hlt2;simpa using this
     ·have hy2:y∈its:=by simpa using hy
      obtain ⟨m,hm,e⟩:=qB hy2;obtain ⟨t',h3,e3⟩:=hl2 m y (by rw [zQ hm,e]);rw [e3];exact SeqAt.EqAt.int_int _ _ _ _
     ·exact ⟨.int (ns.idxOf k),a.H,I.tok _,⟨_,rfl⟩,q a _ (Ext.refl a) sm rfl⟩
    ·exact q.elim
   ·exact q.elim
  ·exact q.elim
 ·exact q.elim
noncomputable def tLR (ta:TA):TE:=λσ H Q=>ta σ H λvs H1=>∃j:Int,vs= [.int j]/\ -(2 ^ 62)<=j/\j<=1000000/\∀l,H1 l=none->Q (.ref l) (upd H1 l (.lst ((zX j.toNat).map λ(i:Nat)=>V.int (i:Int))))
theorem ZOC {acc:Array x9} {n:Nat} (h:ItemsOf (λi v=>∃t,v=.int ((0:Int) + i * 1) t) acc n):Vals ((zX n).map λ(i:Nat)=>V.int (i:Int)) acc.toList:=by
 obtain ⟨h1,h2⟩:=h;refine ZDb (by simp [h1]) λi v u hv hu=> ?_
 have hi:i < n:=by have:=(zE.mp hv).1;simpa using this
 rw [zk,zL hi] at hv;have ev:v=V.int (i:Int):=by simpa using hv.symm
 obtain ⟨t,e⟩:=h2 i u (by rw [<-qS];exact hu);subst ev;refine ⟨t,?_⟩;rw [e]
 congr 1
 lia
theorem ZQg {ta:TA} {p p' pos pos':Pos} (hc:X.calm=true) (hg:Gl X "list") (hm:X.mg "list"=none) (hg2:Gl X "range") (hm2:X.mg "range"=none) (ha:PA X [e] ta) (hs:vq [e] X.env= [(false,eval e X.env)]:=by rfl)
  (hs2:vq [.Call (.Name "range" p') [e] [] pos'] X.env= [(false,eval (.Call (.Name "range" p') [e] [] pos') X.env)]:=by rfl):PE X (.Call (.Name "list" p) [.Call (.Name "range" p') [e] [] pos'] [] pos) (tLR ta):=by
 intro vG s σ H Q I h;refine Call_ (J9 I hg hm U7 (PyProof.Rows.callWith_type1 ?_ hs2 rfl));rw [hs2];refine Calls.spliced_cons (Call_ (J9 I hg2 hm2 PyProof.Rows.boot_range (PyProof.Rows.callWith_type1 (thn (ha pos' vG s σ H _ I h) λus s1 ⟨vs,H1,I1,r1,q1⟩=> ?_) hs rfl)));obtain ⟨j,rfl,b1,b2,q⟩:=q1;obtain ⟨u,rfl,ru⟩:=r1.one;obtain ⟨t,rfl⟩:=ru;refine call_range_1 (Calls.spliced_nil ?_)
 have hsz:Builtin.Range.rangeSize 0 j 1=(j.toNat:Int):=by rw [rangeSize_one];split <;> lia
 refine call_list_range (I.ok.hd hc) (IsRange.new ..) (small_one (by decide) (by decide) b1 (by lia)) hsz (by lia) λh' tk acc' c' hk hS' hacc=> ?_
 have I2:=I1.kept (t':=s1.toks + 1 + 1) (h':=s1.heap.push {cls:=.type "range",data:=.fields #[.int 0 s1.toks,.int j t,.int 1 (s1.toks + 1)]}) λb o e=>zJ _ e
 refine ⟨.ref _,_,I2.laid (o:=.lst ((zX j.toNat).map λ(i:Nat)=>V.int (i:Int))) (t':=tk) hk (zK _) ⟨?_,acc'.toList,c',ZOC hacc,by simpa using hS'⟩,rfl,q _ (I2.hok.fresh (zK _))⟩;rw [zG,jH,vK];lia
noncomputable def dLR (t:DA):DE:=λS G=>(t S G).bind λds G1=>match ds with
 | [.int j]=>if inR j/\j<=1000000 then .ok (.ref G1.length) (G1++ [.lst (Dc 0 j.toNat)]) else .bad
 | _=>.bad
theorem ZQT {p p' pos pos':Pos} (hc:X.calm=true) (hg:Gl X "list") (hm:X.mg "list"=none) (hg2:Gl X "range") (hm2:X.mg "range"=none) (ha:QA X E [e] ta) (hs:vq [e] X.env= [(false,eval e X.env)]:=by rfl)
  (hs2:vq [.Call (.Name "range" p') [e] [] pos'] X.env= [(false,eval (.Call (.Name "range" p') [e] [] pos') X.env)]:=by rfl):QE X E (.Call (.Name "list" p) [.Call (.Name "range" p') [e] [] pos'] [] pos) (dLR ta):=
 (ZQg hc hg hm hg2 hm2 ha hs hs2).mono λσ H Q h=>by
  obtain ⟨a,S,G,hk,rfl,s,r,h⟩:=h;refine ⟨a,S,G,hk,rfl,s,r,(Mr h).imp ?_⟩;rintro vs _ ⟨b,ds,G1,rfl,x,s1,q,-,h1⟩;split at h1
  ·rename_i j;split at h1
   ·rename_i hj;obtain ⟨v,rfl,rv⟩:=reps1 q
    cases (show v=V.int j from rv)
    refine ⟨j,rfl,hj.1.1,hj.2,λl hl=>M9 s1 ?_ h1 l hl⟩;unfold Dc;generalize zX j.toNat=L
    induction L with
    | nil=>exact rfl
    | cons k L ih=>exact ⟨_,_,rfl,(by show V.int (k:Int)=V.int (0 + (k:Int));rw [Int.zero_add]),ih⟩
   ·exact h1.elim
  ·exact h1.elim
noncomputable def Itd (lo:Int) (n:Nat):It:=⟨λi _=>i < n,λi H x H'=>H'=H/\x=.int (lo - i),λi _=>n<=i⟩
theorem ZKt {P:xj} {w:xA} {K:PySem.W.Frag} {tg:xY} (it:xW) (lo:Int) (n:Nat):Turn P w K tg (Itd lo n) [it] it (λi h=>IsRangeIter h it (lo + (i:Nat) * (-1)) ((n:Int) - (i:Nat)) (-1)) where
 mem:=by simp
 obj:=λi h st b hb=>by
  have e:b=it:=by simpa using hb
  subst e;exact ⟨_,st,λv z=>by have z':Data.fields _=Data.cell v:=z;cases z'⟩
 keep:=λi h h' st k=>k it (by simp) _ st
 item:=by
  intro X hP hw hK hc i vG s σ H E I hf st hg;subst hP hw hK;obtain ⟨f0,f1,f2,f3,f4,f5⟩:=hf it (by simp);have W:=Walks.range (prog:=X.prog) (w:=X.w) (I.ok.hd hc) it lo (-1) n;refine W.item i s _ _ hg st λv h' tk hv st' kk=> ?_
  obtain ⟨t,rfl⟩:=hv;have I1:Inv X vG σ H {s with heap:=h',toks:=tk}:=I.turned (λb o hb e=>kk b o (by simpa using hb) e) f0 f1 f3 f4 f5;refine ⟨_,rfl,Py (s:={s with heap:=h',toks:=tk}) (n:="range_iterator") st' rfl rfl (by decide) ⟨.int (lo - i),H,I1,⟨t,?_⟩,⟨rfl,rfl⟩,st',λb hb=>(hf b hb).1⟩⟩
  congr 1
  lia
 done:=by intro X hP hw hK hc i vG s σ H E I hf st hg;subst hP hw hK;obtain ⟨f0,f1,f2,f3,f4,f5⟩:=hf it (by simp);exact wpAny_pyNext_range_end (I.ok.hd hc) st (by have:n<=i:=hg;lia) λh' eb=>⟨rfl,I.turned (t':=s.toks) (λb o hb e=>eb b o hb e) f0 f1 f3 f4 f5⟩
 self:=λ_ _ _ _ _ st h=>wpAny_pyIter_rangeiter st h
theorem rangeSize_down (a b:Int):Builtin.Range.rangeSize a b (-1)=if b < a then a - b else 0:=by
 unfold Builtin.Range.rangeSize;rw [if_neg (by decide)];have e:(- (-1:Int))=1:=by decide
 rw [e,Int.ediv_one]
 split <;> lia
theorem small_down {a b:Int} (ha: -(2 ^ 62)<=a) (ha':a < 2 ^ 62) (hb: -(2 ^ 62)<=b) (hb':b < 2 ^ 62):Builtin.Range.small a b (-1)=true:=by
 unfold Builtin.Range.small;rw [rangeSize_down];simp only [Builtin.Range.rangeFitsLong,zA,xX,decide_eq_true_eq,beq_iff_eq,show¬((-1:Int) > 0) by decide,if_false]
 split <;> lia
noncomputable def iDn (ta:TA):TI:=λσ H R=>ta σ H λvs H1=>∃i j:Int,vs= [.int i,.int j,.int (-1)]/\(-(2 ^ 62)<=i/\i < 2 ^ 62/\ -(2 ^ 62)<=j/\j < 2 ^ 62)/\R (Itd i (i - j).toNat) H1
theorem ZQt {tg a b c:xY} {ta:TA} {p pos:Pos} (hg:Gl X "range") (hm:X.mg "range"=none) (ha:PA X [a,b,c] ta) (hs:vq [a,b,c] X.env=(false,eval a X.env)::vq [b,c] X.env:=by rfl) (hs2:(xD pos (vq [b,c] X.env)).any (·.1)=false:=by rfl):
  PI X tg (.Call (.Name "range" p) [a,b,c] [] pos) (iDn ta):=by
 intro vG s σ H R I h;refine Call_ (J9 I hg hm PyProof.Rows.boot_range (PyProof.Rows.callWith_type1 (thn (ha pos vG s σ H _ I h) λus s1 ⟨vs,H1,I1,r1,q1⟩=> ?_) hs hs2));obtain ⟨i,j,e,⟨q1,q2,q3,q4⟩,q⟩:=q1;subst e;cases r1 with
 | cons r rr=>
  cases rr with
  | cons r' rr=>
   cases rr with
   | cons r'' rr=>
    cases rr;obtain ⟨t,rfl⟩:=r;obtain ⟨t',rfl⟩:=r';obtain ⟨t'',rfl⟩:=r'';refine call_range_3 (by decide) ?_ (.inl (PyProof.noPylong_small (by lia)));refine wpAny_pyIter_range (IsRange.new ..) (small_down q1 q2 q3 q4) ?_;have I2:Inv X vG σ H1 {s1 with heap:=s1.heap.push {cls:=.type "range",data:=.fields #[.int i t,.int j t',.int (-1) t'']},toks:=s1.toks}:=I1.kept λb o e=>zJ _ e
    refine ⟨(s1.heap.push {cls:=.type "range",data:=.fields #[.int i t,.int j t',.int (-1) t'']}).objs.size,[(s1.heap.push {cls:=.type "range",data:=.fields #[.int i t,.int j t',.int (-1) t'']}).objs.size],_,_,H1,rfl,
     I2.kept (t':=s1.toks) λb o e=>zJ _ e,ZKt _ i (i - j).toNat,?_,λb hb=> ?_,q⟩
    ·have e1:i + ((0:Nat):Int) * (-1)=i:=by simp
     have e2:(((i - j).toNat:Nat):Int) - ((0:Nat):Int)=Builtin.Range.rangeSize i j (-1):=by rw [rangeSize_down];split <;> lia
     show IsRangeIter _ _ (i + ((0:Nat):Int) * (-1)) ((((i - j).toNat:Nat):Int) - ((0:Nat):Int)) (-1);rw [e1,e2];exact z9 _ rfl
    ·have e:b=(s1.heap.push {cls:=.type "range",data:=.fields #[.int i t,.int j t',.int (-1) t'']}).objs.size:=by simpa using hb
     subst e;exact I2.K8 (zK _) (I2.hok.fresh (zK _))
noncomputable def Kh (lo:Int) (n:Nat):List D:=(zX n).map λ(k:Nat)=>D.int (lo - (k:Int))
noncomputable def rng3 (ds:List D) (G:DH):R ItD:=match ds with
 | [.int i,.int j,.int k]=>if inR i/\inR j/\k= -1 then .ok (.pure (Kh i (i - j).toNat)) G else .bad
 | _=>.bad
theorem ZOo (lo:Int) (n:Nat):RepI a (.pure (Kh lo n)) (Itd lo n):=by
 refine ⟨(zX n).map λ(k:Nat)=>V.int (lo - (k:Int)),?_,λb x i=>⟨λv hv=> ?_,λhl=> ?_⟩⟩
 ·unfold Kh;generalize zX n=l
  induction l with
  | nil=>exact rfl
  | cons k l ih=>exact ⟨_,_,rfl,rfl,ih⟩
 ·rw [zk] at hv;by_cases hi:i < n
  ·rw [zL hi] at hv;have hv':V.int (lo - (i:Int))=v:=by simpa using hv
   exact ⟨hi,λw H' y=>⟨y.2.trans hv',y.1⟩⟩
  ·rw [z0 (by simpa using hi)] at hv;cases hv
 ·show n<=i;simpa using hl
theorem ZQ1 {tg e' e'':xY} {p pos:Pos} (hg:Gl X "range") (hm:X.mg "range"=none) (ha:QA X E [e,e',e''] ta) (hs:vq [e,e',e''] X.env=(false,eval e X.env)::vq [e',e''] X.env:=by rfl) (hs2:(xD pos (vq [e',e''] X.env)).any (·.1)=false:=by rfl):
  QI X E tg (.Call (.Name "range" p) [e,e',e''] [] pos) (Dh rng3 ta):=
 (ZQt hg hm ha hs hs2).mono λσ H Q h=>by
  obtain ⟨a,S,G,hk,rfl,s,r,h⟩:=h;refine ⟨a,S,G,hk,rfl,s,r,(Rf h).imp ?_⟩;rintro vs _ ⟨b,ds,G1,rfl,x,s1,q,-,h1⟩;unfold rng3 at h1;split at h1
  ·rename_i i j k;split at h1
   ·rename_i hj;obtain ⟨hi,hj,rfl⟩:=hj;obtain ⟨v,r,e1,q1,v2,r2,e2,q2,v3,r3,e3,q3,q4⟩:=q
    cases (show v=V.int i from q1)
    cases (show v2=V.int j from q2)
    cases (show v3=V.int (-1) from q3)
    cases (show r3= [] from q4)
    subst e3;subst e2;exact ⟨i,j,e1,⟨hi.1,hi.2,hj.1,hj.2⟩,h1 b _ (Ext.refl b) s1 (ZOo i (i - j).toNat)⟩
   ·exact h1.elim
  ·exact h1.elim
end
theorem ZOr (a b:x9):checkTypeCall "enumerate" ⟨[a],[("start",b)]⟩=pure ():=by kernel_rfl
theorem ZRW (a b:x9):xL "enumerate.__new__" ⟨[.type "enumerate",a],[("start",b)]⟩=pure ():=by kernel_rfl
theorem ZOV (o a b:x9):argsOk "object.__init__" ⟨[o,a],[("start",b)]⟩:=by
 unfold argsOk;rw [signature?_of (id:="object.__init__") (n:= ['_','_','t','i','n','i','_','_']) (o:= ['t','c','e','j','b','o']) (by kernel_rfl) PySem.F.owner_object]
 kernel_rfl
section
variable {prog:xj} {w:xA} {A:xK} {E:x9->xk->Prop} {s:xk}
theorem ZQu {newId:String} {self a:x9} {kw:List (Str×x9)} (hl:typeLookup (.type T) "__init__"=pure (some (.builtin "object.__init__"))) (hm:Bind.madeBy (.type T)=pure (some newId)) (hne:(some newId != some "object.__new__")=true):
  Meets (Builtin.«object.__init__» ⟨[self,a],kw⟩) (λ_ R s=>s.TypeIs self T/\R (.ok (.ret .none)) s):=by
 refine Meets.of_wp λprog w A R s hs=> ?_
 obtain ⟨hT,hq⟩:=hs
 repeat (any_goals (first | assumption | wp_step))
 exact ⟨_,rfl,hq⟩
theorem ZJ0 {newId initId:String} {Bn Bi:Builtin} {args:List x9} {kw:List (Str×x9)} {S:PySem.Spec} {Q Q₁:x9->xk->Prop} (ft:TypeCalled T newId initId)
  (hct:checkTypeCall T ⟨args,kw⟩=pure ()) (hcn:xL newId ⟨.type T::args,kw⟩=pure ())
  (entryN:entryFor table newId=some Bn) (entryI:entryFor table initId=some Bi) (g:Meets (Bn ⟨.type T::args,kw⟩) S) (h:S A.in1 (wants Q₁ E) s)
  (hnext:∀obj s₁,Q₁ obj s₁->s₁.TypeIs obj T/\argsOk initId ⟨obj::args,kw⟩/\∃Si,Meets (Bi ⟨obj::args,kw⟩) Si/\Si A.in1 (wants (λr s₂=>r=.none/\Q obj s₂) E) s₁):
  vj (vV prog w) A (call (.type T) args kw) Q E s:=by
 obtain ⟨c,tl,hmro⟩:=ft.mro;have hmade:=ft.made;have hsub:=ft.sub;refine wpAny_call (codeAny_of_tree ?_);show vj _ _ (callAny (.type T) _) _ _ _;refine vA ⟨Code.quiet_builtin _ (by decide +kernel),codeAny_builtin PySem.F.entry_type_call ?_⟩;rw [Around.under_plain (weight_type_call_type T args kw) (units_type_call_type T args kw)];have h1:=ft.notType;have h2:=ft.canCreate
 repeat (any_goals (first | assumption | wp_step))
 refine xM (codeAny_call_builtin ft.plain entryN (wpAny_of_eq hcn (g prog w A.in1 _ s h))) λr s₁ hr=> ?_
 cases r with
 | error e=>exact hr
 | ok fl=>
  cases fl with
  | ret obj=>
   obtain ⟨hT,hok,Si,gi,hsi⟩:=hnext _ _ hr;have hli:=ft.init.lookup;have hbi:=ft.init.bind obj
   repeat (any_goals (first | assumption | wp_step))
   refine xM (codeAny_call_builtin ft.init.plain entryI (ft.init.check _ _ _ _ _ _ _ _ hT hok (gi prog w A.in1 _ s₁ hsi))) λr₂ s₂ hr₂=> ?_
   cases r₂ with
   | error e=>exact hr₂
   | ok fl₂=>
    cases fl₂ with
    | ret r=>
     obtain ⟨rfl,hq⟩:=hr₂
     repeat (any_goals (first | assumption | wp_step))
    | _=>exact hr₂.elim
  | _=>exact hr.elim
theorem ZMd {sr:Src} {xs:Array x9} {n:Int} {t:Tok} {Q:x9->xk->Prop} (hv:sr.val s.heap xs)
  (h:∀h' tk g,Gv n g->En h' (s.heap.objs.size + 1) s.heap.objs.size .none n g .none->sr.it h' s.heap.objs.size 0->(∀b o,s.heap.get? b=some o->h'.get? b=some o)->Q (.ref (s.heap.objs.size + 1)) {s with heap:=h',toks:=tk}):
  vj (vV prog w) A (call (.type "enumerate") [.ref sr.adr] [("start",.int n t)]) Q E s:=by
 have g:Meets (Builtin.«enumerate.__new__» ⟨[.type "enumerate",.ref sr.adr],[("start",.int n t)]⟩) (λ_ R s=>sr.val s.heap xs/\∀g tk,Gv n g->
   R (.ok (.ret (.ref (s.heap.push {cls:=.type sr.itn,data:=.fields #[.ref sr.adr,.int 0 0]}).objs.size)))
    {s with heap:=(s.heap.push {cls:=.type sr.itn,data:=.fields #[.ref sr.adr,.int 0 0]}).push {cls:=.type "enumerate",data:=.fields #[.none,.bool false,.ref s.heap.objs.size,vW n,g,.none]},toks:=tk}):=
  .of_wp λprog w A R s h=>by
   obtain ⟨hp,g,d,tk,os⟩:=s;obtain ⟨hl,h⟩:=h;have hsub:=sub_enumerate;have hL:sr.val (Shared.heap ⟨hp,g,d,tk,os⟩) xs:=hl
   wp_walk
   refine wpAny_stack_any λst=>vA ?_
   cases hf:Builtin.SmallTypes.fitsIndex n
   ·split
    ·rename_i c _ _ _ _ _
     cases (c == Value.type "enumerate") <;> (wp_walk using Src.iter hL;exact ⟨_,rfl,h _ _ (.inr ⟨t,rfl⟩)⟩)
    ·wp_walk using Src.iter hL
     exact ⟨_,rfl,h _ _ (.inr ⟨t,rfl⟩)⟩
   ·split
    ·rename_i c _ _ _ _ _
     cases (c == Value.type "enumerate") <;> (wp_walk using Src.iter hL;exact ⟨_,rfl,h _ _ (.inl rfl)⟩)
    ·wp_walk using Src.iter hL
     exact ⟨_,rfl,h _ _ (.inl rfl)⟩
 refine ZJ0 (Q₁:=λobj s₁=>s₁.TypeIs obj "enumerate"/\Q obj s₁) PySem.F.called_enumerate (ZOr _ _) (ZRW _ _) PySem.F.entry_enumerate_new PySem.F.entry_object_init g ⟨hv,λg tk hg=> ?_⟩ λobj s₁ hq=>⟨hq.1,ZOV obj _ _,_,ZQu PySem.F.called_enumerate.init.lookup PySem.F.called_enumerate.made (by decide),hq.1,rfl,hq.2⟩
 have hz:(s.heap.push {cls:=.type sr.itn,data:=.fields #[.ref sr.adr,.int 0 0]}).objs.size=s.heap.objs.size + 1:=qk ..;show _/\_;rw [hz];have he:En ((s.heap.push {cls:=.type sr.itn,data:=.fields #[.ref sr.adr,.int 0 0]}).push {cls:=.type "enumerate",data:=.fields #[.none,.bool false,.ref s.heap.objs.size,vW n,g,.none]}) (s.heap.objs.size + 1) s.heap.objs.size .none n g .none:=by
  have:=z9 (s.heap.push {cls:=.type sr.itn,data:=.fields #[.ref sr.adr,.int 0 0]}) (o:={cls:=.type "enumerate",data:=.fields #[.none,.bool false,.ref s.heap.objs.size,vW n,g,.none]}) rfl;rw [hz] at this;exact this
 exact ⟨⟨_,he,rfl⟩,h _ tk g hg he ⟨_,zJ _ (z9 _ rfl),rfl,rfl⟩ λb o x=>zJ _ (zJ _ x)⟩
theorem ZRI {M:Model} {A:xK} {E:x9->xk->Prop} {s:xk} {env:Env} {pos:Pos} {rest:List xY} {kws:List Keyword} {Q:x9->xk->Prop}
  (hall:(xE pos (vZ kws env)).all (·.1.isSome)=true)
  (h:vj M A (spliced (xD pos (vq (e::rest) env))) (λvs s₁=>vj M A (evalAll ((xE pos (vZ kws env)).map (·.2)))
   (λks s₂=>vj M A (call (.type T) vs (((xE pos (vZ kws env)).filterMap (·.1)).zip ks)) Q E s₂) E s₁) E s)
  (hplain:(xD pos (vq (e::rest) env)).any (·.1)=false) (hkw:(xE pos (vZ kws env)).any (·.1.isNone)=false) (he:vq (e::rest) env=(false,eval e env)::vq rest env):
  vj M A (callWith pos (.type T) [] (xD pos (vq (e::rest) env)) (xE pos (vZ kws env))) Q E s:=by
 unfold callWith;refine vv (v6 (v7 (PyProof.Rows.evalArgs_kw2 (Q:=λa s₁=>vj M A (call (.type T) ([]++a.pos) a.kw) Q E s₁) hall h he) (λa s₁ h₁=>vv (wpAny_standAt ?_)) λ_ _ x=>x));simp only [hplain,hkw,Bool.or_false];refine vv (vA ?_);exact vv (v7 h₁ (λr s₂ hr=>vv (v6 (wpAny_point (vA hr)))) λ_ _ x=>x)
end
section
variable {X:Cx} {E:XK}
noncomputable def ZLQ (K:PySem.W.Frag) (ta tk:TA):TI:=λσ H R=>ta σ H λvs H1=>tk σ H1 λws H2=>∃sr xs n,vs= [.ref (Src.adr sr)]/\ws= [.int n]/\sr.sq K H2 xs/\R (Ite K sr n) H2
theorem ZM7 {elts:List xY} {x1} {tp:Pos} {a b:xY} {ta tk:TA} {p pos kp:Pos} (hg:Gl X "enumerate") (hm:X.mg "enumerate"=none) (ha:PA X [a] ta) (hk:PK X [⟨some "start",b,kp⟩] tk) (hs:vq [a] X.env= [(false,eval a X.env)]:=by rfl):
  PI X (.Tuple elts x1 tp) (.Call (.Name "enumerate" p) [a] [⟨some "start",b,kp⟩] pos) (ZLQ X.K ta tk):=by
 intro vG s σ H R I h;refine vx (J9 I hg hm PyProof.Rows.boot_enumerate (ZRI rfl (thn (ha pos vG s σ H _ I h) λus s1 ⟨vs,H1,I1,r1,q1⟩=>thn (hk pos vG s1 σ H1 _ I1 q1) λus2 s2 ⟨ws,H2,I2,r2,q2⟩=> ?_) (by rw [hs];rfl) rfl hs));obtain ⟨sr,xs,n,e,e2,hq,q⟩:=q2;subst e;subst e2;cases r1 with
 | cons r rr=>
  cases rr;cases r;obtain ⟨u,rfl,ru⟩:=r2.one;obtain ⟨t,rfl⟩:=ru;obtain ⟨its,rv,hv,hz⟩:=Src.sq.val I2 hq;refine ZMd hv λh' tk g hg he hi kp=> ?_
  refine ZDH he ?_;have I3:Inv X vG σ H2 {s2 with heap:=h',toks:=tk}:=I2.kept (t':=tk) kp;refine ⟨s2.heap.objs.size + 1,[s2.heap.objs.size + 1,s2.heap.objs.size],_,_,H2,rfl,I3,ZIi sr n _ _ (Nat.succ_ne_self _),⟨g,.none,by simpa using he,by simpa using hg,hi⟩,λb hb=> ?_,q⟩;have hb':b=s2.heap.objs.size + 1∨b=s2.heap.objs.size:=by simpa using hb
  have hle:s2.heap.objs.size<=b:=by rcases hb' with rfl | rfl <;> lia
  exact I2.K8 hle (I2.hok.fresh hle)
theorem ZOF {sr:Src} {n0:Int} (hk:a.K=X.K) (rd:∀b:Wd,Ext a b->∀G',Sim b G'->∀ys,Bu d G'=some ys->∃us,sr.sq b.K b.H us/\Reps b ys us) (n:Nat):RepI a (.fn n (Eo n0 d)) (Ite X.K sr n0):=by
 intro b x G' s' i;have kb:b.K=X.K:=x.k.trans hk;constructor
 ·intro e he;unfold Eo at he;split at he
  ·cases he
  ·rename_i ys hy;obtain ⟨us,hq,ru⟩:=rd b x G' s' ys hy;rw [kb] at hq;cases hyi:ys[i]? with
   | none=>rw [hyi] at he;cases he
   | some y=>
    rw [hyi] at he;have he':D.tup [.int (n0 + i),y]=e:=by simpa using he
    subst he';obtain ⟨u,hu,rx⟩:=ru.get hyi;refine ⟨⟨us,u,hq,hu⟩,?_⟩;rintro w H' ⟨p,u',rfl,hp,rfl,hu'⟩;refine ⟨b.put p (.tup [.int (n0 + i),u']),rfl,Ext.put hp,s'.put hp,p,_,rfl,.of Gh,?_⟩;have e1:=hu' us hq;rw [hu] at e1;cases e1;exact ⟨_,_,rfl,rfl,Reps.cons (rx.mono (Ext.put hp)) rfl⟩
 ·intro he;unfold Eo at he;split at he
  ·cases he
  ·rename_i ys hy;obtain ⟨us,hq,ru⟩:=rd b x G' s' ys hy;rw [kb] at hq;cases hyi:ys[i]? with
   | none=>exact ⟨us,hq,by rw [<-ru.length];exact qR.mp hyi⟩
   | some y=>rw [hyi] at he;cases he
noncomputable def ZBu (ta:DA) (tb:DE):DI:=λS G=>(ta S G).bind λds G1=>(tb S G1).bind λk G2=>match ds,k with
 | [d],.int n=>match Bu d G2 with
  | some xs=>.ok (.fn xs.length (Eo n d)) G2
  | none=>.bad
 | _,_=>.bad
theorem ZMi {b:xY} {nm:Option Str} {kp:Pos} {tb:DE} (hb:QE X E b tb):PK X [⟨nm,b,kp⟩] (ZDV (lE X.K E tb) Ws):=ZOH hb ZMG
theorem ZKY {E:XK} {r:R D} {f:D->DH->R ItD} {Q:It->Hp->Prop} (h:outI E a (r.bind f) Q):
  out E a r (λv H=>∃(b:Wd) (d:D) (G:DH),b.H=H/\Ext a b/\Sim b G/\Rep b d v/\outI E b (f d G) Q):=by
 cases r with
 | ok d G=>exact λb v x s q=>⟨b,d,G,rfl,x,s,q,outI.mono x h⟩
 | err e G=>exact h
 | bad=>exact h
theorem ZMI {elts:List xY} {x1} {tp:Pos} {b:xY} {tb:DE} {p pos kp:Pos} (hg:Gl X "enumerate") (hm:X.mg "enumerate"=none) (ha:QA X E [e] ta) (hb:QE X E b tb) (hs:vq [e] X.env= [(false,eval e X.env)]:=by rfl):
  QI X E (.Tuple elts x1 tp) (.Call (.Name "enumerate" p) [e] [⟨some "start",b,kp⟩] pos) (ZBu ta tb):=(ZM7 hg hm ha (ZMi hb) hs).mono λσ H Q h=>by
 obtain ⟨a,S,G,hk,rfl,s,r,h⟩:=h;refine ⟨a,S,G,hk,rfl,s,r,(Rf h).imp ?_⟩;rintro vs _ ⟨b,ds,G1,rfl,x,s1,q,-,h1⟩;refine ⟨b,S,G1,x.k.trans hk,rfl,s1,r.mono x,(ZKY h1).imp ?_⟩;rintro v _ ⟨c,k,G2,rfl,y,s2,q2,h2⟩;split at h2
 ·rename_i d n;split at h2
  ·rename_i xs hx;obtain ⟨w,r,e1,q1,q3⟩:=q
   cases (show r= [] from q3)
   subst e1
   cases (show v=V.int n from q2)
   obtain ⟨sr,rfl,⟨us,hq⟩,rd⟩:=ZDu s2 (q1.mono y) hx;have kb:c.K=X.K:=(y.k.trans x.k).trans hk;exact ⟨sr,us,n,rfl,rfl,by rw [<-kb];exact hq,h2 c _ (Ext.refl c) s2 (ZOF kb rd _)⟩
  ·exact h2.elim
 ·exact h2.elim
end
end DL
namespace DL
open PySem PySem.Spec L2
variable {d:D}
noncomputable def Jx (c f:Str) (d:D) (G:DH):R D:=match K1 c d G with
 | some fs=>match fs.lookup f with
  | some v=>.ok v G
  | none=>.bad
 | none=>.bad
noncomputable def Qg (c f:Str) (o d:D) (S:DSt) (G:DH):SR:=match o with
 | .ref i=>match K1 c o G with
  | some fs=>if fs.length < 1000 then .nx S (G.set i (.ins c (Hr f d fs))) else .bad
  | none=>.bad
 | _=>.bad
noncomputable def Y7 (c m:Str) (F:List D->DH->R D) (t:DA) (S:DSt) (o:D) (G:DH):R D:=match K1 c o G with
 | some fs=>match fs.lookup m with
  | none=>(t S G).bind λds G2=>F (o::ds) G2
  | some _=>.bad
 | none=>.bad
noncomputable def ZDv (F:List D->DH->R D) (c:Str) (ds:List D) (G1:DH):R D:=(F (.ref G1.length::ds) (G1++ [.ins c []])).bind λv G2=>match v with
 | .non=>.ok (.ref G1.length) G2
 | _=>.bad
section
variable {S:DSt} {G:DH} {c f m:Str} {t to tv:DE} {ta:DA} {F:List D->DH->R D} {i:Nat} {fs:List (Str×D)} {v d:D}
@[simp] theorem ev_fld:Ez c t f S G=(t S G).bind λd G1=>Jx c f d G1:=id rfl
@[simp] theorem Nk:H9 c to tv f S G=(tv S G).toS λd G1=>(to S G1).toS λo G2=>Qg c f o d S G2:=id rfl
@[simp] theorem ZSQ:J8 c m F to ta S G=(to S G).bind λo G1=>Y7 c m F ta S o G1:=id rfl
@[simp] theorem ZSi:ZEH c F ta S G=(ta S G).bind λds G1=>ZDv F c ds G1:=id rfl
theorem ZC6 (h:G[i]? =some (.ins c fs)):K1 c (.ref i) G=some fs:=by unfold K1;simp only [h,if_true]
theorem Om (h:G[i]? =some (.ins c fs)) (h2:fs.lookup f=some v):Jx c f (.ref i) G=.ok v G:=by unfold Jx;rw [ZC6 h];simp only [h2]
theorem ZPJ (h:G[i]? =some (.ins c fs)) (hl:fs.length < 1000):Qg c f (.ref i) d S G=.nx S (G.set i (.ins c (Hr f d fs))):=by unfold Qg;simp only [ZC6 h,hl,if_true]
theorem ZPj (h:G[i]? =some (.ins c fs)) (h2:fs.lookup m=none):Y7 c m F ta S (.ref i) G=(ta S G).bind λds G2=>F (.ref i::ds) G2:=by unfold Y7;rw [ZC6 h];simp only [h2]
@[simp] theorem ev_LR:dLR ta S G=(ta S G).bind λds G1=>match ds with
 | [.int j]=>if inR j/\j<=1000000 then .ok (.ref G1.length) (G1++ [.lst (Dc 0 j.toNat)]) else .bad
 | _=>.bad:=id rfl
@[simp] theorem ZNG {i j:Int} (hi:inR i) (hj:inR j):rng3 [.int i,.int j,.int (-1)] G=.ok (.pure (Kh i (i - j).toNat)) G:=by simp [rng3,hi,hj]
theorem ZPI {lo:Int}:Kh lo 0= []:=rfl
theorem ZRs {lo:Int} {n:Nat}:Kh lo (n + 1)=.int lo::Kh (lo - 1) n:=by
 unfold Kh;rw [qO,zW,zS]
 congr 1
 ·simp
 ·refine qJ λk _=> ?_
  simp only [Function.comp]
  congr 1
  lia
theorem ZPn {ns:List Int} {k:Int} (h:Hq d G=some (ns.map D.int)) (hm:k∈ns) (hl:ns.length<=1000000):Qx d [.int k] G=.ok (.int (ns.idxOf k)) G:=by unfold Qx;simp only [h,ZAw,hm,hl,and_self,if_true]
theorem ZK3 {G G':DH} (hl:G'.length=G.length) (hb:bel G.length d=true):tidy G (.ok d G')=.ok d G':=by
 unfold tidy;simp only [hb,if_true];split
 ·rename_i h;rw [jI (by lia)] at h;rw [h]
 ·rfl
theorem ZQ4 {G G':DH} (h:G'.take G.length≠G):tidy G (.ok d G')=.ok d G':=by unfold tidy;simp only [h,if_false]
end
end DL
namespace DL
open PySem PySem.Spec L2
open PyProof.Rows hiding St
section
variable {X:Cx} {E:XK}
end
section
variable {i j:Int} {G:DH}
end
noncomputable def comp0 (N:List Str) (names:List (Str×xz)) (nt:Nat):Bool:=
 names.all (λy=>(!Il y.2 || isK Il (names.lookup y.1)) && !Kv y.2 && !Kg y.2) && decide N.Nodup && decide (N.length=nt)
theorem ZHs {X:Cx} {N:List Str} {scope:xw} {nt:Nat} (hk:scope.kind=.function:=by rfl) (h:comp0 N scope.names nt=true:=by decide +kernel):CompSc X N scope nt []:=by
 unfold comp0 at h;rw [zA,zA] at h;obtain ⟨⟨h1,h2⟩,h3⟩:=h;rw [qj] at h1;have key:=λ(y:Str×xz) (hy:y∈scope.names)=>(by have:=h1 y hy;rw [zA,zA] at this;exact this:((!Il y.2 || isK Il (scope.names.lookup y.1))=true/\(!Kv y.2)=true)/\(!Kg y.2)=true)
 refine ⟨hk,λy hy hl=> ?_,λy hy hl=> ?_,λy hy hl=> ?_,of_decide_eq_true h2,by rw [of_decide_eq_true h3];rfl,λk j hj=> ?_⟩
 ·have:=(key y hy).1.1;rw [hl] at this;exact Tn (p:=Il) (λ_ h=>ZHn h) (by have t:(false || isK Il (scope.names.lookup y.1))=true:=this;simpa using t)
 ·have:=(key y hy).1.2;rw [hl] at this;exact absurd this (by decide)
 ·have:=(key y hy).2;rw [hl] at this;exact absurd this (by decide)
 ·cases hj
section
variable {X:Cx} {E:XK} {e st:xY} {te:TE} {ts:TO} {p2 pos:Pos}
end
section
variable {S:DSt} {G:DH}
end
section
variable {X:Cx} {E:XK}
end
section
variable {S:DSt} {G:DH}
end
section
variable {X:Cx} {vG:List (xW×Obj)} {σ:St} {H:Hp} {s:xk} {N:List Str} {scope:xw} {caps:List Nat} {x qual:Str} {f:xW} {cd:x9} {A:xK}
end
section
variable {X:Cx} {vG:List (xW×Obj)} {σ:St} {s:xk} {scope:xw} {a:Wd}
end
def ltK (ks:List Int) (i j:Nat):Bool:=decide (ks.getD i 0 < ks.getD j 0)
section
variable {prog:xj} {w:xA} {A:xK} {E:x9->xk->Prop} {s:xk}
end
section
variable {X:Cx} {vG:List (xW×Obj)} {σ:St} {H:Hp} {s:xk} {h':Heap} {m:Str->Option x9}
end
section
variable {X:Cx} {vG:List (xW×Obj)} {σ:St} {N:List Str} {scope:xw} {caps:List Nat} {x:Str} {f:xW} {A:xK} {a:Wd} {S:DSt} {body:xY} {te:DE} {params:Arguments} {pm ctv:x9} {c':xW} {ob oc:Obj} {vs0:Array x9} {t0:Tok} {E:XK}
 {Dd kS:xW} {e1:Nat} {m:Str->Option x9} {h₀:Heap} {Q:VK}
end
end DL
namespace DL
open PySem PySem.Spec L2
open PyProof.Rows hiding St
open PySem.W (KatKeys KatFin katRev KatBack)
section
variable {prog:xj} {w:xA} {A:xK} {E:x9->xk->Prop} {s:xk} {h₀:Heap} {L a kS:xW} {m:Str->Option x9} {P:PySem.Fin->xk->Prop}
end
end DL
namespace DL
open PySem PySem.Spec L2
open PyProof.Rows hiding St
section
variable {X:Cx} {vG:List (xW×Obj)} {σ:St} {N:List Str} {scope:xw} {caps:List Nat} {x:Str} {f:xW} {A:xK} {a:Wd} {S:DSt} {body:xY} {te:DE} {params:Arguments} {pm ctv:x9} {c':xW} {ob oc:Obj} {vs0:Array x9} {t0:Tok}
 {Dd kS:xW} {e1:Nat} {m:Str->Option x9} {h₀:Heap} {Q:VK}
end
section
variable {X:Cx} {vG:List (xW×Obj)} {σ:St} {N:List Str} {scope:xw} {caps:List Nat} {x:Str} {f:xW} {A:xK} {a:Wd} {S:DSt} {body:xY} {te:DE} {params:Arguments} {pm ctv:x9} {c':xW} {ob oc:Obj} {vs0:Array x9} {t0:Tok} {Q:VK}
end
section
variable {X:Cx} {N:List Str} {scope:xw} {caps:List Nat} {x:Str} {body:xY} {te:DE} {params:Arguments} {e:xY} {tn:DA} {p p' pos pos' lp kp kp' cp:Pos} {C m:Str} {cj:Nat}
end
end DL
namespace DL
open PySem PySem.W L2
variable {h:Heap} {C:xW} {m x q:Str} {st:xy}
noncomputable def O5:List Obj->Nat->vD
 | [],_=> []
 | o::r,n=>match o.cls,o.data with
  | .none,.fields _=>O5 r (n + 1)
  | _,.freed=>O5 r (n + 1)
  | _,_=>(n,o)::O5 r (n + 1)
def S7 (h:Heap):vD:=O5 h.objs.toList 0
theorem ZJL {a:xW} {o:Obj}:∀{l:List Obj} {n:Nat},(O5 l n).lookup a=some o->n<=a/\l[a - n]? =some o/\∀x y z,o≠⟨x,y,.freed,z⟩
 | [],n,h=>by cases h
 | p::r,n,h=>by
  have next:(O5 r (n + 1)).lookup a=some o->n<=a/\(p::r)[a - n]? =some o/\∀x y z,o≠⟨x,y,.freed,z⟩:=λh=>by obtain ⟨h1,h2,h3⟩:=ZJL h;obtain ⟨k,rfl⟩:=Nat.exists_eq_add_of_le h1;rw [Nat.add_sub_cancel_left] at h2;refine ⟨zB (j5 n) h1,?_,h3⟩;rw [show n + 1 + k - n=k + 1 by rw [Nat.add_assoc,Nat.add_sub_cancel_left,Nat.add_comm],j2];exact h2
  unfold O5 at h;split at h
  ·exact next h
  ·exact next h
  ·rename_i hz hf;rw [jW] at h;split at h
   ·rename_i e;have e':a=n:=by simpa using e
    subst e';cases h;refine ⟨zK _,by simp,λx y z q=> ?_⟩;subst q;exact hz rfl
   ·exact next h
theorem ZO3 (h:Heap):(S7 h).In h:=λa o e=>by
 obtain ⟨_,h2,h3⟩:=ZJL e;have h4:h.objs[a]? =some o:=by simpa using h2
 unfold Heap.get?;rw [h4];split
 ·rename_i q;cases q;exact absurd rfl (h3 _ _ _)
 ·rfl
noncomputable def Ls (p:xj) (N:Nat) (w:xA):Heap:=match openEnds vz p w N with
 | some s=>s.heap
 | none=>default
noncomputable def Stays (p:xj) (N:Nat) (w:xA) (h:Heap):Prop:=∀b o,(Ls p N w).get? b=some o->h.get? b=some o
theorem Stays.in {p:xj} {N:Nat} {w:xA} (x:Stays p N w h):(S7 (Ls p N w)).In h:=λa o e=>x a o (ZO3 _ a o e)
noncomputable def Z8 (p:xj) (N:Nat):Hook:=
 ⟨Heap,λs=>s.heap,Ls p N,Stays p N,λw s e b o q=>by rw [show s.heap=Ls p N w from e];exact q,λw h h' x k b o q=>k b o (x b o q)⟩
section
variable {p q:xj} {loose:List Str} {Xt:xk->Bool} {N:Nat} {β:Type} {see:Heap->β} {val:β}
theorem ZNv (E:∀w,(openEnds vz p w N).map (λs=>(openSeen q loose (xO p.main.body) Xt true s,see s.heap))=some (openGood q loose,val)):
  LeftO p q loose Xt (Z8 p N).obs (Z8 p N).val N:=λw=>by
 obtain ⟨s,h1,h2⟩:=zI.mp (E w);show Option.map _ _=some (openGood q loose,Ls p N w);unfold Ls;rw [h1];show some (openSeen q loose (xO p.main.body) Xt true s,s.heap)=_;rw [(Prod.mk.inj h2).1]
theorem ZRt (E:∀w,(openEnds vz p w N).map (λs=>(openSeen q loose (xO p.main.body) Xt true s,see s.heap))=some (openGood q loose,val)) (w:xA):see (Ls p N w)=val:=by obtain ⟨s,h1,h2⟩:=zI.mp (E w);unfold Ls;rw [h1];exact (Prod.mk.inj h2).2
end
noncomputable def dOf (s:xy):DefRec:=match s with
 | Stmt.FunctionDef n a b _ _ _ s _ _ p=>⟨n,a,b,s,p⟩
 | _=>⟨Str.empty,⟨[],[],none,[],[],none,[]⟩,[],{kind:=.module,names:= [],isGenerator:=false,isCoroutine:=false,more:= []},⟨0,0,0,0⟩⟩
noncomputable abbrev XtOf (l:OpenLaw) (q:xj) (s:xk):Bool:=xlAt q [] s && recOk l.row.toRowW.records s
theorem holds_top {l:OpenLaw} {q:xj} {loose:List Str} {N:Nat} {β:Type} {see:Heap->β} {val:β} {d:DefRec} (well:l.wellSaid=true)
  (E:∀w,(openEnds vz l.prog w N).map (λs=>(openSeen q loose (xO l.prog.main.body) (XtOf l q) true s,see s.heap))=some (openGood q loose,val))
  (hdef:defOf q l.row.name=some (d,[])) (hp:l.row.prog.theDef l.row.name=some (d.params,d.body,d.scope)) (hk:kwWritten? d.params.kwonlyargs d.params.kw_defaults=some []) (hwr:(!l.row.writes || l.row.records.isEmpty)=true)
  (ok:(chainsOk q && opensWell l.row.prog && (frees l.row.toRowW && l.row.within.isEmpty))=true) (hb:l.row.prog.bare) (hw:l.row.toRowW.promised)
  (call:WalkO q loose (XL q []) (Stays l.prog N) l.row.toRowW d [] λf vs=>PySem.call f vs):l.Holds:=
 holds_law well λsaid=>holds_open (r:=l.row) (q:=q) (loose:=loose) (Xt:=XtOf l q) (XP:=XL q []) (YP:=Stays l.prog N) (N:=N) (ZNv E) (Z8 l.prog N).of (Z8 l.prog N).keeps
  (λs e=>xl_of s (jQ.mp e).1) XL.keeps hdef hp hk (λs e=>recFacts_of (jQ.mp e).2) hwr said ok hb hw call
noncomputable def Bo (K:vD) (n:Str):xW:=match nsIn K vX n with
 | some (some (.ref f))=>f
 | _=>0
noncomputable def gOk (K:vD) (n:Str):Bool:=match nsIn K vX n with
 | some (some (.ref _))=>true
 | _=>false
theorem ZFa {K:vD} {n:Str} (h:gOk K n=true):nsIn K vX n=some (some (.ref (Bo K n))):=by
 unfold gOk at h;unfold Bo;split at h
 ·rename_i e;rw [e]
 ·cases h
noncomputable def Hh (K:vD) (C:xW) (m:Str):xW:=match findIn K (.ref C) m with
 | some (some (.ref f))=>f
 | _=>0
noncomputable def mOk (K:vD) (C:xW) (m:Str):Bool:=match findIn K (.ref C) m with
 | some (some (.ref f))=>isFn K (.ref f)
 | _=>false
theorem ZIz {K:vD} (h:mOk K C m=true):findIn K (.ref C) m=some (some (.ref (Hh K C m)))/\isFn K (.ref (Hh K C m))=true:=by
 unfold mOk at h;unfold Hh;split at h
 ·rename_i e;rw [e];exact ⟨rfl,h⟩
 ·cases h
noncomputable def noF (K:vD) (C:xW) (m:Str):Bool:=match findIn K (.ref C) m with
 | some none=>true
 | _=>false
theorem ZKc {K:vD} (h:noF K C m=true):findIn K (.ref C) m=some none:=by
 unfold noF at h;split at h
 ·assumption
 ·cases h
noncomputable def zOk (K:vD) (n:Str):Bool:=match nsIn K vX n with
 | some none=>true
 | _=>false
theorem ZRU {K:vD} {n:Str} (h:zOk K n=true):nsIn K vX n=some none:=by
 unfold zOk at h;split at h
 ·assumption
 ·cases h
noncomputable def ZDo (K:vD) (C:xW):Bool:=match findIn K (.ref C) "__setattr__" with
 | some (some (.builtin s))=>s == "object.__setattr__"
 | _=>false
theorem ZPR {K:vD} (h:ZDo K C=true):findIn K (.ref C) "__setattr__"=some (some (.builtin "object.__setattr__")):=by
 unfold ZDo at h;split at h
 ·rename_i e;rw [e,beq_iff_eq.mp h]
 ·cases h
noncomputable def iOk (K:vD) (n:Str) (v:Int):Bool:=match nsIn K vX n with
 | some (some (.int u _))=>decide (u=v)
 | _=>false
noncomputable def sOk (K:vD) (n:Str) (v:Str):Bool:=match nsIn K vX n with
 | some (some (.str u _))=>decide (u=v)
 | _=>false
noncomputable def Dq (K:vD) (n:Str):Tok:=match nsIn K vX n with
 | some (some (.int _ t))=>t
 | some (some (.str _ t))=>t
 | _=>0
theorem ZLS {K:vD} {n:Str} {v:Int} (h:iOk K n v=true):nsIn K vX n=some (some (.int v (Dq K n))):=by
 unfold iOk at h;unfold Dq;split at h
 ·rename_i e;rw [e,of_decide_eq_true h]
 ·cases h
theorem ZNt {K:vD} {n:Str} {v:Str} (h:sOk K n v=true):nsIn K vX n=some (some (.str v (Dq K n))):=by
 unfold sOk at h;unfold Dq;split at h
 ·rename_i e;rw [e,of_decide_eq_true h]
 ·cases h
noncomputable def Np (K:vD) (f:xW):Obj:=match K.lookup f with
 | some o=>o
 | none=>⟨.none,none,.plain,#[]⟩
noncomputable def Dv (K:vD) (f:xW):xq:=match (Np K f).data with
 | .func fd=>fd
 | _=>default
def ZNT:x9->Bool
 | .none=>true
 | _=>false
def ZNm:FuncBody->Option (List xy)
 | .stmts b=>some b
 | _=>none
noncomputable def Zm (K:vD) (x q:Str) (f:xW):Bool:=match K.lookup f with
 | some ⟨_,_,.func fd,_⟩=>decide (fd.name=x) && decide (fd.qualname=q) && (fd.globals == vX && fd.builtins == builtinsNs && fd.closure.isEmpty && ZNT fd.defaults) && (codeIn K fd.code q && keepIn K (.ref f))
 | _=>false
abbrev DefTxt:=Arguments×Option (List xy)×xw
noncomputable def Zk (K:vD) (f:xW):DefTxt:=((Dv K f).params,ZNm (Dv K f).body,(Dv K f).scope)
def Yx (st:xy):DefTxt:=(Lx st,some (Jb st),Aw st)
noncomputable abbrev FnSaid (K:vD) (x q:Str) (st:xy) (f:xW):Prop:=
 K.lookup f=some ⟨(Np K f).cls,(Np K f).dict,.func (fnOf x q (Lx st) (Jb st) (Aw st) .none (Dv K f).kwdefaults (Dv K f).doc (Dv K f).pyModule (Dv K f).annotations (Dv K f).code (Dv K f).closureTuple),(Np K f).slots⟩/\
  codeIn K (Dv K f).code q=true/\keepIn K (.ref f)=true
theorem ZHw {K:vD} {f:xW} (h:Zm K x q f=true) (t:Zk K f=Yx st):FnSaid K x q st f:=by
 unfold Zm at h;split at h
 ·rename_i oc od fd sl e;have eo:Np K f=⟨oc,od,.func fd,sl⟩:=by unfold Np;rw [e]
  have ef:Dv K f=fd:=by unfold Dv;rw [eo]
  unfold Zk Yx at t;rw [ef] at t;obtain ⟨t1,t2⟩:=Prod.mk.inj t;obtain ⟨t2,t3⟩:=Prod.mk.inj t2;simp only [zA,decide_eq_true_eq,beq_iff_eq,List.isEmpty_iff] at h;obtain ⟨⟨⟨h1,h2⟩,⟨⟨h3,h4⟩,h5⟩,h6⟩,h7,h8⟩:=h;unfold FnSaid;rw [ef,eo,e];refine ⟨?_,h7,h8⟩;obtain ⟨nm,qn,ps,bd,sc,gl,cl,df,kd,dc,pm,an,cd,ct,bl⟩:=fd;dsimp only at t1 t2 t3 h1 h2 h3 h4 h5 h6;subst h1 h2 h3 h4 h5 t1 t3;have h6':df=.none:=by cases df <;> first | rfl | cases h6
  subst h6';have h9:bd=.stmts (Jb st):=by
   cases bd <;> first | (cases t2) | skip
   exact congrArg _ (Option.some.inj t2)
  subst h9
  rfl
 ·cases h
noncomputable def strsOf:List x9->Option (List Str)
 | []=>some []
 | .str s _::r=>(strsOf r).map (s::·)
 | _::_=>none
theorem ZE7:∀{l:List x9} {ss:List Str},strsOf l=some ss->Vals (ss.map V.str) l
 | [],ss,h=>by cases h;exact .nil
 | v::r,ss,h=>by
  unfold strsOf at h;split at h
  ·rename_i q;cases q
  ·rename_i s t r' q;cases q;obtain ⟨ss',h1,rfl⟩:=zI.mp h;exact .cons ⟨_,rfl⟩ (ZE7 h1)
  ·cases h
noncomputable def ZCp (K:vD) (n:Str) (vs:List Str):Bool:=match nsIn K vX n with
 | some (some (.ref p))=>(match K.lookup p with
   | some ⟨.type t,_,.seq its _,_⟩=>t == "tuple" && decide (strsOf its.toList=some vs) && Nat.ble its.toList.length 1000
   | _=>false)
 | _=>false
noncomputable abbrev GtSaid (K:vD) (n:Str) (vs:List Str):Prop:=∃(p:xW) (od:Option xW) (sl:Array (Option x9)) (k:Nat) (its:List x9),nsIn K vX n=some (some (.ref p))/\K.lookup p=some ⟨.type "tuple",od,.seq its.toArray k,sl⟩/\its.length<=1000/\Vals (vs.map V.str) its
theorem ZQy {K:vD} {n:Str} {vs:List Str} (h:ZCp K n vs=true):GtSaid K n vs:=by
 unfold ZCp at h;split at h
 ·rename_i p e;split at h
  ·rename_i t od its k sl e2;simp only [zA,beq_iff_eq,decide_eq_true_eq] at h;obtain ⟨⟨rfl,h2⟩,h3⟩:=h;exact ⟨p,od,sl,k,its.toList,e,by rw [e2],Nat.le_of_ble_eq_true h3,ZE7 h2⟩
  ·cases h
 ·cases h
inductive Ask where
 | fn (n:Str) (st:xy)
 | mt (c m q:Str) (st:xy)
 | cl (c:Str)
 | no (c x:Str)
 | z (n:Str)
 | gi (n:Str) (v:Int)
 | gs (n v:Str)
 | gt (n:Str) (vs:List Str)
noncomputable def Ask.chk (K:vD):Ask->Bool
 | .fn n _=>gOk K n && Zm K n n (Bo K n)
 | .mt c m q _=>mOk K (Bo K c) m && Zm K m q (Hh K (Bo K c) m)
 | .cl c=>gOk K c && (plainGet K (Bo K c) Str.empty && hasDictIn K (Bo K c) && plainOver K (Bo K c)) && (ZDo K (Bo K c) && makesIn K (Bo K c) && keepIn K (.ref (Bo K c)))
 | .no c x=>noF K (Bo K c) x
 | .z n=>zOk K n
 | .gi n v=>iOk K n v
 | .gs n v=>sOk K n v
 | .gt n vs=>ZCp K n vs
noncomputable def Ask.txt (K:vD):Ask->Option DefTxt
 | .fn n _=>some (Zk K (Bo K n))
 | .mt c m _ _=>some (Zk K (Hh K (Bo K c) m))
 | _=>none
noncomputable def Ask.want:Ask->Option DefTxt
 | .fn _ st=>some (Yx st)
 | .mt _ _ _ st=>some (Yx st)
 | _=>none
noncomputable def Ask.Said (K:vD):Ask->Prop
 | .fn n st=>nsIn K vX n=some (some (.ref (Bo K n)))/\FnSaid K n n st (Bo K n)
 | .mt c m q st=>findIn K (.ref (Bo K c)) m=some (some (.ref (Hh K (Bo K c) m)))/\isFn K (.ref (Hh K (Bo K c) m))=true/\FnSaid K m q st (Hh K (Bo K c) m)
 | .cl c=>nsIn K vX c=some (some (.ref (Bo K c)))/\plainGet K (Bo K c) Str.empty=true/\hasDictIn K (Bo K c)=true/\plainOver K (Bo K c)=true/\
   findIn K (.ref (Bo K c)) "__setattr__"=some (some (.builtin "object.__setattr__"))/\makesIn K (Bo K c)=true/\keepIn K (.ref (Bo K c))=true
 | .no c x=>findIn K (.ref (Bo K c)) x=some none
 | .z n=>nsIn K vX n=some none
 | .gi n v=>nsIn K vX n=some (some (.int v (Dq K n)))
 | .gs n v=>nsIn K vX n=some (some (.str v (Dq K n)))
 | .gt n vs=>GtSaid K n vs
theorem Ask.said {K:vD}:∀{a:Ask},a.chk K=true->a.txt K=a.want->a.Said K
 | .fn n st,h,t=>by obtain ⟨h1,h2⟩:=jQ.mp h;exact ⟨ZFa h1,ZHw h2 (Option.some.inj t)⟩
 | .mt c m q st,h,t=>by obtain ⟨h1,h2⟩:=jQ.mp h;exact ⟨(ZIz h1).1,(ZIz h1).2,ZHw h2 (Option.some.inj t)⟩
 | .cl c,h,_=>by simp only [Ask.chk,zA] at h;obtain ⟨⟨h1,⟨h2,h3⟩,h4⟩,⟨h5,h6⟩,h7⟩:=h;exact ⟨ZFa h1,h2,h3,h4,ZPR h5,h6,h7⟩
 | .no c x,h,_=>ZKc h
 | .z n,h,_=>ZRU h
 | .gi n v,h,_=>ZLS h
 | .gs n v,h,_=>ZNt h
 | .gt n vs,h,_=>ZQy h
def AllSaid (K:vD):List Ask->Prop
 | []=>True
 | a::r=>a.Said K/\AllSaid K r
theorem ZF1 {K:vD}:∀{l:List Ask},(l.all (Ask.chk K),l.map (Ask.txt K))=(true,l.map Ask.want)->AllSaid K l
 | [],_=>trivial
 | a::r,h=>by obtain ⟨h1,h2⟩:=Prod.mk.inj h;rw [jX] at h1;obtain ⟨h3,h4⟩:=jQ.mp h1;rw [zW,zW] at h2;obtain ⟨h5,h6⟩:=List.cons.inj h2;exact ⟨Ask.said h3 h5,ZF1 (by rw [h4,h6])⟩
noncomputable def ZCk (l:List Ask) (h:Heap):Bool×List (Option DefTxt):=(l.all (Ask.chk (S7 h)),l.map (Ask.txt (S7 h)))
abbrev ZCa (l:List Ask):Bool×List (Option DefTxt):=(true,l.map Ask.want)
theorem ZPO {K:vD} {a:Str} {f:xW} {fd:xq} {s:xk} {v:x9} (F:Fun K x q st f fd)
  (h:∀(kV doc pm:x9) (an:Option xW) (cdv ct:x9) (u:x9),bindArgs (fnOf x q (Lx st) (Jb st) (Aw st) .none kV doc pm an cdv ct) ⟨[u],[]⟩=pure [(a,u)]):BindsTo s fd ⟨[v],[]⟩ [(a,v)]:=by
 obtain ⟨oc,od,kV,doc,pm,an,cdv,ct,osl,rfl,lk,hcd⟩:=F.ex;exact .of_eq (h kV doc pm an cdv ct v)
noncomputable def Wb (p:xj) (w:xA) (n₀:Nat) (ann:Option x9):Nat->SharedT->Thread->Option SharedT
 | 0,_,_=>none
 | n + 1,s,t=>match through t with
  | true=>some s
  | false=>match PySem.W.Fast.tw6613529449190102663 n₀ ann t with
   | false=>none
   | true=>match PySem.W.Fast.tw10156331382660048174 (PySem.W.Fast.tw11892475500146522536 PySem.W.Fast.tw14364793385576792824) p w s t with
    | some (s',t')=>Wb p w n₀ ann n s' t'
    | none=>none
theorem ZHm {p:xj} {w:xA} {n₀:Nat} {ann:Option x9}:∀{n:Nat} {s s':SharedT} {t:Thread},Wb p w n₀ ann n s t=some s'->topRun vz p w n₀ ann n s.abs t=some s'.abs
 | 0,_,_,_,h=>by cases h
 | n + 1,s,s',t,h=>by
  unfold Wb at h;unfold topRun;rw [<-PySem.W.Fast.te6613529449190102663,<-PySem.W.Fast.te10156331382660048174,<-PySem.W.Fast.te11892475500146522536,<-PySem.W.Fast.te14364793385576792824] at h;cases ht:through t with
  | true=>
   rw [ht] at h;cases h
   rfl
  | false=>
   rw [ht] at h;dsimp only at h ⊢;cases ho:stepOk n₀ ann t with
   | false=>rw [ho] at h;cases h
   | true=>
    rw [ho] at h;dsimp only at h ⊢;split at h
    ·rename_i s2 t2 e;rw [stepT_spec e];exact ZHm h
    ·cases h
noncomputable def ZEq:List Obj->Nat->BT->BT
 | [],_,t=>t
 | o::r,n,t=>ZEq r (n + 1) (t.ins n o)
noncomputable def ZE6 (w:xA) (os:OsState):SharedT:=⟨ZEq (vE w.params).objs.toList 0 .nil,(vE w.params).objs.size,(vE w.params).life,Array.mk [],boot_drawn,boot_toks,os⟩
theorem boot_abs:∀w os,(ZE6 w os).abs=⟨vE w.params,Array.mk [],boot_drawn,boot_toks,os⟩:=λw os=>by kernel_rfl
theorem ZM8:∀w:xA,((vE w.params).isNs vX && (Array.mk []:Array GenState).size == 0)=true:=λw=>by kernel_rfl
noncomputable def ZB5 (p:xj) (w:xA) (os:OsState):Option SharedT:=Wb p w (vE w.params).objs.size (PySem.W.Fast.tw8920871248978507458 (vE w.params) vX "__annotations__") 100000 (ZE6 w os) (topStub p)
noncomputable def ZAy (p:xj) (w:xA) (s:xk):Bool:=staticsOk (PySem.W.Fast.tw5923862056798008813 p.main.body) (vE w.params) s.heap && namesBound p s.heap && gensDone s && laidKept (vE w.params) s.heap
theorem ZPo {p q:xj} {loose:List Str} {Xt:xk->Bool} {β:Type} {see:Heap->β} {val:β} (e:opening p=plainProg p.main.scope.names) (f:∀s,fenceModules? p s=some s)
  (R:∀w os,(ZB5 p w os).map (λs=>(ZAy p w s.abs,PySem.W.Fast.tw4187177175401517315 q loose (PySem.W.Fast.tw5923862056798008813 p.main.body) Xt true s.abs,see s.abs.heap))=some (true,openGood q loose,val)):
  ∀w,(openEnds vz p w 100000).map (λs=>(openSeen q loose (xO p.main.body) Xt true s,see s.heap))=some (openGood q loose,val):=λw=>by
 obtain ⟨⟨h,gs,d,k,os⟩,h0,e0⟩:=zI.mp (boot_open (N:=100000) e rfl f w);obtain ⟨rfl,rfl,rfl,rfl⟩:h=vE w.params/\gs=Array.mk []/\d=boot_drawn/\k=boot_toks:=by simpa using e0
 obtain ⟨s,h1,h2⟩:=zI.mp (R w os);obtain ⟨h3,h4⟩:=Prod.mk.inj h2;obtain ⟨h4,h5⟩:=Prod.mk.inj h4;unfold ZB5 at h1;have r:=ZHm h1;rw [boot_abs,<-PySem.W.Fast.te8920871248978507458] at r;rw [<-PySem.W.Fast.te4187177175401517315,<-PySem.W.Fast.te5923862056798008813] at h4;unfold ZAy at h3;rw [<-PySem.W.Fast.te5923862056798008813] at h3;have t:topFrom vz p w 100000 ⟨vE w.params,Array.mk [],boot_drawn,boot_toks,os⟩=some s.abs:=by
  unfold topFrom;dsimp only;rw [ZM8,r]
  show (match staticsOk (xO p.main.body) (vE w.params) s.abs.heap && namesBound p s.abs.heap && gensDone s.abs && laidKept (vE w.params) s.abs.heap with | true=>_ | false=>_)=_
  rw [h3]
 unfold openEnds;rw [h0];show (topFrom vz p w 100000 _).map _=_;rw [t];exact congrArg some (Prod.ext h4 h5)
theorem ZOe {l:OpenLaw} (h:PySem.W.Fast.tw9446332074065402090 l=true):l.wellSaid=true:=by rw [PySem.W.Fast.te9446332074065402090];exact h
structure FT (K:vD) (mg:Str->Option x9) (n:Str) (st:xy) (ps:List Str):Prop where
 F:Fun K n n st (Bo K n) (Dv K (Bo K n))
 b:Binds K (Dv K (Bo K n)) ps []
 m:mg n=some (.ref (Bo K n))
 k:keepIn K (.ref (Bo K n))=true
structure MT (K:vD) (c m q:Str) (st:xy) (ps:List Str):Prop where
 F:Fun K m q st (Hh K (Bo K c) m) (Dv K (Hh K (Bo K c) m))
 b:Binds K (Dv K (Hh K (Bo K c) m)) ps []
 me:Meth K (Bo K c) m (Hh K (Bo K c) m)
structure CT (K:vD) (mg:Str->Option x9) (c:Str):Prop where
 N:nsIn K vX c=some (some (.ref (Bo K c)))
 cl:Cls K (Bo K c)
 g:mg c=some (.ref (Bo K c))
 mK:Mk K (Bo K c) (Hh K (Bo K c) "__init__")
theorem S9 {K:vD} {f:xW} (s:FnSaid K x q st f):Fun K x q st f (Dv K f):=by
 have e:Dv K f=fnOf x q (Lx st) (Jb st) (Aw st) .none (Dv K f).kwdefaults (Dv K f).doc (Dv K f).pyModule (Dv K f).annotations (Dv K f).code (Dv K f).closureTuple:=by
  have h:=s.1
  conv=>lhs;unfold Dv Np;rw [h]
 exact ⟨⟨_,_,_,_,_,_,_,_,_,e,by rw [e];exact s.1,s.2.1⟩,s.2.2⟩
theorem Df {K:vD} {mg:Str->Option x9} {n:Str} {ps:List Str} (X:K.In h) (G:h.Ns vX mg) (s:Ask.Said K (.fn n st))
  (hb:∀(kV doc pm:x9) (an:Option xW) (cdv ct:x9) (us:List x9),us.length=ps.length->bindArgs (fnOf n n (Lx st) (Jb st) (Aw st) .none kV doc pm an cdv ct) ⟨us,[]⟩=pure (ps.zip us)):FT K mg n st ps:=
 ⟨S9 s.2,(S9 s.2).binds hb,mg_of X G s.1,s.2.2.2⟩
theorem Ny {K:vD} {c:Str} {ps:List Str} (s:Ask.Said K (.mt c m q st))
  (hb:∀(kV doc pm:x9) (an:Option xW) (cdv ct:x9) (us:List x9),us.length=ps.length->bindArgs (fnOf m q (Lx st) (Jb st) (Aw st) .none kV doc pm an cdv ct) ⟨us,[]⟩=pure (ps.zip us)):MT K c m q st ps:=
 ⟨S9 s.2.2,(S9 s.2.2).binds hb,s.1,s.2.1,s.2.2.2.2⟩
theorem ZLl {K:vD} {mg:Str->Option x9} {c:Str} (X:K.In h) (G:h.Ns vX mg) (s:Ask.Said K (.cl c)) (i:Ask.Said K (.mt c "__init__" q st)):CT K mg c:=
 ⟨s.1,⟨s.2.1,s.2.2.1,s.2.2.2.1,s.2.2.2.2.1⟩,mg_of X G s.1,s.2.2.2.2.2.1,i.1,i.2.1,s.2.2.2.2.2.2⟩
noncomputable abbrev FnO (P:xj) (w:xA) (K:vD) (mg:Str->Option x9) (base:Heap) (k:Nat) (n:Str) (ps:List Str) (F:List D->DH->R D):Prop:=FnOk P w K mg base CX0 k (Bo K n) (Dv K (Bo K n)) ps (lF K F)
noncomputable abbrev MtO (P:xj) (w:xA) (K:vD) (mg:Str->Option x9) (base:Heap) (k:Nat) (c m:Str) (ps:List Str) (F:List D->DH->R D):Prop:=FnOk P w K mg base CX0 k (Hh K (Bo K c) m) (Dv K (Hh K (Bo K c) m)) ps (lF K F)
theorem ZLR {K:vD} {fd:xq} {s:xk} {v:x9} {a:Str} {f:xW} (F:Fun K x q st f fd)
  (h:∀(kV doc pm:x9) (an:Option xW) (cdv ct:x9) (u:x9),bindArgs (fnOf x q (Lx st) (Jb st) (Aw st) .none kV doc pm an cdv ct) ⟨[u],[]⟩=pure [(a,u)]:=by intros;rfl):BindsTo s fd ⟨[v],[]⟩ [(a,v)]:=ZPO F h
end DL
namespace Law
open PySem L2 DL
noncomputable def top (i:Nat):xy:=PySem.Challenge.pw_sluiceway_k43_whole_books.main.body.getD i (.Pass ⟨0,0,0,0⟩)
def fuel:Nat:=100000
noncomputable def inC (s:xy) (j:Nat):xy:=match s with
 | .ClassDef _ _ _ body _ _ _ _ _ _ _=>body.getD j (.Pass ⟨0,0,0,0⟩)
 | _=>.Pass ⟨0,0,0,0⟩
abbrev ZDh:xy:=top 49
abbrev ZHb:List Str:= ["_law_script","_law_k"]
abbrev ZCh:List Str:=ZHb.take 2
theorem ZRL:FnScope ZHb ZCh (Aw ZDh):=⟨rfl,rfl,rfl,by decide +kernel,rfl,by decide +kernel,by decide +kernel⟩
abbrev ZAD:xy:=top 63
abbrev ZDp:List Str:= ["_law_state_here"]
abbrev ZEA:List Str:=ZDp.take 1
theorem ZQZ:FnScope ZDp ZEA (Aw ZAD):=⟨rfl,rfl,rfl,by decide +kernel,rfl,by decide +kernel,by decide +kernel⟩
abbrev ZAQ:xy:=top 64
noncomputable abbrev ZBF:List Str:= ["_law_house_here","_law_state_here","_law_pages","_law_floods_here","_law_behind","_law_took","_law_out","_law_page","_law_k"]
abbrev ZBJ:List Str:=ZBF.take 5
theorem Nf:FnScope ZBF ZBJ (Aw ZAQ):=⟨rfl,rfl,rfl,by decide +kernel,rfl,by decide +kernel,by decide +kernel⟩
abbrev ZDO:xy:=top 50
abbrev ZIQ:List Str:= ["_law_found"]
abbrev ZBy:List Str:=ZIQ.take 1
theorem ZKl:FnScope ZIQ ZBy (Aw ZDO):=⟨rfl,rfl,rfl,by decide +kernel,rfl,by decide +kernel,by decide +kernel⟩
abbrev Wq:xy:=top 65
abbrev ZDj:List Str:= ["_law_found"]
abbrev ZCB:List Str:=ZDj.take 1
theorem ZKU:FnScope ZDj ZCB (Aw Wq):=⟨rfl,rfl,rfl,by decide +kernel,rfl,by decide +kernel,by decide +kernel⟩
abbrev ZBs:xy:=top 54
abbrev ZHj:List Str:= ["_law_x","_law_cell"]
abbrev ZBf:List Str:=ZHj.take 2
theorem ZJ7:FnScope ZHj ZBf (Aw ZBs):=⟨rfl,rfl,rfl,by decide +kernel,rfl,by decide +kernel,by decide +kernel⟩
abbrev ZB3:xy:=top 51
noncomputable abbrev ZEj:List Str:= ["_law_cell","_law_k","_law_many","_law_number_here","_law_left","_law_found","_law_j"]
abbrev ZCe:List Str:=ZEj.take 3
theorem Mi:FnScope ZEj ZCe (Aw ZB3):=⟨rfl,rfl,rfl,by decide +kernel,rfl,by decide +kernel,by decide +kernel⟩
abbrev Z3:xy:=top 62
noncomputable abbrev ZA0:List Str:= ["_law_script","_law_at","_law_many","_law_floods_here","_law_j","_law_cell"]
abbrev ZAg:List Str:=ZA0.take 3
theorem Zw:FnScope ZA0 ZAg (Aw Z3):=⟨rfl,rfl,rfl,by decide +kernel,rfl,by decide +kernel,by decide +kernel⟩
abbrev Um:xy:=top 52
noncomputable abbrev Wv:List Str:= ["_law_xs","_law_letters","_law_names_here","_law_x","_law_word","_law_rest","_law_j","_law_some"]
abbrev ZAe:List Str:=Wv.take 1
theorem K6:FnScope Wv ZAe (Aw Um):=⟨rfl,rfl,rfl,by decide +kernel,rfl,by decide +kernel,by decide +kernel⟩
abbrev Nz:xy:=top 53
noncomputable abbrev Qf:List Str:= ["_law_cell","_law_letters","_law_xs","_law_word","_law_turned","_law_other","_law_names_here","_law_k","_law_name","_law_size","_law_at","_law_sign"]
abbrev ZBM:List Str:=Qf.take 1
theorem Gk:FnScope Qf ZBM (Aw Nz):=⟨rfl,rfl,rfl,by decide +kernel,rfl,by decide +kernel,by decide +kernel⟩
abbrev ZBW:xy:=top 57
abbrev ZJl:List Str:= ["_law_x"]
abbrev ZBQ:List Str:=ZJl.take 1
theorem ZOk:FnScope ZJl ZBQ (Aw ZBW):=⟨rfl,rfl,rfl,by decide +kernel,rfl,by decide +kernel,by decide +kernel⟩
abbrev Xf:xy:=top 58
abbrev ZA2:List Str:= ["_law_rule_here"]
abbrev ZDN:List Str:=ZA2.take 1
theorem ZRk:FnScope ZA2 ZDN (Aw Xf):=⟨rfl,rfl,rfl,by decide +kernel,rfl,by decide +kernel,by decide +kernel⟩
abbrev ZDI:xy:=top 55
noncomputable abbrev ZET:List Str:= ["_law_xs","_law_cell","_law_pumps","_law_steps","_law_top","_law_j","_law_height","_law_many","_law_way"]
abbrev ZCS:List Str:=ZET.take 3
theorem Lw:FnScope ZET ZCS (Aw ZDI):=⟨rfl,rfl,rfl,by decide +kernel,rfl,by decide +kernel,by decide +kernel⟩
abbrev ZC1:xy:=top 56
noncomputable abbrev ZHL:List Str:= ["_law_xs","_law_cell","_law_year","_law_pumps","_law_seasons","_law_begin","_law_j"]
abbrev ZDg:List Str:=ZHL.take 4
theorem Tw:FnScope ZHL ZDg (Aw ZC1):=⟨rfl,rfl,rfl,by decide +kernel,rfl,by decide +kernel,by decide +kernel⟩
abbrev ZCG:xy:=top 59
noncomputable abbrev ZG5:List Str:= ["_law_names_here","_law_many","_law_k","_law_year","_law_cell","_law_xs","_law_down","_law_head","_law_pumps","_law_rule_here","_law_pump","_law_to"]
abbrev ZC5:List Str:=ZG5.take 5
theorem Ke:FnScope ZG5 ZC5 (Aw ZCG):=⟨rfl,rfl,rfl,by decide +kernel,rfl,by decide +kernel,by decide +kernel⟩
abbrev Zc:xy:=top 60
noncomputable abbrev ZEC:List Str:= ["_law_script","_law_at","_law_many","_law_year","_law_names_here","_law_places"]
abbrev ZDq:List Str:=ZEC.take 2
theorem Tz:FnScope ZEC ZDq (Aw Zc):=⟨rfl,rfl,rfl,by decide +kernel,rfl,by decide +kernel,by decide +kernel⟩
abbrev Vo:xy:=top 61
noncomputable abbrev ZB7:List Str:= ["_law_house_here","_law_cell","_law_levels","_law_coming","_law_rows","_law_k","_law_place_here","_law_xs","_law_level"]
abbrev ZCT:List Str:=ZB7.take 2
theorem Ln:FnScope ZB7 ZCT (Aw Vo):=⟨rfl,rfl,rfl,by decide +kernel,rfl,by decide +kernel,by decide +kernel⟩
abbrev Vx:xy:=top 45
abbrev ZBL:List Str:= ["house","page"]
abbrev ZBH:List Str:=ZBL.take 2
theorem ZKh:FnScope ZBL ZBH (Aw Vx):=⟨rfl,rfl,rfl,by decide +kernel,rfl,by decide +kernel,by decide +kernel⟩
abbrev Y8:xy:=top 44
abbrev ZBI:List Str:= ["state","levels","coming"]
abbrev ZCF:List Str:=ZBI.take 1
theorem ZDc:FnScope ZBI ZCF (Aw Y8):=⟨rfl,rfl,rfl,by decide +kernel,rfl,by decide +kernel,by decide +kernel⟩
abbrev Qk:xy:=top 47
abbrev Tr:List Str:= ["house","state","floods","pages","behind","came","took"]
abbrev ZAd:List Str:=Tr.take 5
theorem ZCC:FnScope Tr ZAd (Aw Qk):=⟨rfl,rfl,rfl,by decide +kernel,rfl,by decide +kernel,by decide +kernel⟩
abbrev Uz:xy:=inC (top 39) 0
abbrev Vc:List Str:= ["self","house","state","at","flood","levels","coming"]
abbrev ZBl:List Str:=Vc.take 5
theorem ZCD:FnScope Vc ZBl (Aw Uz):=⟨rfl,rfl,rfl,by decide +kernel,rfl,by decide +kernel,by decide +kernel⟩
abbrev ZDQ:xy:=inC (top 39) 5
abbrev ZIa:List Str:= ["self","to","delay","cubes"]
abbrev ZEQ:List Str:=ZIa.take 4
theorem ZN1:FnScope ZIa ZEQ (Aw ZDQ):=⟨rfl,rfl,rfl,by decide +kernel,rfl,by decide +kernel,by decide +kernel⟩
abbrev ZB9:xy:=top 18
abbrev ZFe:List Str:= ["house","name","number","place"]
abbrev ZBv:List Str:=ZFe.take 2
theorem ZDl:FnScope ZFe ZBv (Aw ZB9):=⟨rfl,rfl,rfl,by decide +kernel,rfl,by decide +kernel,by decide +kernel⟩
abbrev ZAZ:xy:=top 19
abbrev ZHM:List Str:= ["house","place","name"]
abbrev ZCb:List Str:=ZHM.take 2
theorem ZIl:FnScope ZHM ZCb (Aw ZAZ):=⟨rfl,rfl,rfl,by decide +kernel,rfl,by decide +kernel,by decide +kernel⟩
abbrev ZD1:xy:=inC (top 39) 4
abbrev ZG9:List Str:= ["self","number","cubes","down"]
abbrev ZC3:List Str:=ZG9.take 3
theorem ZES:FnScope ZG9 ZC3 (Aw ZD1):=⟨rfl,rfl,rfl,by decide +kernel,rfl,by decide +kernel,by decide +kernel⟩
abbrev ZBc:xy:=top 31
noncomputable abbrev ZFN:List Str:= ["stairs","water","river","pump","height","many","way","cubes"]
abbrev ZBX:List Str:=ZFN.take 2
theorem Lp:FnScope ZFN ZBX (Aw ZBc):=⟨rfl,rfl,rfl,by decide +kernel,rfl,by decide +kernel,by decide +kernel⟩
abbrev ZBw:xy:=top 30
abbrev ZGy:List Str:= ["rule","turn","held","first","stairs"]
abbrev ZDW:List Str:=ZGy.take 2
theorem Uw:FnScope ZGy ZDW (Aw ZBw):=⟨rfl,rfl,rfl,by decide +kernel,rfl,by decide +kernel,by decide +kernel⟩
abbrev ZBB:xy:=inC (top 39) 2
noncomputable abbrev ZGH:List Str:= ["self","number","place","came","let","pumped","stays","lies","spilled"]
abbrev ZCJ:List Str:=ZGH.take 2
theorem Mj:FnScope ZGH ZCJ (Aw ZBB):=⟨rfl,rfl,rfl,by decide +kernel,rfl,by decide +kernel,by decide +kernel⟩
abbrev ZAN:xy:=top 26
abbrev ZAt:List Str:= ["rows","takes","passing","row","number"]
abbrev ZBt:List Str:=ZAt.take 2
theorem Z6:FnScope ZAt ZBt (Aw ZAN):=⟨rfl,rfl,rfl,by decide +kernel,rfl,by decide +kernel,by decide +kernel⟩
abbrev ZAj:xy:=top 41
abbrev ZGb:List Str:= ["house","number","places","down"]
abbrev ZCy:List Str:=ZGb.take 2
theorem ZEK:FnScope ZGb ZCy (Aw ZAj):=⟨rfl,rfl,rfl,by decide +kernel,rfl,by decide +kernel,by decide +kernel⟩
abbrev ZBb:xy:=top 42
noncomputable abbrev ZI8:List Str:= ["house","members","came","rows","number","place","down","row_down"]
abbrev ZAr:List Str:=ZI8.take 3
theorem Rh:FnScope ZI8 ZAr (Aw ZBb):=⟨rfl,rfl,rfl,by decide +kernel,rfl,by decide +kernel,by decide +kernel⟩
abbrev Su:xy:=top 27
abbrev Zy:List Str:= ["rows","order"]
abbrev ZCW:List Str:=Zy.take 1
theorem ZEu:FnScope Zy ZCW (Aw Su):=⟨rfl,rfl,rfl,by decide +kernel,rfl,by decide +kernel,by decide +kernel⟩
abbrev ZCZ:xy:=top 28
abbrev ZGN:List Str:= ["rows","number","way","down"]
abbrev ZBm:List Str:=ZGN.take 2
theorem Wg:FnScope ZGN ZBm (Aw ZCZ):=⟨rfl,rfl,rfl,by decide +kernel,rfl,by decide +kernel,by decide +kernel⟩
abbrev Zj:xy:=top 25
abbrev ZC8:List Str:= ["rows","takes","passing","number","way","take","below"]
abbrev ZEF:List Str:=ZC8.take 1
theorem O9:FnScope ZC8 ZEF (Aw Zj):=⟨rfl,rfl,rfl,by decide +kernel,rfl,by decide +kernel,by decide +kernel⟩
abbrev ZDD:xy:=inC (top 39) 3
abbrev ZEd:List Str:= ["self","members","rows","takes","number","took","let"]
abbrev ZAf:List Str:=ZEd.take 2
theorem Qu:FnScope ZEd ZAf (Aw ZDD):=⟨rfl,rfl,rfl,by decide +kernel,rfl,by decide +kernel,by decide +kernel⟩
abbrev ZDX:xy:=top 40
abbrev ZGv:List Str:= ["house","lasts","number","down"]
abbrev ZEI:List Str:=ZGv.take 1
theorem Wu:FnScope ZGv ZEI (Aw ZDX):=⟨rfl,rfl,rfl,by decide +kernel,rfl,by decide +kernel,by decide +kernel⟩
abbrev Vt:xy:=inC (top 39) 1
abbrev ZCE:List Str:= ["self","lasts","number","last"]
abbrev ZA4:List Str:=ZCE.take 1
theorem Zr:FnScope ZCE ZA4 (Aw Vt):=⟨rfl,rfl,rfl,by decide +kernel,rfl,by decide +kernel,by decide +kernel⟩
abbrev Ue:xy:=inC (top 39) 6
abbrev Yg:List Str:= ["self"]
abbrev ZCs:List Str:=Yg.take 1
theorem ZLP:FnScope Yg ZCs (Aw Ue):=⟨rfl,rfl,rfl,by decide +kernel,rfl,by decide +kernel,by decide +kernel⟩
abbrev ZBP:xy:=top 37
abbrev ZHg:List Str:= ["house","state","at","flood","course"]
abbrev ZBa:List Str:=ZHg.take 4
theorem ZEt:FnScope ZHg ZBa (Aw ZBP):=⟨rfl,rfl,rfl,by decide +kernel,rfl,by decide +kernel,by decide +kernel⟩
abbrev ZDk:xy:=top 38
noncomputable abbrev ZI7:List Str:= ["house","state","at","floods","pages","number","flood","page"]
abbrev ZDZ:List Str:=ZI7.take 4
theorem R4:FnScope ZI7 ZDZ (Aw ZDk):=⟨rfl,rfl,rfl,by decide +kernel,rfl,by decide +kernel,by decide +kernel⟩
abbrev ZB8:xy:=top 46
abbrev ZHq:List Str:= ["house","state","at","floods","pages","behind"]
abbrev ZCx:List Str:=ZHq.take 4
theorem ZCO:FnScope ZHq ZCx (Aw ZB8):=⟨rfl,rfl,rfl,by decide +kernel,rfl,by decide +kernel,by decide +kernel⟩
abbrev I8:xy:=top 66
noncomputable abbrev ZDf:List Str:= ["_law_script","_law_house_here","_law_at","_law_floods_here","_law_state_here","_law_handed","_law_found","_law_pages","_law_behind","_law_cut","_law_amid","_law_one","_law_other"]
abbrev ZCc:List Str:=ZDf.take 1
theorem Ie:FnScope ZDf ZCc (Aw I8):=⟨rfl,rfl,rfl,by decide +kernel,rfl,by decide +kernel,by decide +kernel⟩
noncomputable def ZEo:DS:=(Ai (sIf (Bk (dOp V5 (dV 1) (dFn Gr (Ab (dV 0) Ae)))) (sRt (dOp Ah (dV 0) (dV 1))) sNx) (sRt (dC (.int 0))))
def Ff:List D->DH->R D:=Cd 2 0 ZEo
def ZAx:DE:=(dFn Dj (Ab (dV 0) Ae))
noncomputable def ZIo:DS:=(sRt (dOp Av (dFn Dj (Ab (dOp Ah (dV 0) (dC (.int 0))) Ae)) (dFn Dj (Ab (Ay (De (Di (dOp Ah (dV 0) (dC (.int 1)))) 1 [] (gV 0) Bj ZAx)) Ae))))
def Nm:List D->DH->R D:=Cd 1 0 ZIo
noncomputable def V2:DS:=(Ai (sAs (dOp Av (dV 5) (dOp Ah (dOp Ah (dV 7) (dV 8)) (dC (.int 1)))) (gV 5)) (sIf (Bk (dOp Cv (dOp Ah (dOp Ah (dOp Ah (dV 0) (dC (.int 1))) (dV 8)) (dC (.int 2))) (dC (.str "sea")))) (sAs (dOp Av (dOp Av (dV 6) (dOp Ah (dOp Ah (dV 7) (dV 8)) (dC (.int 2)))) (dOp Ah (dOp Ah (dV 7) (dV 8)) (dC (.int 3)))) (gV 6)) sNx))
def W9:DS:=(Ei (Dh rng1 (Ab (dFn Gr (Ab (dV 7) Ae)) Ae)) (gV 8) V2)
def ZC4:DE:=(dFn Dj (Ab (dV 0) Ae))
noncomputable def ZIL:DS:=(Ai (sAs (dC (.int 0)) (gV 5)) (Ai (sAs (dC (.int 0)) (gV 6)) (Ai (Ei (Di (dV 2)) (gV 7) W9) (sRt (dFn Cg (Ab (dFn Nm (Ab (dV 1) Ae)) (Ab (dFn Dj (Ab (Ay (De (Di (dV 3)) 1 [] (gV 0) Bj ZC4)) Ae)) (Ab (dV 5) (Ab (dV 6) (Ab (dFn Nm (Ab (dV 4) Ae)) Ae))))))))))
def Yl:List D->DH->R D:=Cd 5 4 ZIL
noncomputable def ZFJ:DS:=(sRt (Oz (dFn Jr (Ab (dV 0) (Ab (dC (.ty "int")) Ae))) (ZAu (dFn Jr (Ab (dV 0) (Ab (dC (.ty "bool")) Ae))))))
def ZAC:List D->DH->R D:=Cd 1 0 ZFJ
def T5:DE:=(dFn ZAC (Ab (dV 0) Ae))
noncomputable def ZId:DS:=(sRt (Oz (dFn Jr (Ab (dV 0) (Ab (dC (.ty "tuple")) Ae))) (Oz (dOp Cv (dFn Gr (Ab (dV 0) Ae)) (dC (.int 5))) (dFn Za (Ab (Ay (De (Di (dV 0)) 1 [] (gV 0) Bj T5)) Ae)))))
def Ra:List D->DH->R D:=Cd 1 0 ZId
noncomputable def ZEr:DS:=(Ai (sIf (Bk (dOp Cv (dOp Bm (dV 0) (dC (.int 4))) (dC (.int 0)))) (sRt (dC (.int 0))) sNx) (Ai (sIf (Ow (Bk (dOp Cv (dOp Bm (dV 0) (dC (.int 4))) (dC (.int 1)))) (Bk (dOp Jf (dV 0) (dC (.int 2147483647))))) (sRt (dOp Bm (dOp Gb (dV 0) (dC (.int 4))) (dOp Jo (dC (.int 10)) (dC (.int 38))))) sNx) (Ai (sIf (Bk (dOp Cv (dOp Bm (dV 0) (dC (.int 4))) (dC (.int 1)))) (sRt (dOp Bm (dOp Dm (dV 1) (dOp Av (dOp Gb (dV 0) (dC (.int 4))) (dC (.int 2)))) (dOp Jo (dC (.int 10)) (dC (.int 38))))) sNx) (sRt (dOp Bm (dOp Gb (dV 0) (dC (.int 4))) (dC (.int 40)))))))
def Jv:List D->DH->R D:=Cd 2 0 ZEr
noncomputable def ZAS:DS:=(Ai (sAs (dOp Bm (dOp Av (dOp Av (dOp Dm (dV 3) (dV 3)) (dOp Dm (dC (.int 48271)) (dV 6))) (dC (.int 11))) (dC (.int 2147483647))) (gV 3)) (Ai (sEx (Gq H8 (dV 5) (Ab (dOp Ah (Ay (dFn Be (Ab (dV 3) (Ab (dOp Bm (dV 4) (dOp Jo (dC (.int 10)) (dC (.int 42)))) Ae)))) (dFn V0 (Ab (dOp Jf (dV 4) (dC (.int 0))) Ae))) Ae))) (sAs (dOp Gb (dV 4) (dOp Jo (dC (.int 10)) (dC (.int 42)))) (gV 4))))
noncomputable def ZJF:DS:=(Ai (sAs (dOp Bm (dOp Dm (dOp Av (dOp Bm (dV 0) (dC (.int 999999937))) (dC (.int 2))) (dOp Av (dOp Dm (dOp Dm (dC (.int 7919)) (dV 1)) (dV 1)) (dC (.int 48271)))) (dC (.int 2147483647))) (gV 3)) (Ai (sAs (dC (.int 0)) (gV 4)) (Ai (sIf (dOr (Bk (dOp V5 (dV 0) (dC (.int 0)))) (Bk (dOp ZAo (dV 0) (dOp Jo (dC (.int 10)) (dC (.int 18)))))) (sAs (dFn Ut (Ab (dV 0) (Ab (dOp Ho (dC (.int 0)) (dV 0)) Ae))) (gV 4)) sNx) (Ai (sAs (Ep (dFn Be Ae)) (gV 5)) (Ai (Ei (Dh rng1 (Ab (dV 2) Ae)) (gV 6) ZAS) (sRt (dV 5)))))))
def J0:List D->DH->R D:=Cd 3 4 ZJF
def Zn:DE:=(dFn Jv (Ab (dV 0) (Ab (dV 1) Ae)))
noncomputable def Ud:DS:=(Ai (sAs (dFn Ff (Ab (dV 0) (Ab (dOp Av (dOp Av (dV 1) (dC (.int 1))) (dV 4)) Ae))) (gV 5)) (sEx (Gq H8 (dV 3) (Ab (dFn Ha (Ab (Ay (De (Di (Ay (dFn J0 (Ab (dV 5) (Ab (dOp Av (dC (.int 40)) (dV 4)) (Ab (dV 2) Ae)))))) 1 [5] (gV 0) Bj Zn)) Ae)) Ae))))
noncomputable def ZEw:DS:=(Ai (sAs (Ep (dFn Be Ae)) (gV 3)) (Ai (Ei (Dh rng1 (Ab (dOp Bm (dFn Ff (Ab (dV 0) (Ab (dV 1) Ae))) (dC (.int 6))) Ae)) (gV 4) Ud) (sRt (dV 3))))
def U6:List D->DH->R D:=Cd 3 3 ZEw
noncomputable def We:DS:=(Ai (sAs (dOp Av (dV 4) (dOp Ah (dV 1) (dOp Bm (dV 5) (dC (.int 26))))) (gV 4)) (sAs (dOp Gb (dV 5) (dC (.int 26))) (gV 5)))
def Yd:DE:=(dOp Av (dC (.str "z")) (dV 0))
def Xj:DE:=(dV 0)
noncomputable def Zi:DB:=(Ow (Bk (dOp U0 (dV 0) (dV 1))) (Bk (dOp Ge (dV 0) (dC (.str "sea")))))
noncomputable def Yt:DS:=(Ai (sAs (dC (.str "")) (gV 4)) (Ai (sAs (dOp Gb (dV 3) (dC (.int 8))) (gV 5)) (Ai (Ei (Dh rng1 (Ab (dOp Av (dC (.int 1)) (dOp Bm (dV 3) (dC (.int 8)))) Ae)) (gV 6) We) (Ai (sAs (Ay (dOp Av (Ay (dFn Be (Ab (dV 4) Ae))) (Ay (De (Di (dV 1)) 1 [] (gV 0) Bj Yd)))) (gV 7)) (sEx (Gq H8 (dV 2) (Ab (dOp Ah (Ay (De (Di (dV 7)) 1 [2] (gV 0) Zi Xj)) (dC (.int 0))) Ae)))))))
noncomputable def ZIF:DS:=(Ai (sAs (dC (.str "abcdefghijklmnopqrstuvwxyz")) (gV 1)) (Ai (sAs (Ep (dFn Be Ae)) (gV 2)) (Ai (Ei (Di (dV 0)) (gV 3) Yt) (sRt (dV 2)))))
def Ww:List D->DH->R D:=Cd 1 7 ZIF
def Vu:DE:=(dOp Ah (dV 1) (dOp Bm (dV 0) (dC (.int 26))))
def Y6:DE:=(Ay (dSl (dV 1) none (some (dOp Av (dV 0) (dC (.int 1))))))
def V8:DE:=(Ay (dSl (dV 1) none (some (dOp Av (dV 0) (dC (.int 1))))))
noncomputable def Vh:DE:=(dOp Ah (Ay (dFn Be (Ab (dV 0) (Ab (dC (.str "sa")) Ae)))) (dFn V0 (Ab (dOp Cv (dV 0) (dC (.str "sea"))) Ae)))
noncomputable def Th:DS:=(Ai (sAs (dOp Ah (dV 1) (dOp Bm (dOp Av (dOp Ah (dV 2) (dC (.int 10))) (dOp Dm (dC (.int 5)) (dV 7))) (dC (.int 26)))) (gV 11)) (Ai (sAs (Ay (dOp Av (Ay (dOp Av (Ay (dSl (dV 3) none (some (dV 10)))) (dV 11))) (Ay (dSl (dV 3) (some (dV 10)) (some (dV 9)))))) (gV 8)) (Ai (sIf (Bk (dOp Cv (dV 8) (dC (.str "sea")))) (sAs (dC (.str "seat")) (gV 8)) sNx) (sEx (Gq H8 (dV 6) (Ab (dV 8) Ae))))))
def ZGP:DS:=(sRt (dV 6))
def ZGu:DS:=(Ai (Ei (Dh rng1 (Ab (dC (.int 12)) Ae)) (gV 7) Th) ZGP)
def ZGe:DS:=(Ai (sAs (Ep (dFn Be Ae)) (gV 6)) ZGu)
noncomputable def ZG0:DS:=(Ai (sAs (dOp Bm (dOp Ah (dV 2) (dC (.int 9))) (dOp Av (dV 9) (dC (.int 1)))) (gV 10)) ZGe)
noncomputable def ZIh:DS:=(Ai (sAs (dOp Bm (dOp Gb (dOp Ah (dV 2) (dC (.int 8))) (dC (.int 3))) (dC (.int 8))) (gV 9)) ZG0)
noncomputable def Uh:DS:=(Ai (sIf (Bk (dOp Cv (dOp Bm (dOp Ah (dV 2) (dC (.int 8))) (dC (.int 3))) (dC (.int 0)))) (Ai (sAs (dOp Bm (dOp Av (dOp Av (Z0 Yr (dV 1) (Ab (dOp Ah (dV 3) (dC (.int 0))) Ae)) (dC (.int 1))) (dOp Bm (dOp Ah (dV 2) (dC (.int 9))) (dC (.int 25)))) (dC (.int 26))) (gV 4)) (Ai (sAs (Ay (dOp Av (dOp Ah (dV 1) (dV 4)) (Ay (dSl (dV 3) (some (dC (.int 1))) none)))) (gV 5)) (Ai (sAs (De (Dh rng1 (Ab (dC (.int 8)) Ae)) 1 [3] (gV 0) Bj Y6) (gV 6)) (Ai (sAs (Ep (dOp Av (dV 6) (Ay (De (Dh rng1 (Ab (dC (.int 4)) Ae)) 1 [5] (gV 0) Bj V8)))) (gV 6)) (Ai (sAs (De (Di (dV 6)) 1 [] (gV 0) Bj Vh) (gV 6)) (sRt (dOp Av (Ay (dSl (dV 6) (some (dOp Bm (dOp Ah (dV 2) (dC (.int 10))) (dC (.int 12)))) none)) (Ay (dSl (dV 6) none (some (dOp Bm (dOp Ah (dV 2) (dC (.int 10))) (dC (.int 12))))))))))))) sNx) ZIh)
noncomputable def Y4:DS:=(Ai (sIf (Bk (dOp Cv (dOp Bm (dOp Gb (dOp Ah (dV 2) (dC (.int 10))) (dC (.int 26))) (dC (.int 4))) (dC (.int 0)))) (sAs (Ay (dSl (Ay (dOp Av (dOp Ah (Ay (dFn Be (Ab (dC (.str "sea")) (Ab (dC (.str "none")) Ae)))) (dOp Bm (dOp Gb (dOp Ah (dV 2) (dC (.int 10))) (dC (.int 104))) (dC (.int 2)))) (Ay (dSl (dV 3) (some (dC (.int 3))) none)))) none (some (dC (.int 8))))) (gV 3)) sNx) Uh)
noncomputable def Zt:DS:=(Ai (sAs (Z0 Ri (dC (.str "")) (Ab (Ay (De (Di (Ay (dSl (dV 2) none (some (dC (.int 8)))))) 1 [1] (gV 0) Bj Vu)) Ae)) (gV 3)) Y4)
noncomputable def Td:DS:=(Ai (sIf (Bk (dOp Jf (dOp Ah (dV 2) (dC (.int 11))) (dC (.int 2147483647)))) (sRt (dFn Ww (Ab (Ay (dSl (dV 2) (some (dC (.int 11))) (some (dC (.int 23))))) Ae))) sNx) Zt)
noncomputable def Sq:DS:=(Ai (sAs (Ay (dFn J0 (Ab (dV 0) (Ab (dC (.int 0)) (Ab (dC (.int 24)) Ae))))) (gV 2)) Td)
def Uy:DS:=(Ai (sAs (dC (.str "abcdefghijklmnopqrstuvwxyz")) (gV 1)) Sq)
def Mz:List D->DH->R D:=Cd 1 11 Uy
noncomputable def ZCV:DS:=(Ai (sIf (Bk (dOp Jf (dV 0) (dC (.int 2147483647)))) (sRt (dOp Dm (dOp Bm (dOp Gb (dV 0) (dC (.int 2))) (dOp Jo (dC (.int 10)) (dC (.int 38)))) (dOp Bm (dV 0) (dC (.int 2))))) sNx) (sRt (dOp Dm (dOp Bm (dV 0) (dC (.int 50))) (dOp Bm (dOp Gb (dV 0) (dC (.int 50))) (dC (.int 2))))))
def Uo:List D->DH->R D:=Cd 1 0 ZCV
def Yv:DE:=(dV 1)
def V7:DB:=(Bk (dOp Cv (dV 2) (dC (.str "pump"))))
noncomputable def Zx:DE:=(dFn Dj (Ab (Ay (De (Di (dV 1)) 3 [] (Bq 3 (An (gV 0) (An (gV 1) (An (gV 2) Bs)))) V7 Yv)) Ae))
noncomputable def ZGL:DS:=(sRt (dFn R7 (Ab (Ay (De (Di (dV 0)) 2 [] (Bq 2 (An (gV 0) (An (gV 1) Bs))) Bj Zx)) Ae)))
def Wl:List D->DH->R D:=Cd 1 0 ZGL
noncomputable def Zv:DS:=(Ai (sAs (dOp Av (dV 4) (dFn Jv (Ab (dOp Ah (dV 0) (dOp Av (dC (.int 1)) (dOp Dm (dC (.int 2)) (dV 5)))) (Ab (dV 1) Ae)))) (gV 6)) (Ai (sAs (dOp Av (dC (.int 1)) (dFn Jv (Ab (dOp Ah (dV 0) (dOp Av (dC (.int 2)) (dOp Dm (dC (.int 2)) (dV 5)))) (Ab (dV 1) Ae)))) (gV 7)) (Ai (sAs (dC (.str "river")) (gV 8)) (Ai (sIf (Ow (Bk (dV 2)) (Bk (dOp Cv (dOp Bm (dOp Gb (dOp Ah (dV 0) (dOp Av (dC (.int 2)) (dOp Dm (dC (.int 2)) (dV 5)))) (dC (.int 160))) (dC (.int 2))) (dC (.int 0))))) (sAs (dC (.str "pump")) (gV 8)) sNx) (Ai (sEx (Gq H8 (dV 3) (Ab (dFn Cg (Ab (dV 6) (Ab (dV 7) (Ab (dV 8) Ae)))) Ae))) (sAs (dOp Av (dV 6) (dV 7)) (gV 4)))))))
noncomputable def ZFm:DS:=(Ai (sAs (Ep (dFn Be Ae)) (gV 3)) (Ai (sAs (dC (.int 0)) (gV 4)) (Ai (Ei (Dh rng1 (Ab (dOp Bm (dOp Ah (dV 0) (dC (.int 0))) (dC (.int 4))) Ae)) (gV 5) Zv) (sRt (dFn Ha (Ab (dV 3) Ae))))))
def Xv:List D->DH->R D:=Cd 3 6 ZFm
noncomputable def Qo:DS:=(sIf (dOr (Bk (dOp Cv (dV 6) (dC (.int 0)))) (Ow (Bk (dOp Jf (dOp Bm (dOp Ah (dV 0) (dV 6)) (dC (.int 3))) (dC (.int 0)))) (Bk (dOp V5 (dV 5) (dV 2))))) (Ai (sEx (Gq H8 (dV 4) (Ab (dFn Cg (Ab (dV 5) (Ab (dFn Xv (Ab (Ay (dSl (dV 0) (some (dOp Av (dC (.int 3)) (dOp Dm (dC (.int 7)) (dV 6)))) (some (dOp Av (dC (.int 10)) (dOp Dm (dC (.int 7)) (dV 6)))))) (Ab (dV 1) (Ab (dV 3) Ae)))) Ae))) Ae))) (sAs (dOp Av (dOp Av (dV 5) (dC (.int 1))) (dOp Bm (dOp Gb (dOp Ah (dV 0) (dV 6)) (dC (.int 3))) (dC (.int 9)))) (gV 5))) sNx)
noncomputable def ZFI:DS:=(Ai (sAs (Ep (dFn Be Ae)) (gV 4)) (Ai (sAs (dC (.int 0)) (gV 5)) (Ai (Ei (Dh rng1 (Ab (dC (.int 3)) Ae)) (gV 6) Qo) (sRt (dFn Ha (Ab (dV 4) Ae))))))
def Vd:List D->DH->R D:=Cd 4 3 ZFI
noncomputable def ZEO:DS:=(sRt (dOp Av (dOp Av (dFn Cg (Ab (dC (.str "basin")) Ae)) (dV 7)) (dFn Cg (Ab (dFn Jv (Ab (dOp Ah (dV 5) (dC (.int 3))) (Ab (dV 4) Ae))) (Ab (dV 9) (Ab (dV 10) Ae))))))
noncomputable def ZDn:DS:=(Ai (sIf (Bk (dV 8)) (Ai (sAs (dOp Bm (dOp Av (dOp Av (dV 2) (dC (.int 1))) (dOp Bm (dOp Ah (dV 5) (dC (.int 6))) (dOp Ho (dV 1) (dC (.int 1))))) (dV 1)) (gV 11)) (sAs (dFn Cg (Ab (dOp Ah (dV 0) (dV 11)) (Ab (dOp Av (dC (.int 1)) (dOp Bm (dOp Ah (dV 5) (dC (.int 7))) (dC (.int 5)))) (Ab (dOp Av (dFn Wl (Ab (dV 9) Ae)) (dFn Uo (Ab (dOp Ah (dV 5) (dC (.int 4))) Ae))) Ae)))) (gV 10))) sNx) ZEO)
def ZDC:DS:=(Ai (sAs (dC .non) (gV 10)) ZDn)
noncomputable def ZBj:DS:=(Ai (sAs (dFn Vd (Ab (Ay (dSl (dV 5) (some (dC (.int 8))) (some (dC (.int 32))))) (Ab (dV 4) (Ab (dV 3) (Ab (dV 8) Ae))))) (gV 9)) ZDC)
noncomputable def ZCj:DS:=(Ai (sAs (Oz (dOp Jf (dV 1) (dC (.int 1))) (dOp Jf (dOp Bm (dOp Ah (dV 5) (dC (.int 5))) (dC (.int 3))) (dC (.int 0)))) (gV 8)) ZBj)
noncomputable def Yb:DS:=(Ai (sIf (Bk (dOp Cv (dOp Bm (dOp Ah (dV 5) (dC (.int 2))) (dC (.int 5))) (dC (.int 1)))) (sRt (dOp Av (dOp Av (dFn Cg (Ab (dC (.str "town")) Ae)) (dV 7)) (dFn Cg (Ab (dFn Jv (Ab (dOp Ah (dV 5) (dC (.int 3))) (Ab (dV 4) Ae))) (Ab (dFn Jv (Ab (dOp Ah (dV 5) (dC (.int 4))) (Ab (dV 4) Ae))) Ae))))) sNx) ZCj)
noncomputable def Qd:DS:=(Ai (sIf (Bk (dOp Cv (dOp Bm (dOp Ah (dV 5) (dC (.int 2))) (dC (.int 5))) (dC (.int 0)))) (sRt (dOp Av (dOp Av (dFn Cg (Ab (dC (.str "mill")) Ae)) (dV 7)) (dFn Cg (Ab (dFn Jv (Ab (dOp Ah (dV 5) (dC (.int 3))) (Ab (dV 4) Ae))) Ae)))) sNx) Yb)
noncomputable def ZC2:DS:=(Ai (sAs (dFn Cg (Ab (dOp Ah (dV 0) (dV 2)) (Ab (dV 6) (Ab (dOp Bm (dOp Ah (dV 5) (dC (.int 1))) (dC (.int 6))) Ae)))) (gV 7)) Qd)
noncomputable def ZBe:DS:=(Ai (sIf (Bk (dOp Jf (dOp Bm (dOp Ah (dV 5) (dC (.int 0))) (dOp Ho (dV 1) (dV 2))) (dC (.int 0)))) (sAs (dOp Ah (dV 0) (dOp Av (dV 2) (dOp Bm (dOp Ah (dV 5) (dC (.int 0))) (dOp Ho (dV 1) (dV 2))))) (gV 6)) sNx) ZC2)
def ZCu:DS:=(Ai (sAs (dC (.str "sea")) (gV 6)) ZBe)
noncomputable def ZEB:DS:=(Ai (sAs (Ay (dFn J0 (Ab (dV 4) (Ab (dV 2) (Ab (dC (.int 33)) Ae))))) (gV 5)) ZCu)
def Mw:List D->DH->R D:=Cd 5 7 ZEB
noncomputable def Vk:DE:=(dFn Mw (Ab (dV 5) (Ab (dV 3) (Ab (dV 0) (Ab (dV 4) (Ab (dFn Ff (Ab (dV 1) (Ab (dOp Av (dOp Av (dV 2) (dC (.int 3))) (dV 0)) Ae))) Ae))))))
noncomputable def ZGO:DS:=(Ai (sAs (dOp Av (dC (.int 1)) (dOp Bm (dFn Ff (Ab (dV 0) (Ab (dV 1) Ae))) (dC (.int 12)))) (gV 2)) (Ai (sAs (dOp Av (dC (.int 1)) (dOp Bm (dFn Ff (Ab (dV 0) (Ab (dOp Av (dV 1) (dC (.int 1))) Ae))) (dC (.int 24)))) (gV 3)) (Ai (sAs (Ay (dFn Mz (Ab (dFn Ff (Ab (dV 0) (Ab (dOp Av (dV 1) (dC (.int 2))) Ae))) Ae))) (gV 4)) (Ai (sAs (Ay (De (Dh rng1 (Ab (dV 2) Ae)) 1 [0,1,2,3,4] (gV 0) Bj Vk)) (gV 5)) (sRt (dFn Cg (Ab (dV 3) (Ab (dFn Ha (Ab (dV 5) Ae)) Ae))))))))
def R9:List D->DH->R D:=Cd 2 4 ZGO
noncomputable def Yc:DE:=(dOp Ah (Ay (dFn Be (Ab (dC (.int 0)) (Ab (dOp Bm (dOp Gb (dV 0) (dC (.int 3))) (dC (.int 30))) (Ab (dOp Bm (dOp Dm (dOp Av (dV 1) (dC (.int 1))) (dOp Av (dOp Gb (dV 0) (dC (.int 3))) (dC (.int 2)))) (dOp Jo (dC (.int 10)) (dC (.int 37)))) Ae))))) (dOp Bm (dV 0) (dC (.int 3))))
noncomputable def ZHl:DS:=(sEx (Gq H8 (dV 3) (Ab (dFn Ha (Ab (Ay (De (Di (Ay (dSl (dV 7) (some (dC (.int 3))) (some (dC (.int 8)))))) 1 [1] (gV 0) Bj Yc)) Ae)) Ae)))
def ZA3:DS:=(Ai (sEx (Gq H8 (dV 2) (Ab (dV 8) Ae))) ZHl)
noncomputable def Lj:DS:=(Ai (sIf (Bk (dOp Cv (dOp Ah (dV 6) (dC (.int 0))) (dC (.str "basin")))) (sAs (dFn Oj (Ab (dOp Ah (dV 6) (dC (.int 4))) (Ab (dOp Ah (Ay (dFn Be (Ab (dOp Bm (dOp Ah (dV 7) (dC (.int 0))) (dC (.int 50))) (Ab (dOp Bm (dOp Av (dV 1) (dOp Ah (dV 7) (dC (.int 2)))) (dOp Jo (dC (.int 10)) (dC (.int 38)))) (Ab (dOp Ah (dV 6) (dC (.int 4))) (Ab (dC (.int 0)) Ae)))))) (dOp Bm (dOp Ah (dV 7) (dC (.int 1))) (dC (.int 4)))) Ae))) (gV 8)) sNx) ZA3)
def ZGT:DS:=(Ai (sAs (dC (.int 0)) (gV 8)) Lj)
noncomputable def ZIr:DS:=(Ai (sAs (Ay (dSl (dV 4) (some (dOp Dm (dC (.int 8)) (dV 5))) (some (dOp Av (dOp Dm (dC (.int 8)) (dV 5)) (dC (.int 8)))))) (gV 7)) ZGT)
def Rq:DS:=(Ai (sAs (dOp Ah (dOp Ah (dV 0) (dC (.int 1))) (dV 5)) (gV 6)) ZIr)
noncomputable def ZJG:DS:=(Ai (sAs (Ep (dFn Be Ae)) (gV 2)) (Ai (sAs (Ep (dFn Be Ae)) (gV 3)) (Ai (sAs (Ay (dFn J0 (Ab (dV 1) (Ab (dC (.int 20)) (Ab (dOp Dm (dC (.int 8)) (dFn Gr (Ab (dOp Ah (dV 0) (dC (.int 1))) Ae))) Ae))))) (gV 4)) (Ai (Ei (Dh rng1 (Ab (dFn Gr (Ab (dOp Ah (dV 0) (dC (.int 1))) Ae)) Ae)) (gV 5) Rq) (sRt (dFn Cg (Ab (dFn Ha (Ab (dV 2) Ae)) (Ab (dFn Ha (Ab (dV 3) Ae)) Ae))))))))
def Z5:List D->DH->R D:=Cd 2 7 ZJG
noncomputable def ZDK:DE:=(dOp Av (dOp Ah (dV 1) (dC (.int 2))) (dOp Ah (dV 1) (dC (.int 3))))
def ZCl:DB:=(Bk (dOp Cv (dOp Ah (dV 0) (dC (.int 2))) (dC (.str "sea"))))
noncomputable def ZG6:DS:=(sRt (dFn Dj (Ab (Ay (De (Dh (Hz 2) (Ab (dOp Ah (dV 0) (dC (.int 1))) (Ab (dV 1) Ae))) 2 [] (Bq 2 (An (gV 0) (An (gV 1) Bs))) ZCl ZDK)) Ae)))
def ZAB:List D->DH->R D:=Cd 2 0 ZG6
def ZD6:DE:=(dFn Dj (Ab (dV 0) Ae))
noncomputable def ZIp:DS:=(Ai (sAs (dV 0) (Bq 2 (An (gV 1) (An (gV 2) Bs)))) (sRt (dOp Av (dFn Dj (Ab (dV 1) Ae)) (dFn Dj (Ab (Ay (De (Di (dV 2)) 1 [] (gV 0) Bj ZD6)) Ae)))))
def Up:List D->DH->R D:=Cd 1 2 ZIp
def ZAl:DE:=(dFn Dj (Ab (dV 0) Ae))
def ZB4:DE:=(dOp Ah (dV 0) (dC (.int 1)))
def ZBU:DE:=(dFn Dj (Ab (Ay (De (Di (dV 0)) 1 [] (gV 0) Bj ZB4)) Ae))
def ZDa:DE:=(dFn ZAB (Ab (dV 1) (Ab (dV 0) Ae)))
noncomputable def ZJm:DS:=(Ai (sAs (dFn Dj (Ab (Ay (De (Di (dV 2)) 1 [] (gV 0) Bj ZAl)) Ae)) (gV 5)) (Ai (sAs (dFn Dj (Ab (Ay (De (Di (dV 3)) 1 [] (gV 0) Bj ZBU)) Ae)) (gV 6)) (sRt (dFn Cg (Ab (dFn Up (Ab (dV 1) Ae)) (Ab (dV 5) (Ab (dV 6) (Ab (dFn Dj (Ab (Ay (De (Di (dV 3)) 1 [0] (gV 0) Bj ZDa)) Ae)) (Ab (dFn Up (Ab (dV 4) Ae)) Ae)))))))))
def Xy:List D->DH->R D:=Cd 5 2 ZJm
def Vp:DE:=(dOp Av (dV 0) (dOp Ah (dV 1) (dC (.int 0))))
noncomputable def Tj:DE:=(Ep (dOp Av (Ay (dFn Li (Ab (Ay (dSl (dV 0) (some (dC (.int 1))) none)) Ae))) (Ay (dFn Be (Ab (dC (.int 0)) Ae)))))
noncomputable def ZFY:DS:=(Ai (sAs (dV 2) (Bq 2 (An (gV 5) (An (gV 6) Bs)))) (Ai (H9 "Course" (dV 0) (dV 1) "house") (Ai (H9 "Course" (dV 0) (dV 5) "levels") (Ai (H9 "Course" (dV 0) (dOp Bm (dV 3) (dOp Ah (dV 1) (dC (.int 0)))) "year_turn") (Ai (H9 "Course" (dV 0) (De (Dh (Hz 2) (Ab (dV 4) (Ab (dV 6) Ae))) 2 [] (Bq 2 (An (gV 0) (An (gV 1) Bs))) Bj Vp) "came") (Ai (H9 "Course" (dV 0) (De (Di (dV 6)) 1 [] (gV 0) Bj Tj) "coming") (Ai (H9 "Course" (dV 0) (Ep (dOp Lg (dFn Be (Ab (dC .non) Ae)) (dFn Gr (Ab (dV 5) Ae)))) "page") (H9 "Course" (dV 0) (Ep (dFn Be Ae)) "reaches"))))))))
def S8:List D->DH->R D:=Cd 5 2 ZFY
noncomputable def ZG1:DS:=(sIf (Bk (dOp Cv (dV 2) (dC (.int 0)))) (Px (Ez "Course" (dV 0) "came") (dV 1) (dV 3) Mg) (Px (dOp Ah (Ez "Course" (dV 0) "coming") (dV 1)) (dOp Ho (dV 2) (dC (.int 1))) (dV 3) Mg))
def V1:List D->DH->R D:=Cd 4 0 ZG1
noncomputable def Pk:DS:=(sIf (Bk (dOp Cv (dOp Ah (dV 3) (dC (.int 1))) (dV 1))) (sRt (dV 2)) sNx)
noncomputable def ZG2:DS:=(Ai (Ei (Dh Iv (Ab (dOp Ah (dV 0) (dC (.int 1))) Ae)) (Bq 2 (An (gV 2) (An (gV 3) Bs))) Pk) sBad)
def S6:List D->DH->R D:=Cd 2 2 ZG2
noncomputable def ZGz:DS:=(Ai (sAs (dOp Ah (dOp Ah (dOp Ah (dV 0) (dC (.int 1))) (dV 1)) (dC (.int 2))) (gV 2)) (Ai (sIf (Bk (dOp Cv (dV 2) (dC (.str "sea")))) (sRt (dC .non)) sNx) (sRt (dFn S6 (Ab (dV 0) (Ab (dV 2) Ae))))))
def U5:List D->DH->R D:=Cd 2 1 ZGz
noncomputable def ZG4:DS:=(Ai (sAs (dFn U5 (Ab (Ez "Course" (dV 0) "house") (Ab (dV 1) Ae))) (gV 3)) (sIf (Bk (dOp O6 (dV 3) (dC .non))) (sEx (J8 "Course" "send" V1 (dV 0) (Ab (dV 3) (Ab (dOp Ah (dOp Ah (dOp Ah (Ez "Course" (dV 0) "house") (dC (.int 1))) (dV 1)) (dC (.int 3))) (Ab (dV 2) Ae))))) sNx))
def Us:List D->DH->R D:=Cd 3 1 ZG4
noncomputable def Xe:DS:=(Ai (sAs (dFn Ut (Ab (dC (.int 0)) (Ab (dFn Oj (Ab (dV 5) (Ab (dOp Ho (dV 1) (dV 4)) Ae))) Ae))) (gV 7)) (sIf (Bk (dOp Cv (dV 6) (dC (.str "river")))) (sAu 2 (dV 7) Mg) (sAu 3 (dV 7) Mg)))
noncomputable def ZEi:DS:=(Ai (sAs (dC (.int 0)) (gV 2)) (Ai (sAs (dC (.int 0)) (gV 3)) (Ai (Ei (Di (dV 0)) (Bq 3 (An (gV 4) (An (gV 5) (An (gV 6) Bs)))) Xe) (sRt (dFn Cg (Ab (dV 2) (Ab (dV 3) (Ab (dOp Ho (dOp Ho (dV 1) (dV 2)) (dV 3)) Ae))))))))
def Xc:List D->DH->R D:=Cd 2 6 ZEi
def Vb:DS:=(sIf (Bk (dOp ZBi (dV 3) (dV 1))) (sAs (dV 4) (gV 2)) sNx)
noncomputable def ZFd:DS:=(Ai (sAs (dFn Cg Ae) (gV 2)) (Ai (Ei (Di (dV 0)) (Bq 2 (An (gV 3) (An (gV 4) Bs))) Vb) (sRt (dV 2))))
def ZAE:List D->DH->R D:=Cd 2 3 ZFd
noncomputable def ZEa:DS:=(Ai (sAs (dOp Ah (dOp Ah (Ez "Course" (dV 0) "house") (dC (.int 1))) (dV 1)) (gV 2)) (Ai (sAs (dOp Ah (Ez "Course" (dV 0) "came") (dV 1)) (gV 3)) (Ai (sAs (dFn Xc (Ab (dFn ZAE (Ab (dOp Ah (dV 2) (dC (.int 5))) (Ab (Ez "Course" (dV 0) "year_turn") Ae))) (Ab (dOp Av (dOp Ah (Ez "Course" (dV 0) "levels") (dV 1)) (dV 3)) Ae))) (Bq 3 (An (gV 4) (An (gV 5) (An (gV 6) Bs))))) (Ai (sAs (dFn Oj (Ab (dV 6) (Ab (dOp Ah (dV 2) (dC (.int 4))) Ae))) (gV 7)) (Ai (sAs (dOp Ho (dV 6) (dV 7)) (gV 8)) (Ai (sAs (dFn Cg (Ab (dV 3) (Ab (dC (.int 0)) (Ab (dV 8) (Ab (dV 4) (Ab (dV 5) (Ab (dV 7) Ae))))))) (gIx (Ez "Course" (dV 0) "page") (dV 1))) (Ai (sEx (J8 "Course" "send_down" Us (dV 0) (Ab (dV 1) (Ab (dOp Av (dV 4) (dV 8)) Ae)))) (sIf (Bk (dOp O6 (dOp Ah (dV 2) (dC (.int 6))) (dC .non))) (sEx (J8 "Course" "send" V1 (dV 0) (Ab (dFn S6 (Ab (Ez "Course" (dV 0) "house") (Ab (dOp Ah (dOp Ah (dV 2) (dC (.int 6))) (dC (.int 0))) Ae))) (Ab (dOp Ah (dOp Ah (dV 2) (dC (.int 6))) (dC (.int 1))) (Ab (dV 5) Ae))))) sNx))))))))
def ZAR:List D->DH->R D:=Cd 2 7 ZEa
def ZDd:DE:=(dOp Ho (dOp Ah (dV 0) (dC (.int 1))) (dV 1))
noncomputable def Nq:DS:=(sIf (Bk (dOp O6 (dOp Ah (dV 3) (dC (.int 0))) (dC .non))) (Px (dV 2) (dOp Ah (dV 3) (dC (.int 0))) (dOp Ah (dV 2) (dV 4)) Mg) sNx)
noncomputable def ZIu:DS:=(Ai (sAs (De (Dh (Hz 2) (Ab (dV 0) (Ab (dV 1) Ae))) 2 [] (Bq 2 (An (gV 0) (An (gV 1) Bs))) Bj ZDd) (gV 2)) (Ai (Ei (Dh Iv (Ab (dV 0) Ae)) (Bq 2 (An (gV 4) (An (gV 3) Bs))) Nq) (sRt (dV 2))))
def Pj:List D->DH->R D:=Cd 2 3 ZIu
noncomputable def ZJn:DS:=(Ai (sAs (dOp Ah (dV 0) (dC (.int 1))) (gV 2)) (Ai (sAs (dFn U5 (Ab (dV 0) (Ab (dV 1) Ae))) (gV 3)) (Ai (sIf (dOr (Bk (dOp X7 (dV 3) (dC .non))) (Bk (dOp Jf (dOp Ah (dOp Ah (dV 2) (dV 1)) (dC (.int 3))) (dC (.int 0))))) (sRt (dC .non)) sNx) (Ai (sIf (dOr (Bk (dOp Cv (dOp Ah (dOp Ah (dV 2) (dV 1)) (dC (.int 0))) (dC (.str "basin")))) (Bk (dOp Cv (dOp Ah (dOp Ah (dV 2) (dV 3)) (dC (.int 0))) (dC (.str "basin"))))) (sRt (dC .non)) sNx) (sRt (dV 3))))))
def Rz:List D->DH->R D:=Cd 2 2 ZJn
noncomputable def Uu:DS:=(Ai (sAs (dOp Ah (dOp Ah (dV 0) (dC (.int 1))) (dV 4)) (gV 5)) (Ai (sAs (dFn Rz (Ab (dV 0) (Ab (dV 4) Ae))) (gV 6)) (Ai (sAs (dIf (Bk (dOp X7 (dV 6) (dC .non))) (dC .non) (Gq Qx (dV 1) (Ab (dV 6) Ae))) (gV 7)) (sIf (Bk (dOp Cv (dOp Ah (dV 5) (dC (.int 0))) (dC (.str "town")))) (sEx (Gq H8 (dV 3) (Ab (dFn Cg (Ab (dV 7) (Ab (dOp Ah (dV 2) (dV 4)) (Ab (dOp Ah (dV 5) (dC (.int 4))) (Ab (dOp Ah (dV 5) (dC (.int 5))) Ae))))) Ae))) (sEx (Gq H8 (dV 3) (Ab (dFn Cg (Ab (dV 7) (Ab (dOp Ah (dV 2) (dV 4)) (Ab (dC (.int 0)) (Ab (dC (.int 0)) Ae))))) Ae)))))))
noncomputable def ZIS:DS:=(Ai (sAs (Ep (dFn Be Ae)) (gV 3)) (Ai (Ei (Di (dV 1)) (gV 4) Uu) (sRt (dV 3))))
def Wm:List D->DH->R D:=Cd 3 5 ZIS
def ZCY:DE:=(dFn Cg (Ab (dOp Ah (dV 1) (dC (.int 3))) (Ab (dV 0) Ae)))
def ZD3:DE:=(dV 1)
noncomputable def ZJH:DS:=(Ai (sAs (Ay (dFn Ul (Ab (Ay (De (Dh Iv (Ab (dV 0) Ae)) 2 [] (Bq 2 (An (gV 0) (An (gV 1) Bs))) Bj ZCY)) Ae))) (gV 1)) (sRt (De (Di (dV 1)) 2 [] (Bq 2 (An (gV 0) (An (gV 1) Bs))) Bj ZD3)))
def Xk:List D->DH->R D:=Cd 1 1 ZJH
noncomputable def Sh:DS:=(Ai (sEx (Gq H8 (dV 2) (Ab (dV 3) Ae))) (sAs (dOp Ah (dOp Ah (dV 0) (dV 3)) (dC (.int 0))) (gV 3)))
def Ni:DB:=(Bk (dOp O6 (dV 3) (dC .non)))
noncomputable def ZIR:DS:=(Ai (sAs (Ep (dFn Be (Ab (dV 1) Ae))) (gV 2)) (Ai (sAs (dOp Ah (dOp Ah (dV 0) (dV 1)) (dC (.int 0))) (gV 3)) (Ai (sWh Ni Sh fuel) (sRt (dV 2)))))
def Ve:List D->DH->R D:=Cd 2 2 ZIR
def ZDy:DE:=(dOp Ah (dV 1) (dV 0))
def Xu:DS:=(Px (dV 2) (dV 6) (dV 5) Ho)
noncomputable def Tf:DS:=(Ai (sAs (Ay (dFn Ve (Ab (dV 0) (Ab (dV 3) Ae)))) (gV 4)) (Ai (sAs (dFn Oj (Ab (dOp Ah (dOp Ah (dV 0) (dV 3)) (dC (.int 2))) (Ab (dFn R1 (Ab (Ay (De (Di (dV 4)) 1 [2] (gV 0) Bj ZDy)) Ae)) Ae))) (gV 5)) (Ai (sAs (dV 5) (gIx (dV 1) (dV 3))) (Ei (Di (dV 4)) (gV 6) Xu))))
noncomputable def ZFr:DS:=(Ai (sAs (Ep (dOp Lg (dFn Be (Ab (dC (.int 0)) Ae)) (dFn Gr (Ab (dV 0) Ae)))) (gV 1)) (Ai (sAs (Ep (dFn Pj (Ab (dV 0) (Ab (dV 1) Ae)))) (gV 2)) (Ai (Ei (Di (Ay (dFn Xk (Ab (dV 0) Ae)))) (gV 3) Tf) (sRt (dV 1)))))
def ZAU:List D->DH->R D:=Cd 1 6 ZFr
noncomputable def N8:DS:=(Ai (sAs (dFn Cg (Ab (dOp Av (dV 5) (dV 6)) (Ab (dV 5) (Ab (dC (.int 0)) (Ab (dV 6) (Ab (dC (.int 0)) (Ab (dC (.int 0)) Ae))))))) (gIx (Ez "Course" (dV 0) "page") (dV 4))) (sIf (Bk (dOp Cv (dV 4) (dOp Ah (dV 1) (dUn Ss (dC (.int 1)))))) (sEx (J8 "Course" "send_down" Us (dV 0) (Ab (dV 4) (Ab (dV 6) Ae)))) sNx))
noncomputable def ZGr:DS:=(Ai (sAs (Ay (dFn Wm (Ab (Ez "Course" (dV 0) "house") (Ab (dV 1) (Ab (Ez "Course" (dV 0) "came") Ae))))) (gV 2)) (Ai (sAs (Ay (dFn ZAU (Ab (dV 2) Ae))) (gV 3)) (Ai (Ei (Dh (Hz 3) (Ab (dV 1) (Ab (dV 3) (Ab (Ay (dFn Pj (Ab (dV 2) (Ab (dV 3) Ae)))) Ae)))) (Bq 3 (An (gV 4) (An (gV 5) (An (gV 6) Bs)))) N8) (sEx (Gq H8 (Ez "Course" (dV 0) "reaches") (Ab (Ep (dFn Cg (Ab (dV 1) (Ab (dV 2) Ae)))) Ae))))))
def W7:List D->DH->R D:=Cd 2 5 ZGr
noncomputable def Zu:DS:=(Ai (sAs (dFn Rz (Ab (dV 0) (Ab (dV 2) Ae))) (gV 3)) (sIf (Bk (dOp O6 (dV 3) (dC .non))) (sAs (dOp Ah (dV 1) (dV 3)) (gIx (dV 1) (dV 2))) sNx))
noncomputable def ZGI:DS:=(Ai (sAs (Ep (dLR (Ab (dFn Gr (Ab (dOp Ah (dV 0) (dC (.int 1))) Ae)) Ae))) (gV 1)) (Ai (Ei (Dh rng3 (Ab (dOp Ho (dFn Gr (Ab (dOp Ah (dV 0) (dC (.int 1))) Ae)) (dC (.int 1))) (Ab (dUn Ss (dC (.int 1))) (Ab (dUn Ss (dC (.int 1))) Ae)))) (gV 2) Zu) (sRt (dV 1))))
def Zh:List D->DH->R D:=Cd 1 3 ZGI
def Z1:DE:=(dV 0)
def U8:DB:=(Bk (dOp Cv (dV 1) (dV 2)))
noncomputable def Pa:DS:=(sIf (Bk (dOp Cv (dOp Ah (dOp Ah (dOp Ah (Ez "Course" (dV 0) "house") (dC (.int 1))) (dV 2)) (dC (.int 0))) (dC (.str "basin")))) (sEx (J8 "Course" "go_basin" ZAR (dV 0) (Ab (dV 2) Ae))) (sIf (Bk (dOp Cv (dV 3) (dV 2))) (sEx (J8 "Course" "go_reach" W7 (dV 0) (Ab (Ay (De (Dh Iv (Ab (dV 1) Ae)) 2 [2] (Bq 2 (An (gV 0) (An (gV 1) Bs))) U8 Z1)) Ae))) sNx))
noncomputable def ZGD:DS:=(Ai (sAs (Ay (dFn Zh (Ab (Ez "Course" (dV 0) "house") Ae))) (gV 1)) (Ei (Dh Iv (Ab (dV 1) Ae)) (Bq 2 (An (gV 2) (An (gV 3) Bs))) Pa))
def Yk:List D->DH->R D:=Cd 1 3 ZGD
def Yn:DE:=(dOp Ah (dV 0) (dC (.int 5)))
def Xz:DE:=(dFn Ha (Ab (dV 0) Ae))
noncomputable def ZJd:DS:=(sRt (dFn Cg (Ab (dFn Ha (Ab (Ay (De (Di (Ez "Course" (dV 0) "page")) 1 [] (gV 0) Bj Yn)) Ae)) (Ab (dFn Ha (Ab (Ay (De (Di (Ez "Course" (dV 0) "coming")) 1 [] (gV 0) Bj Xz)) Ae)) Ae))))
def Yy:List D->DH->R D:=Cd 1 0 ZJd
noncomputable def ZFV:DS:=(Ai (sAs (ZEH "Course" S8 (Ab (dV 0) (Ab (dV 1) (Ab (dV 2) (Ab (dV 3) Ae))))) (gV 4)) (Ai (sEx (J8 "Course" "go" Yk (dV 4) Ae)) (sRt (dFn Cg (Ab (dFn Ha (Ab (Ez "Course" (dV 4) "page") Ae)) (Ab (J8 "Course" "state_behind" Yy (dV 4) Ae) Ae))))))
def Wh:List D->DH->R D:=Cd 4 1 ZFV
noncomputable def Uj:DS:=(Ai (sAs (dFn Wh (Ab (dV 0) (Ab (dV 1) (Ab (dV 5) (Ab (dV 6) Ae))))) (Bq 2 (An (gV 7) (An (gV 1) Bs)))) (sEx (Gq H8 (dV 4) (Ab (dV 7) Ae))))
noncomputable def ZE4:DS:=(Ai (sAs (Ep (dFn Be Ae)) (gV 4)) (Ai (Ei (ZBu (Ab (dV 3) Ae) (dV 2)) (Bq 2 (An (gV 5) (An (gV 6) Bs))) Uj) (sRt (dFn Cg (Ab (dV 4) (Ab (dV 1) Ae))))))
def Pz:List D->DH->R D:=Cd 4 4 ZE4
noncomputable def ZJI:DS:=(Ai (sAs (Ay (dFn Pz (Ab (dV 0) (Ab (dV 1) (Ab (dV 2) (Ab (dV 3) Ae)))))) (Bq 2 (An (gV 4) (An (gV 5) Bs)))) (sRt (dFn Xy (Ab (dV 0) (Ab (dV 1) (Ab (dV 3) (Ab (dV 4) (Ab (dV 5) Ae))))))))
def Ot:List D->DH->R D:=Cd 4 2 ZJI
def Xg:DE:=(dOp Av (dOp Ah (dV 1) (dV 0)) (dOp Ah (dV 2) (dV 0)))
noncomputable def ZIn:DS:=(sRt (Oz (dOp Cv (Ay (De (Dh rng2 (Ab (dC (.int 1)) (Ab (dC (.int 4)) Ae))) 1 [11,12] (gV 0) Bj Xg)) (Ay (dFn Li (Ab (Ay (dSl (dV 6) (some (dC (.int 1))) (some (dC (.int 4))))) Ae)))) (dOp Cv (dFn Ot (Ab (dV 1) (Ab (dV 4) (Ab (dV 2) (Ab (dV 5) Ae))))) (dV 6))))
noncomputable def ZE1:DS:=(Ai (sIf (dOr (Bk (dOp Ge (dOp Ah (dV 11) (dC (.int 4))) (dFn Nm (Ab (dV 10) Ae)))) (Bk (dOp Ge (dOp Ah (dV 12) (dC (.int 0))) (dFn Nm (Ab (dV 10) Ae))))) (sRt (dC (.bl false))) sNx) ZIn)
noncomputable def ZFy:DS:=(Ai (sIf (dOr (Sx (Bk (dFn Ra (Ab (dV 11) Ae)))) (dOr (Sx (Bk (dFn Ra (Ab (dV 12) Ae)))) (dOr (Bk (dOp Ge (dOp Ah (dV 11) (dC (.int 0))) (dOp Ah (dV 6) (dC (.int 0))))) (Bk (dOp Ge (dOp Ah (dV 12) (dC (.int 4))) (dOp Ah (dV 6) (dC (.int 4)))))))) (sRt (dC (.bl false))) sNx) ZE1)
noncomputable def ZHr:DS:=(Ai (sAs (dFn Ot (Ab (dV 1) (Ab (dV 10) (Ab (dOp Av (dV 2) (dV 9)) (Ab (Ay (dSl (dV 3) (some (dV 9)) none)) Ae))))) (gV 12)) ZFy)
noncomputable def ZHH:DS:=(Ai (sAs (dFn Ot (Ab (dV 1) (Ab (dV 4) (Ab (dV 2) (Ab (Ay (dSl (dV 3) none (some (dV 9)))) Ae))))) (gV 11)) ZHr)
noncomputable def ZEl:DS:=(Ai (sAs (dOp Ah (Ay (dFn Pz (Ab (dV 1) (Ab (dV 4) (Ab (dV 2) (Ab (Ay (dSl (dV 3) none (some (dV 9)))) Ae)))))) (dC (.int 1))) (gV 10)) ZHH)
noncomputable def ZGM:DS:=(Ai (sAs (dOp Bm (dFn Ff (Ab (dV 0) (Ab (dC (.int 23)) Ae))) (dOp Av (dFn Gr (Ab (dV 3) Ae)) (dC (.int 1)))) (gV 9)) ZEl)
noncomputable def ZIH:DS:=(Ai (sIf (Bk (dOp Ge (dOp Av (dOp Ah (dV 6) (dC (.int 0))) (dOp Ah (dV 6) (dC (.int 1)))) (dOp Av (dOp Av (dOp Ah (dV 6) (dC (.int 2))) (dOp Ah (dV 6) (dC (.int 3)))) (dOp Ah (dV 6) (dC (.int 4)))))) (sRt (dC (.bl false))) sNx) ZGM)
noncomputable def ZFX:DS:=(Ai (sIf (dOr (Sx (Bk (dFn Ra (Ab (dV 6) Ae)))) (dOr (Bk (dOp Ge (dV 6) (dFn Yl (Ab (dV 1) (Ab (dV 4) (Ab (dV 7) (Ab (dV 3) (Ab (dV 8) Ae)))))))) (Bk (dOp Ge (dV 5) (dV 3))))) (sRt (dC (.bl false))) sNx) ZIH)
noncomputable def ZGk:DS:=(Ai (sAs (Ay (dFn Pz (Ab (dV 1) (Ab (dV 4) (Ab (dV 2) (Ab (Ay (dFn Li (Ab (dV 3) Ae))) Ae)))))) (Bq 2 (An (gV 7) (An (gV 8) Bs)))) ZFX)
noncomputable def ZE8:DS:=(Ai (sAs (dFn Ot (Ab (dV 1) (Ab (dV 4) (Ab (dV 2) (Ab (dV 5) Ae))))) (gV 6)) ZGk)
def ZGA:DS:=(Ai (sAs (Ay (dFn Li (Ab (dV 3) Ae))) (gV 5)) ZE8)
noncomputable def ZE5:DS:=(Ai (sAs (dFn Z5 (Ab (dV 1) (Ab (dFn Ff (Ab (dV 0) (Ab (dC (.int 22)) Ae))) Ae))) (gV 4)) ZGA)
noncomputable def ZIK:DS:=(Ai (sAs (Ay (dFn U6 (Ab (dV 0) (Ab (dC (.int 16)) (Ab (dFn Gr (Ab (dOp Ah (dV 1) (dC (.int 1))) Ae)) Ae))))) (gV 3)) ZE5)
noncomputable def ZGa:DS:=(Ai (sAs (dOp Bm (dFn Ff (Ab (dV 0) (Ab (dC (.int 15)) Ae))) (dC (.int 1000))) (gV 2)) ZIK)
def ZHk:DS:=(Ai (sAs (dFn R9 (Ab (dV 0) (Ab (dC (.int 0)) Ae))) (gV 1)) ZGa)
def Oc:List D->DH->R D:=Cd 1 12 ZHk
noncomputable def Holds:Prop:=∀ns:List Int,ns.length<=63->(∀m∈ns,m.natAbs.log2 < 1048576)->∃G,Oc [.fl (ns.map D.int)] []=.ok (.bl true) G
end Law
namespace Law
open PySem L2 DL
variable {ns xs:List Int} {G L:DH} {F T P ca fl lv:Nat->Int} {m i d k j at_ to dl:Nat} {A:DO} {ds:List D} {ws l l' ms:List Nat} {α:Type} {t w x cell big yr c a b e:Int} {te:DE} {S:DSt} {p:Bool} {nm:List Str} {H LV:D} {pg:Nat->List Int} {co:Nat->Nat->Int} {fls:List (Nat->Int)}
def cellAt (ns:List Int) (k:Int):Int:=ns.getD k.toNat 0
theorem Ky {k:Int} (hk:0<=k):Ff [.fl (ns.map D.int),.int k] G=.ok (.int (cellAt ns k)) G:=by
 unfold Ff ZEo cellAt;rw [By];by_cases h:k < ns.length
 ·simp [h];rw [Gg (d:=D.int (ns[k.toNat]'(by lia))) (k:=k.toNat) (by lia) (by rw [zk,zQ (by lia)];rfl)];simp [Cy,zQ (show k.toNat < ns.length by lia)]
 ·simp [h,Cy,z0 (show ns.length<=k.toNat by lia)]
structure Row where
 down:Option Nat
 water:Int
 need:Int
 rank:Int
variable {rs:List Row}
def dnD:Option Nat->D
 | none=>.non
 | some d=>.int d
def Row.enc (r:Row):D:=.tup [dnD r.down,.int r.water,.int r.need,.int r.rank]
@[simp] theorem ZTD {n:Nat} {o:Option Nat}:bel n (dnD o)=true:=by cases o <;> rfl
@[simp] theorem ZNh {n:Nat} {r:Row}:bel n r.enc=true:=by simp [Row.enc]
@[simp] theorem ZS4 {n:Nat} :bels n (rs.map Row.enc)=true:=Ft λr _=>ZNh
@[simp] theorem Gp {n:Nat} :bels n (xs.map D.int)=true:=Ft λr _=>rfl
structure Fine (k n:Nat) (r:Row):Prop where
 dn:∀d,r.down=some d->k < d/\d < n
 w0:0<=r.water
 n0:0<=r.need
 r0:0<=r.rank
def Reach (rs:List Row):Prop:=∀k r,rs[k]? =some r->Fine k rs.length r
def tab (n:Nat) (F:Nat->Int):List D:=(zX n).map λi=>D.int (F i)
def fset (F:Nat->Int) (d:Nat) (v:Int):Nat->Int:=λi=>if i=d then v else F i
@[simp] theorem ZTJ {n:Nat} :(tab n F).length=n:=by simp [tab]
@[simp] theorem Oi {n:Nat} :bels m (tab n F)=true:=Ft λ_ _=>rfl
theorem Te {n:Nat} (h:i < n):(tab n F)[i]? =some (.int (F i)):=by unfold tab;rw [zk,zL h];rfl
theorem Ir {n:Nat} (h:i < n):atI (tab n F) (i:Int)=some (.int (F i)):=Gg rfl (Te h)
theorem Pn {n:Nat} {v:Int}:(tab n F).set d (.int v)=tab n (fset F d v):=by
 refine j7 λi=> ?_
 by_cases hi:i < n
 ·by_cases e:d=i
  ·subst e;rw [jV (by simpa using hi),Te hi];simp [fset]
  ·rw [qU e,Te hi,Te hi];have:i≠d:=λz=>e z.symm
   simp [fset,this]
 ·rw [z0 (by simp;lia),z0 (by simp;lia)]
theorem ZF9 {n:Nat} {F':Nat->Int} (h:∀i,i < n->F i=F' i):tab n F=tab n F':=by
 unfold tab;refine qJ λi hi=> ?_
 rw [h i (qX.mp hi)]
noncomputable def col (g:Row->Int) (rs:List Row) (i:Nat):Int:=match rs[i]? with
 | some r=>g r
 | none=>0
def Bp (rs:List Row) (i:Nat):Option Nat:=rs[i]?.bind Row.down
theorem Ip (h:Reach rs) (e:Bp rs k=some d):k < d/\d < rs.length:=by
 unfold Bp at e;cases hr:rs[k]? with
 | none=>rw [hr] at e;cases e
 | some r=>rw [hr] at e;exact (h k r hr).dn d e
theorem Wy (hk:k < rs.length):Bp rs k=rs[k].down:=by unfold Bp;rw [zQ hk];rfl
theorem ZFB (hk:¬k < rs.length):Bp rs k=none:=by unfold Bp;rw [z0 (by lia)];rfl
noncomputable def gstep (F:Nat->Int) (k:Nat) (o:Option Nat):Nat->Int:=match o with
 | none=>F
 | some d=>fset F d (F d + F k)
noncomputable def gat (rs:List Row):Nat->Nat->(Nat->Int)->Nat->Int
 | 0,_,F=>F
 | m + 1,k,F=>gat rs m (k + 1) (gstep F k (Bp rs k))
abbrev gath (rs:List Row) (F:Nat->Int):Nat->Int:=gat rs rs.length 0 F
theorem ZDF (hk:k < rs.length):atI (rs.map Row.enc) (k:Int)=some (.tup [dnD (Bp rs k),.int (col Row.water rs k),.int (col Row.need rs k),.int (col Row.rank rs k)]):=
 Gg rfl (by rw [zk,Wy hk];simp [col,zQ hk,Row.enc])
theorem ZH9 (hR:Reach rs) {t:D} {G:DH}:∀(m k:Nat) (F:Nat->Int) (x y:Option D),k + m=rs.length->∃x' y',
  Bx (Bq 2 (An (gV 4) (An (gV 3) Bs))) Nq ((Dz (rs.map Row.enc)).drop k) [some (.fl (rs.map Row.enc)),some t,some (.ref G.length),x,y] (G++ [.lst (tab rs.length F)])=
   .nx [some (.fl (rs.map Row.enc)),some t,some (.ref G.length),x',y'] (G++ [.lst (tab rs.length (gat rs m k F))])
 | 0,k,F,x,y,h=>⟨x,y,by rw [zR (by rw [Ko];simp;lia),Fy];rfl⟩
 | m + 1,k,F,x,y,h=>by
  have hk:k < rs.length:=by lia
  have e0:(Dz (rs.map Row.enc)).drop k=.tup [.int k,rs[k].enc]::(Dz (rs.map Row.enc)).drop (k + 1):=by rw [zN (by rw [Ko];simpa using hk)];simp [Dz]
  obtain ⟨x',y',ih⟩:=ZH9 hR (t:=t) (G:=G) m (k + 1) (gstep F k (Bp rs k)) (some rs[k].enc) (some (.int k)) (by lia);refine ⟨x',y',?_⟩;have hb:Nq [some (.fl (rs.map Row.enc)),some t,some (.ref G.length),some rs[k].enc,some (.int k)] (G++ [.lst (tab rs.length F)])=
    .nx [some (.fl (rs.map Row.enc)),some t,some (.ref G.length),some rs[k].enc,some (.int k)] (G++ [.lst (tab rs.length (gstep F k (Bp rs k)))]):=by
   unfold Nq;cases hd:Bp rs k with
   | none=>
    have:rs[k].down=none:=by rw [<-Wy hk];exact hd
    simp [Row.enc,this,dnD,gstep]
   | some d=>
    have e:rs[k].down=some d:=by rw [<-Wy hk];exact hd
    have hdn:=Ip hR hd;have g0:(G++ [DO.lst (tab rs.length F)])[G.length]? =some (.lst (tab rs.length F)):=by simp
    simp [Row.enc,e,dnD,gstep,Wk g0 (Ir hdn.2),Dr,Ir hk,Fg,Js,hdn.2,Pn]
  rw [e0,Et];simp [Es,hb];exact ih
noncomputable def Ma (rs:List Row) (i:Nat):D:=.tup [dnD (Bp rs i),.int (col Row.water rs i),.int (col Row.need rs i),.int (col Row.rank rs i)]
theorem ZGF:rs.map Row.enc=(zX rs.length).map (Ma rs):=by
 refine j7 λi=> ?_
 by_cases hi:i < rs.length
 ·rw [zk,zk,zL hi,zQ hi];simp [Ma,Row.enc,Wy hi,col,zQ hi]
 ·rw [z0 (by simp;lia),z0 (by simp;lia)]
theorem ZHz (hR:Reach rs) (hl:rs.length<=40) {t:D} (ht:Bu t G=some (tab rs.length T)):Pj [.fl (rs.map Row.enc),t] G=.ok (.ref G.length) (G++ [.lst (tab rs.length (gath rs λi=>col Row.water rs i - T i))]):=by
 obtain ⟨x',y',hL⟩:=ZH9 hR (t:=t) (G:=G) rs.length 0 (λi=>col Row.water rs i - T i) none none (by lia);have hz:∀j,Gf [.fl (rs.map Row.enc),t] j G=some ((zX rs.length).map λi=>D.tup [Ma rs i,.int (T i)])[j]? :=λj=>by
  rw [ZDL ZH4 ht,Nj,ZGF,tab,List.zip_map',zS]
  rfl
 let F:D->Option D:=λd=>match d with
  | .tup [.tup [_,.int w,_,_],.int v]=>some (.int (w - v))
  | _=>none
 have hc:Dk (Gf [.fl (rs.map Row.enc),t]) (Bq 2 (An (gV 0) (An (gV 1) Bs))) Bj ZDd (Bd 2 [] [some (.fl (rs.map Row.enc)),some t,none,none,none]) rs.length 0 G=.ok (tab rs.length λi=>col Row.water rs i - T i) G:=by
  rw [Wr (F:=F) hz (λx hx=> ?_) (by simp)]
  ·congr 1
   rw [qZ];show (zX rs.length).filterMap (λi=>some (D.int (col Row.water rs i - T i)))=_;rw [qY]
   rfl
  ·obtain ⟨i,_,rfl⟩:=zF.mp hx;refine ⟨[some (Ma rs i),some (.int (T i))],by simp [Bd],.inr ⟨rfl,.int (col Row.water rs i - T i),?_,rfl⟩⟩;unfold ZDd;simp [Ma]
 have hl2:rs.length<=1000000:=by lia
 unfold Pj ZIu;rw [By];have hL':Bx (Bq 2 (An (gV 4) (An (gV 3) Bs))) Nq (Dz (rs.map Row.enc)) [some (.fl (rs.map Row.enc)),some t,some (.ref G.length),none,none] (G++ [.lst (tab rs.length λi=>col Row.water rs i - T i)])=_:=hL;have hcf:Ef (Eo 0 (.fl (rs.map Row.enc))) (Bq 2 (An (gV 4) (An (gV 3) Bs))) Nq rs.length 0 [some (.fl (rs.map Row.enc)),some t,some (.ref G.length),none,none] (G++ [.lst (tab rs.length λi=>col Row.water rs i - T i)])=.nx [some (.fl (rs.map Row.enc)),some t,some (.ref G.length),x',y'] (G++ [.lst (tab rs.length (gath rs λi=>col Row.water rs i - T i))]):=by
  have:=ZR1 (S:= [some (.fl (rs.map Row.enc)),some t,some (.ref G.length),none,none]) (G:=G++ [.lst (tab rs.length λi=>col Row.water rs i - T i)]) (g:=Bq 2 (An (gV 4) (An (gV 3) Bs))) (b:=Nq) (xs:=rs.map Row.enc);rw [zG] at this;rw [this];exact hL'
 simp [ZDB (ZH4 (xs:=rs.map Row.enc)) ht,hc,Be,hl2,hcf,Fe]
theorem ZFj {g:Row->Int} (h:∀r∈rs,0<=g r) (k:Nat):0<=col g rs k:=by
 unfold col;split
 ·rename_i r hr;exact h r (List.mem_of_getElem? hr)
 ·exact qV _
theorem Reach.need (h:Reach rs) (k:Nat):0<=col Row.need rs k:=ZFj (λr hr=>by obtain ⟨i,hi,rfl⟩:=qB hr;exact (h i _ (zQ hi)).n0) k
theorem Reach.water (h:Reach rs) (k:Nat):0<=col Row.water rs k:=ZFj (λr hr=>by obtain ⟨i,hi,rfl⟩:=qB hr;exact (h i _ (zQ hi)).w0) k
theorem Xh (h:bels (G.length + 1) ds=true):freeze (G++ [A]) (.ok (.ref (G.length + 1)) (G++A:: .lst ds::L))=.ok (.fl ds) (G++ [A]):=by have:=Do (G:=G++ [A]) (ds:=ds) (L:=L) (by simpa using h);simpa using this
theorem ZCA (h:bels (G.length + 1) ds=true):tidy (G++ [A]) (.ok (.ref (G.length + 1)) (G++A:: .lst ds::L))=.ok (.ref (G.length + 1)) (G++ [A,.lst ds]):=by have:=Fe (G:=G++ [A]) (ds:=ds) (L:=L) (by simpa using h);simpa using this
theorem Vl {B:DO} (h:bels (G.length + 2) ds=true):freeze (G++ [A,B]) (.ok (.ref (G.length + 2)) (G++A::B:: .lst ds::L))=.ok (.fl ds) (G++ [A,B]):=by have:=Do (G:=G++ [A,B]) (ds:=ds) (L:=L) (by simpa using h);simpa using this
noncomputable def Mq (rs:List Row):Nat->Nat->List Nat
 | 0,k=> [k]
 | m + 1,k=>k::(match Bp rs k with
  | none=> []
  | some d=>Mq rs m d)
def way (rs:List Row) (k:Nat):List Nat:=Mq rs rs.length k
theorem ZHo (hR:Reach rs):∀(m m' k:Nat),rs.length<=m + k + 1->rs.length<=m' + k + 1->Mq rs m k=Mq rs m' k
 | 0,m',k,h,h'=>by
  have hn:Bp rs k=none:=by
   cases hd:Bp rs k with
   | none=>rfl
   | some d=>have:=Ip hR hd;lia
  cases m' with
  | zero=>rfl
  | succ m'=>simp [Mq,hn]
 | m + 1,0,k,h,h'=>by
  have hn:Bp rs k=none:=by
   cases hd:Bp rs k with
   | none=>rfl
   | some d=>have:=Ip hR hd;lia
  simp [Mq,hn]
 | m + 1,m' + 1,k,h,h'=>by
  cases hd:Bp rs k with
  | none=>simp [Mq,hd]
  | some d=>
   have:=Ip hR hd;simp [Mq,hd,ZHo hR m m' d (by lia) (by lia)]
def K4 (rs:List Row):Option Nat->List Nat
 | none=> []
 | some d=>way rs d
theorem K3 (hR:Reach rs) (k:Nat):way rs k=k::K4 rs (Bp rs k):=by
 unfold way;rw [ZHo hR rs.length (rs.length + 1) k (by lia) (by lia)];show k::_=_;cases hd:Bp rs k with
 | none=>rfl
 | some d=>rfl
@[simp] theorem ZSc:dnD (some d)=.int d:=id rfl
def Bg (ws:List Nat):List D:=ws.map λ(i:Nat)=>D.int (i:Int)
@[simp] theorem ZEY:bels m (Bg ws)=true:=Ft λ_ _=>rfl
@[simp] theorem ZS6:(Bg ws).length=ws.length:=by simp [Bg]
theorem ZF7 (hR:Reach rs) (hl:rs.length<=40) {x:Option D} :∀(m:Nat) (o:Option Nat) (acc:List Nat),0 < m->(∀d,o=some d->d < rs.length/\rs.length - d < m/\acc.length + (rs.length - d)<=100)->
  sWh Ni Sh m [some (.fl (rs.map Row.enc)),x,some (.ref G.length),some (dnD o)] (G++ [.lst (Bg acc)])=.nx [some (.fl (rs.map Row.enc)),x,some (.ref G.length),some .non] (G++ [.lst (Bg (acc++K4 rs o))])
 | 0,o,acc,h0,h=>by lia
 | m + 1,none,acc,h0,h=>by
  have ht:Ni [some (.fl (rs.map Row.enc)),x,some (.ref G.length),some (dnD none)] (G++ [.lst (Bg acc)])=.ok false (G++ [.lst (Bg acc)]):=by unfold Ni;simp [dnD]
  unfold sWh;rw [ht];simp [K4,dnD]
 | m + 1,some d,acc,h0,h=>by
  obtain ⟨h1,h2,h3⟩:=h d rfl;have ht:Ni [some (.fl (rs.map Row.enc)),x,some (.ref G.length),some (dnD (some d))] (G++ [.lst (Bg acc)])=.ok true (G++ [.lst (Bg acc)]):=by unfold Ni;simp [dnD]
  have hla:acc.length < 1000000:=by lia
  have hb:Sh [some (.fl (rs.map Row.enc)),x,some (.ref G.length),some (dnD (some d))] (G++ [.lst (Bg acc)])=.nx [some (.fl (rs.map Row.enc)),x,some (.ref G.length),some (dnD (Bp rs d))] (G++ [.lst (Bg (acc++ [d]))]):=by unfold Sh;simp [Dr,Fg,hla,ZDF h1,Bg]
  unfold sWh;rw [ht];simp only [R.El,if_true,hb,Ew];rw [ZF7 hR hl m (Bp rs d) (acc++ [d]) (by lia) (λe he=>by have:=Ip hR he;simp;lia)]
  have:K4 rs (some d)=d::K4 rs (Bp rs d):=K3 hR d;rw [this];simp
theorem ZNK (hR:Reach rs) (hl:rs.length<=40) (hk:k < rs.length) (G:DH):Ve [.fl (rs.map Row.enc),.int k] G=.ok (.ref G.length) (G++ [.lst (Bg (way rs k))]):=by
 have hL:=ZF7 hR hl (x:=some (.int k)) (G:=G) fuel (Bp rs k) [k] (by unfold fuel;lia) (λd hd=>by have:=Ip hR hd;unfold fuel;simp;lia)
 have hL':sWh Ni Sh fuel [some (.fl (rs.map Row.enc)),some (.int k),some (.ref G.length),some (dnD (Bp rs k))] (G++ [.lst [.int k]])=_:=hL;rw [K3 hR];unfold Ve ZIR;rw [By];simp [Be,Fe,ZDF hk,hL']
noncomputable def ltK (rs:List Row) (i j:Nat):Bool:=decide (col Row.rank rs i < col Row.rank rs j∨(col Row.rank rs i=col Row.rank rs j/\i < j))
theorem ZHV (rs:List Row):WO (ltK rs) where
 asy:=λi j h=>by simp only [ltK,decide_eq_true_eq,decide_eq_false_iff_not] at h ⊢;lia
 neg:=λi j k h=>by simp only [ltK,decide_eq_true_eq] at h ⊢;lia
noncomputable def ord (rs:List Row):List Nat:=if rs.length < 2 then zX rs.length else (Ck (ltK rs) (PySem.W.kas_sort rs.length)).toList
theorem ZDw (rs:List Row):(ord rs).Perm (zX rs.length):=by
 unfold ord;split
 ·exact .refl _
 ·exact (ZIk (ZHV rs) (by lia)).1
theorem ZII (h:k∈ord rs):k < rs.length:=by have:=(ZDw rs).mem_iff.mp h;simpa using this
theorem ZJo (rs:List Row):(ord rs).length=rs.length:=by rw [(ZDw rs).length_eq];simp
theorem ZIN {n:Nat} {lt lt':Nat->Nat->Bool} (h:∀i j,i < n->j < n->lt i j=lt' i j) {P:α->Prop}:∀{t:PySem.W.KasT α},Safe n P t->Ck lt t=Ck lt' t
 | .ret _,_=>rfl
 | .ask i j k,hs=>by show Ck lt (k (lt i j))=Ck lt' (k (lt' i j));rw [h i j hs.1 hs.2.1];exact ZIN h (hs.2.2 _)
def Gs (rs:List Row) (k:Nat):D:=.tup [.int (col Row.rank rs k),.int k]
theorem ZEe (i j:Nat):ltD (Gs rs i) (Gs rs j)=some (ltK rs i j):=by
 have e:ltD (Gs rs i) (Gs rs j)=if col Row.rank rs i=col Row.rank rs j then (if (i:Int)=j then some false else some (decide ((i:Int) < j))) else some (decide (col Row.rank rs i < col Row.rank rs j)):=rfl
 rw [e];by_cases h:col Row.rank rs i=col Row.rank rs j
 ·rw [if_pos h];by_cases h2:(i:Int)=j
  ·rw [if_pos h2]
   congr 1
   simp only [ltK]
   symm
   simp only [decide_eq_false_iff_not];lia
  ·rw [if_neg h2]
   congr 1
   simp only [ltK];rw [decide_eq_decide];lia
 ·rw [if_neg h]
  congr 1
  simp only [ltK];rw [decide_eq_decide];lia
def Hl (rs:List Row):List D:=(zX rs.length).map (Gs rs)
theorem ZCP (h:i < rs.length):(Hl rs).getD i .non=Gs rs i:=by unfold Hl;rw [zj,zk,zL h];rfl
theorem ZJj (rs:List Row):Mf (Hl rs)=(ord rs).map (Gs rs):=by
 have hl:(Hl rs).length=rs.length:=by simp [Hl]
 unfold Mf ord;rw [hl];split
 ·rfl
 ·rename_i h;have e:Ck (ltI (Hl rs)) (PySem.W.kas_sort rs.length)=Ck (ltK rs) (PySem.W.kas_sort rs.length):=
   ZIN (n:=rs.length) (λi j hi hj=>by unfold ltI;rw [ZCP hi,ZCP hj,ZEe];rfl) (ZLL (by lia))
  rw [e];refine qJ λi hi=> ?_
  have hp:=(ZIk (ZHV rs) (n:=rs.length) (by lia)).1;exact ZCP (by simpa using hp.mem_iff.mp hi)
theorem ZKP (rs:List Row):Qq (Hl rs)=true:=by
 unfold Qq Hl;rw [zA,xX];refine ⟨.inl ?_,?_⟩
 ·rw [qj];intro x hx;obtain ⟨i,_,rfl⟩:=zF.mp hx
  rfl
 ·rw [qj];intro x hx;rw [qj];intro y hy;obtain ⟨i,_,rfl⟩:=zF.mp hx;obtain ⟨j,_,rfl⟩:=zF.mp hy;rw [ZEe];rfl
@[simp] theorem ZKL:bels m (ws.map (Gs rs))=true:=Ft λ_ _=>by simp [Gs]
theorem ZOD (hl:rs.length<=40) (G:DH):Xk [.fl (rs.map Row.enc)] G=.ok (.ref G.length) (G++ [.lst (Bg (ord rs))]):=by
 have he:∀j,Eo 0 (.fl (rs.map Row.enc)) j G=some ((zX rs.length).map λ(k:Nat)=>D.tup [.int (k:Int),Ma rs k])[j]? :=λj=>by
  rw [Z4,Dz,ZGF,List.zipIdx_map,zS]
  congr 2
  refine qK (by simp) λi h1 h2=>by simp
 let F:D->Option D:=λd=>match d with
  | .tup [.int k,.tup [_,_,_,.int r]]=>some (.tup [.int r,.int k])
  | _=>none
 have hc:Dk (Eo 0 (.fl (rs.map Row.enc))) (Bq 2 (An (gV 0) (An (gV 1) Bs))) Bj ZCY (Bd 2 [] [some (.fl (rs.map Row.enc)),none]) rs.length 0 G=.ok (Hl rs) G:=by
  rw [Wr (F:=F) he (λx hx=> ?_) (by simp)]
  ·congr 1
   rw [qZ];show (zX rs.length).filterMap (λi=>some (Gs rs i))=_;rw [qY]
   rfl
  ·obtain ⟨i,_,rfl⟩:=zF.mp hx;refine ⟨[some (.int i),some (Ma rs i)],by simp [Bd],.inr ⟨rfl,Gs rs i,?_,rfl⟩⟩;unfold ZCY;simp [Ma,Gs,Cg]
 let F2:D->Option D:=λd=>match d with
  | .tup [_,k]=>some k
  | _=>none
 have hc2:∀S,Cp (Bq 2 (An (gV 0) (An (gV 1) Bs))) Bj ZD3 (Bd 2 [] S) ((ord rs).map (Gs rs)) G=.ok (Bg (ord rs)) G:=λS=>by
  rw [Wf (F:=F2) (λx hx=> ?_)]
  ·congr 1
   rw [qZ];show (ord rs).filterMap (λ(i:Nat)=>some (D.int (i:Int)))=_;rw [qY]
   rfl
  ·obtain ⟨i,_,rfl⟩:=zF.mp hx;refine ⟨[some (.int (col Row.rank rs i)),some (.int i)],by simp [Bd,Gs],.inr ⟨rfl,.int i,?_,rfl⟩⟩;unfold ZD3;simp
 have hkl:(Hl rs).length=rs.length:=by simp [Hl]
 have hl2:rs.length<=1000000:=by lia
 have hs:∀G,Ul [.fl (Hl rs)] G=.ok (.ref G.length) (G++ [.lst ((ord rs).map (Gs rs))]):=λG=>by have h1:Hq (.fl (Hl rs)) G=some (Hl rs):=rfl;simp only [Ul,h1];rw [if_pos ⟨⟨by rw [hkl];lia,by rw [ZJj];simp [ZJo];lia⟩,ZKP rs⟩,ZJj]
 have hbk:bels G.length (Hl rs)=true:=ZKL;have hol:=ZJo rs;have hl3:(ord rs).length<=1000000:=by lia
 unfold Xk ZJH;rw [By];simp [hc,Be,hkl,hl2,Do,hbk,hs,hc2,hl3,Fe]
noncomputable def wmin (P:Nat->Int):List Nat->Int
 | []=>0
 | k::r=>(r.map P).foldl min (P k)
theorem ZNJ {b:Nat} (h:b∈ws):wmin P ws<=P b:=by
 cases ws with
 | nil=>cases h
 | cons k r=>
  obtain ⟨h1,h2,_⟩:=Wt (r.map P) (P k);rcases zx.mp h with rfl | h
  ·exact h1
  ·exact h2 _ (zF.mpr ⟨b,h,rfl⟩)
theorem ZKj (h:ws≠ []):∃b∈ws,wmin P ws=P b:=by
 cases ws with
 | nil=>exact absurd rfl h
 | cons k r=>
  obtain ⟨_,_,h3⟩:=Wt (r.map P) (P k);rcases h3 with h3 | h3
  ·exact ⟨k,zV,h3⟩
  ·obtain ⟨b,hb,e⟩:=zF.mp h3;exact ⟨b,zZ _ hb,e.symm⟩
noncomputable def Jl (P:Nat->Int) (ws:List Nat) (t:Int):Nat->Int:=λi=>if i∈ws then P i - t else P i
noncomputable def Vg (P:Nat->Int) (t:Int) (ws:List Nat):Nat->Int:=ws.foldl (λP b=>fset P b (P b - t)) P
theorem ZHx:∀{ws:List Nat} {P:Nat->Int},ws.Nodup->Vg P t ws=Jl P ws t
 | [],P,_=>by funext i;simp [Vg,Jl]
 | b::ws,P,h=>by
  obtain ⟨h1,h2⟩:=qD.mp h;show Vg (fset P b (P b - t)) t ws=_;rw [ZHx h2];funext i;by_cases e:i=b
  ·subst e;simp [Jl,fset,h1]
  ·simp [Jl,fset,e]
theorem ZGR (hR:Reach rs):∀(m k:Nat),rs.length<=m + k->k < rs.length->∀b∈way rs k,k<=b/\b < rs.length
 | 0,k,h,hk,b,hb=>by lia
 | m + 1,k,h,hk,b,hb=>by
  rw [K3 hR] at hb;rcases zx.mp hb with rfl | hb
  ·lia
  ·cases hd:Bp rs k with
   | none=>rw [hd] at hb;cases hb
   | some d=>
    have:=Ip hR hd;rw [hd] at hb;have:=ZGR hR m d (by lia) (by lia) b hb;lia
theorem Yz (hR:Reach rs) {b:Nat} (hk:k < rs.length) (hb:b∈way rs k):k<=b/\b < rs.length:=ZGR hR rs.length k (by lia) hk b hb
theorem ZEZ (hR:Reach rs):∀(m k:Nat),rs.length<=m + k->(way rs k).Nodup
 | 0,k,h=>by rw [K3 hR,ZFB (by lia)];simp [K4]
 | m + 1,k,h=>by
  rw [K3 hR];cases hd:Bp rs k with
  | none=>simp [K4]
  | some d=>
   have hlt:=Ip hR hd;refine qD.mpr ⟨λhm=> ?_,ZEZ hR m d (by lia)⟩;have:=Yz hR hlt.2 hm;lia
theorem ZLm (hR:Reach rs) (k:Nat):(way rs k).Nodup:=ZEZ hR rs.length k (by lia)
theorem ZFZ (hR:Reach rs):∀(m k:Nat),rs.length<=m + k->(way rs k).length<=m + 1
 | 0,k,h=>by rw [K3 hR,ZFB (by lia)];simp [K4]
 | m + 1,k,h=>by
  rw [K3 hR];cases hd:Bp rs k with
  | none=>simp [K4]
  | some d=>
   have hlt:=Ip hR hd;have:=ZFZ hR m d (by lia);show (way rs d).length + 1<=_;lia
noncomputable def take1 (rs:List Row) (P:Nat->Int) (k:Nat):Int:=min (col Row.need rs k) (wmin P (way rs k))
noncomputable def srv (rs:List Row):List Nat->(Nat->Int)->(Nat->Int)->(Nat->Int)×(Nat->Int)
 | [],P,T=>(P,T)
 | k::ks,P,T=>srv rs ks (Jl P (way rs k) (take1 rs P k)) (fset T k (take1 rs P k))
noncomputable def shr (rs:List Row):Nat->Int:=(srv rs (ord rs) (gath rs (col Row.water rs)) λ_=>0).2
def pD (P:Nat->Int) (ws:List Nat):List D:=ws.map λi=>D.int (P i)
@[simp] theorem ZSz:(pD P ws).length=ws.length:=by simp [pD]
@[simp] theorem ZLV:bels m (pD P ws)=true:=Ft λ_ _=>rfl
theorem ZIZ {a b c d e:Option D} {t:Int} {A:DO} {G:DH}:∀(ws:List Nat) (P:Nat->Int) (x:Option D),(∀b∈ws,b < rs.length)->∃x',
  Bx (gV 6) Xu (Bg ws) [a,b,some (.ref (G.length + 1)),c,d,some (.int t),x] (G++ [A,.lst (tab rs.length P)])=.nx [a,b,some (.ref (G.length + 1)),c,d,some (.int t),x'] (G++ [A,.lst (tab rs.length (Vg P t ws))])
 | [],P,x,h=>⟨x,rfl⟩
 | w::ws,P,x,h=>by
  obtain ⟨x',ih⟩:=ZIZ (a:=a) (b:=b) (c:=c) (d:=d) (e:=e) (t:=t) (A:=A) (G:=G) ws (fset P w (P w - t)) (some (.int w)) λb hb=>h b (zZ _ hb)
  refine ⟨x',?_⟩;have hw:=h w zV;have g0:(G++ [A,DO.lst (tab rs.length P)])[G.length + 1]? =some (.lst (tab rs.length P)):=Vy _ 1;have hse:∀(L:DH) o,(G++L).set (G.length + 1) o=G++L.set 1 o:=λL o=>ZCt L 1 o
  have hb:Xu [a,b,some (.ref (G.length + 1)),c,d,some (.int t),some (.int w)] (G++ [A,.lst (tab rs.length P)])=.nx [a,b,some (.ref (G.length + 1)),c,d,some (.int t),some (.int w)] (G++ [A,.lst (tab rs.length (fset P w (P w - t)))]):=by unfold Xu;simp [Wk g0 (Ir hw),g0,hse,Js,hw,Pn]
  show Bx _ _ (.int w::Bg ws) _ _=_;rw [Et];simp only [Es,R.El,q9,hb,Ew];exact ih
theorem ZHX {rs:List Row} (hR:Reach rs) (hl:rs.length<=40) {G:DH}:∀(ks:List Nat) (P T:Nat->Int) (x y z w:Option D),(∀k∈ks,k < rs.length)->∃x' y' z' w',
  Bx (gV 3) Tf (Bg ks) [some (.fl (rs.map Row.enc)),some (.ref G.length),some (.ref (G.length + 1)),x,y,z,w] (G++ [.lst (tab rs.length T),.lst (tab rs.length P)])=
   .nx [some (.fl (rs.map Row.enc)),some (.ref G.length),some (.ref (G.length + 1)),x',y',z',w'] (G++ [.lst (tab rs.length (srv rs ks P T).2),.lst (tab rs.length (srv rs ks P T).1)])
 | [],P,T,x,y,z,w,h=>⟨x,y,z,w,rfl⟩
 | k::ks,P,T,x,y,z,w,h=>by
  have hk:=h k zV;have hwl:∀b∈way rs k,b < rs.length:=λb hb=>(Yz hR hk hb).2
  obtain ⟨w1,hsub⟩:=ZIZ (rs:=rs) (a:=some (.fl (rs.map Row.enc))) (b:=some (.ref G.length)) (c:=some (.int k)) (d:=some (.fl (Bg (way rs k)))) (e:=none) (t:=take1 rs P k) (A:=.lst (tab rs.length (fset T k (take1 rs P k)))) (G:=G) (way rs k) P w hwl;rw [ZHx (ZLm hR k)] at hsub;obtain ⟨x',y',z',w',ih⟩:=ZHX hR hl (G:=G) ks (Jl P (way rs k) (take1 rs P k)) (fset T k (take1 rs P k)) (some (.int k)) (some (.fl (Bg (way rs k)))) (some (.int (take1 rs P k))) w1 λj hj=>h j (zZ _ hj)
  refine ⟨x',y',z',w',?_⟩;have g0:(G++ [DO.lst (tab rs.length T),DO.lst (tab rs.length P)])[G.length + 1]? =some (.lst (tab rs.length P)):=Vy _ 1;have hcomp:Cp (gV 0) Bj ZDy (Bd 1 [2] [some (.fl (rs.map Row.enc)),some (.ref G.length),some (.ref (G.length + 1)),some (.int k),some (.fl (Bg (way rs k))),z,w]) (Bg (way rs k)) (G++ [DO.lst (tab rs.length T),DO.lst (tab rs.length P)])=.ok (pD P (way rs k)) (G++ [DO.lst (tab rs.length T),DO.lst (tab rs.length P)]):=by
   rw [Wf (F:=λd=>match d with | .int i=>some (.int (P i.toNat)) | _=>none) (λq hq=> ?_)]
   ·congr 1
    unfold Bg;rw [qZ];show (way rs k).filterMap (λ(i:Nat)=>some (D.int (P ((i:Int).toNat))))=_;rw [qY];simp [pD]
   ·obtain ⟨i,hi,rfl⟩:=zF.mp hq;refine ⟨[some (.int i),some (.ref (G.length + 1))],by simp [Bd],.inr ⟨rfl,.int (P i),?_,by simp⟩⟩;unfold ZDy;simp [g0,Ir (hwl i hi)]
  have hwn:(way rs k).length<=1000000:=by have h1:=ZFZ hR rs.length k (by lia);lia
  have hmin:∀G,R1 [.fl (pD P (way rs k))] G=.ok (.int (wmin P (way rs k))) G:=λG=>by rw [K3 hR];exact ZRv (n:=P k) (ns:=(K4 rs (Bp rs k)).map P) (by simp [pD])
  have hfr:freeze (G++ [DO.lst (tab rs.length T),DO.lst (tab rs.length P)]) (.ok (.ref (G.length + 2)) (G++ [DO.lst (tab rs.length T),DO.lst (tab rs.length P),.lst (pD P (way rs k))]))=.ok (.fl (pD P (way rs k))) (G++ [DO.lst (tab rs.length T),DO.lst (tab rs.length P)]):=Vl ZLV;have hfw:freeze (G++ [DO.lst (tab rs.length T),DO.lst (tab rs.length P)]) (.ok (.ref (G.length + 2)) (G++ [DO.lst (tab rs.length T),DO.lst (tab rs.length P),.lst (Bg (way rs k))]))=.ok (.fl (Bg (way rs k))) (G++ [DO.lst (tab rs.length T),DO.lst (tab rs.length P)]):=Vl ZEY
  have hb:Tf [some (.fl (rs.map Row.enc)),some (.ref G.length),some (.ref (G.length + 1)),some (.int k),y,z,w] (G++ [.lst (tab rs.length T),.lst (tab rs.length P)])=
    .nx [some (.fl (rs.map Row.enc)),some (.ref G.length),some (.ref (G.length + 1)),some (.int k),some (.fl (Bg (way rs k))),some (.int (take1 rs P k)),w1] (G++ [.lst (tab rs.length (fset T k (take1 rs P k))),.lst (tab rs.length (Jl P (way rs k) (take1 rs P k)))]):=by
   unfold Tf;have ht1:min (col Row.need rs k) (wmin P (way rs k))=take1 rs P k:=rfl;simp [ZNK hR hl hk,hfw,ZDF hk,hcomp,Be,hwn,hfr,hmin,ht1,Dr,Fg,Js,hk,Pn,hsub]
  show Bx _ _ (.int k::Bg ks) _ _=_;rw [Et];simp only [Es,R.El,q9,hb,Ew];exact ih
theorem ZQF (hR:Reach rs) (hl:rs.length<=40) (G:DH):ZAU [.fl (rs.map Row.enc)] G=.ok (.ref G.length) (G++ [.lst (tab rs.length (shr rs))]):=by
 have hz:zC rs.length (D.int 0)=tab rs.length λ_=>0:=by unfold tab;refine qK (by simp) λi h1 h2=>by simp
 have hrep:Lg (.ref G.length) (.int (rs.length:Int)) (G++ [.lst [.int 0]])=.ok (.ref (G.length + 1)) (G++ [.lst [.int 0],.lst (tab rs.length λ_=>0)]):=by rw [ZI6 (d:=.int 0) (by rw [Dr];rfl) (by lia),hz];simp
 have ht1:tidy G (.ok (.ref (G.length + 1)) (G++ [.lst [.int 0],.lst (tab rs.length λ_=>0)]))=.ok (.ref G.length) (G++ [.lst (tab rs.length λ_=>0)]):=Vq _ (k:=1) rfl Oi;have hp:Pj [.fl (rs.map Row.enc),.ref G.length] (G++ [.lst (tab rs.length λ_=>0)])=.ok (.ref (G.length + 1)) (G++ [.lst (tab rs.length λ_=>0),.lst (tab rs.length (gath rs (col Row.water rs)))]):=by rw [ZHz hR hl (T:=λ_=>0) (ZO6 (by rw [Dr];rfl))];simp
 have ht2:tidy (G++ [.lst (tab rs.length λ_=>0)]) (.ok (.ref (G.length + 1)) (G++ [.lst (tab rs.length λ_=>0),.lst (tab rs.length (gath rs (col Row.water rs)))]))=.ok (.ref (G.length + 1)) (G++ [.lst (tab rs.length λ_=>0),.lst (tab rs.length (gath rs (col Row.water rs)))]):=ZCA Oi;have hfs:freeze (G++ [.lst (tab rs.length λ_=>0),.lst (tab rs.length (gath rs (col Row.water rs)))]) (.ok (.ref (G.length + 2)) (G++ [.lst (tab rs.length λ_=>0),.lst (tab rs.length (gath rs (col Row.water rs))),.lst (Bg (ord rs))]))=.ok (.fl (Bg (ord rs))) (G++ [.lst (tab rs.length λ_=>0),.lst (tab rs.length (gath rs (col Row.water rs)))]):=Vl ZEY
 obtain ⟨x',y',z',w',hL⟩:=ZHX hR hl (G:=G) (ord rs) (gath rs (col Row.water rs)) (λ_=>0) none none none none λk hk=>ZII hk
 have hfin:∀A,tidy G (.ok (.ref G.length) (G++ [.lst (tab rs.length (shr rs)),A]))=.ok (.ref G.length) (G++ [.lst (tab rs.length (shr rs))]):=λA=>Fe Oi
 have hL':Bx (gV 3) Tf (Bg (ord rs)) [some (.fl (rs.map Row.enc)),some (.ref G.length),some (.ref (G.length + 1)),none,none,none,none] (G++ [.lst (tab rs.length λ_=>0),.lst (tab rs.length (gath rs (col Row.water rs)))])=
   .nx [some (.fl (rs.map Row.enc)),some (.ref G.length),some (.ref (G.length + 1)),x',y',z',w'] (G++ [.lst (tab rs.length (shr rs)),.lst (tab rs.length (srv rs (ord rs) (gath rs (col Row.water rs)) λ_=>0).1)]):=hL
 unfold ZAU ZFr;rw [By];simp [Be,hrep,ht1,hp,ht2,ZOD hl,hfs,hL',hfin]
def ind (t:Int) (ws:List Nat):Nat->Int:=λi=>if i∈ws then t else 0
theorem ZCH (hR:Reach rs) :∀(m j:Nat) (A:Nat->Int),k < j->gat rs m j (λi=>A i + ind t [k] i)=λi=>gat rs m j A i + ind t [k] i
 | 0,j,A,h=>rfl
 | m + 1,j,A,h=>by
  unfold gat;have e:gstep (λi=>A i + ind t [k] i) j (Bp rs j)=λi=>gstep A j (Bp rs j) i + ind t [k] i:=by
   cases hd:Bp rs j with
   | none=>rfl
   | some d=>
    have:=Ip hR hd;funext i;simp only [gstep,fset,ind,qE];have h1:j≠k:=by lia
    have h2:d≠k:=by lia
    by_cases hi:i=d
    ·subst hi;simp [h1,h2]
    ·simp [hi]
  rw [e,ZCH hR m (j + 1) _ (by lia)]
theorem ZAv (hR:Reach rs) :∀(m j k:Nat) (A:Nat->Int),j + m=rs.length->j<=k->k < rs.length->gat rs m j (λi=>A i + ind t [k] i)=λi=>gat rs m j A i + ind t (way rs k) i
 | 0,j,k,A,h,h1,h2=>by lia
 | m + 1,j,k,A,h,h1,h2=>by
  unfold gat;by_cases hjk:j < k
  ·have e:gstep (λi=>A i + ind t [k] i) j (Bp rs j)=λi=>gstep A j (Bp rs j) i + ind t [k] i:=by
    cases hd:Bp rs j with
    | none=>rfl
    | some d=>
     funext i;simp only [gstep,fset,ind,qE];have h3:j≠k:=by lia
     by_cases hi:i=d
     ·subst hi;simp [h3];split <;> lia
     ·simp [hi]
   rw [e,ZAv hR m (j + 1) k _ (by lia) (by lia) h2]
  ·have ej:j=k:=by lia
   subst ej;cases hd:Bp rs j with
   | none=>
    have hw:way rs j= [j]:=by rw [K3 hR,hd];rfl
    show gat rs m (j + 1) (λi=>A i + ind t [j] i)=_;rw [ZCH hR m (j + 1) A (by lia),hw]
    rfl
   | some d=>
    have hlt:=Ip hR hd;have hw:way rs j=j::way rs d:=by rw [K3 hR,hd];rfl
    have e:gstep (λi=>A i + ind t [j] i) j (some d)=λi=>(gstep A j (some d) i + ind t [d] i) + ind t [j] i:=by
     funext i;simp only [gstep,fset,ind,qE];have h3:d≠j:=by lia
     by_cases hi:i=d
     ·subst hi;simp [h3];lia
     ·simp [hi]
    rw [e,ZCH hR m (j + 1) _ (by lia),ZAv hR m (j + 1) d _ (by lia) (by lia) hlt.2];funext i;have hnj:j ∉ way rs d:=λhm=>by have:=Yz hR hlt.2 hm;lia
    simp only [ind,hw,zx,qE];by_cases hi:i=j
    ·subst hi;simp [hnj]
    ·simp [hi]
theorem ZPc (hR:Reach rs) {W:Nat->Int} (hk:k < rs.length) (h0:T k=0):gath rs (λi=>W i - fset T k t i)=Jl (gath rs λi=>W i - T i) (way rs k) t:=by
 have e:(λi=>W i - fset T k t i)=λi=>(W i - T i) + ind (-t) [k] i:=by
  funext i;simp only [fset,ind,qE];by_cases hi:i=k
  ·subst hi;simp [h0];lia
  ·simp [hi]
 rw [e];show gat rs rs.length 0 _=_;rw [ZAv hR rs.length 0 k _ (by lia) (by lia) hk];funext i;simp only [ind,Jl,gath]
 split <;> lia
theorem ZFK:∀(m k:Nat) (F:Nat->Int),(∀i,0<=F i)->∀i,0<=gat rs m k F i
 | 0,k,F,h,i=>h i
 | m + 1,k,F,h,i=>by
  refine ZFK m (k + 1) _ (λj=> ?_) i;cases Bp rs k with
  | none=>exact h j
  | some d=>
   simp only [gstep,fset];have:=h d;have:=h k;have:=h j
   split <;> lia
structure SI (rs:List Row) (P T:Nat->Int):Prop where
 pg:P=gath rs λi=>col Row.water rs i - T i
 t0:∀i,0<=T i
 tn:∀i,T i<=col Row.need rs i
 p0:∀i,i < rs.length->0<=P i
theorem ZNr (h:∀b∈ws,0<=P b):0<=wmin P ws:=by
 cases ws with
 | nil=>exact qV _
 | cons k r=>
  obtain ⟨b,hb,e⟩:=ZKj (P:=P) (ws:=k::r) (by simp);rw [e];exact h b hb
theorem SI.take (hR:Reach rs) (s:SI rs P T) (hk:k < rs.length):0<=take1 rs P k/\take1 rs P k<=col Row.need rs k/\∀b∈way rs k,take1 rs P k<=P b:=by
 have h1:0<=wmin P (way rs k):=ZNr λb hb=>s.p0 b (Yz hR hk hb).2
 have h2:=hR.need k;unfold take1;refine ⟨by lia,by lia,λb hb=> ?_⟩;have:=ZNJ (P:=P) hb;lia
theorem SI.step (hR:Reach rs) (s:SI rs P T) (hk:k < rs.length) (h0:T k=0):SI rs (Jl P (way rs k) (take1 rs P k)) (fset T k (take1 rs P k)):=by
 obtain ⟨a,b,c⟩:=s.take hR hk;refine ⟨?_,λi=> ?_,λi=> ?_,λi hi=> ?_⟩
 ·rw [ZPc hR hk h0,<-s.pg]
 ·simp only [fset];split
  ·exact a
  ·exact s.t0 i
 ·simp only [fset];split
  ·rename_i e;rw [e];exact b
  ·exact s.tn i
 ·simp only [Jl];split
  ·rename_i hm;have:=c i hm;lia
  ·exact s.p0 i hi
theorem SI.run (hR:Reach rs):∀(ks:List Nat) (P T:Nat->Int),SI rs P T->ks.Nodup->(∀k∈ks,k < rs.length/\T k=0)->SI rs (srv rs ks P T).1 (srv rs ks P T).2
 | [],P,T,s,_,_=>s
 | k::ks,P,T,s,nd,h=>by
  obtain ⟨n1,n2⟩:=qD.mp nd;obtain ⟨hk,h0⟩:=h k zV;refine SI.run hR ks _ _ (s.step hR hk h0) n2 λj hj=> ?_
  obtain ⟨hj1,hj2⟩:=h j (zZ _ hj);have:j≠k:=λe=>n1 (e ▸ hj)
  exact ⟨hj1,by simp [fset,this,hj2]⟩
theorem ZKz (rs:List Row):(ord rs).Nodup:=(ZDw rs).nodup_iff.mpr List.nodup_range
theorem SI.first (hR:Reach rs):SI rs (gath rs (col Row.water rs)) λ_=>0:=
 ⟨by simp,λ_=>qV _,hR.need,λi _=>ZFK _ _ _ hR.water i⟩
theorem ZCq (hR:Reach rs):SI rs (srv rs (ord rs) (gath rs (col Row.water rs)) λ_=>0).1 (shr rs):=
 SI.run hR (ord rs) _ _ (SI.first hR) (ZKz rs) λk hk=>⟨ZII hk,rfl⟩
theorem rp:¬(("pump":Str)="river"):=by decide
theorem pr:¬(("river":Str)="pump"):=by decide
structure Stp where
 h:Int
 m:Int
 r:Bool
variable {st:List Stp}
def wy (r:Bool):Str:=if r then "river" else "pump"
def Stp.enc (s:Stp):D:=.tup [.int s.h,.int s.m,.str (wy s.r)]
@[simp] theorem ZSm {n:Nat} :bels n (st.map Stp.enc)=true:=Ft λs _=>by simp [Stp.enc]
@[simp] theorem ZSh {r:Bool}:(wy r="river")=(r=true):=by
 cases r
 ·exact propext ⟨λh=>absurd h rp,λh=>by cases h⟩
 ·exact propext ⟨λh=>rfl,λ_=>rfl⟩
@[simp] theorem ZSP {r:Bool}:(wy r="pump")=(r=false):=by
 cases r
 ·exact propext ⟨λh=>rfl,λ_=>rfl⟩
 ·exact propext ⟨λh=>absurd h pr,λh=>by cases h⟩
abbrev Ssn:=Int×List Stp
variable {r:List Ssn}
def Ej (s:Ssn):D:=.tup [.int s.1,.tup (s.2.map Stp.enc)]
@[simp] theorem ZSw {n:Nat} {ss:List Ssn}:bels n (ss.map Ej)=true:=Ft λs _=>by simp [Ej]
noncomputable def held (t:Int):List Ssn->List Stp->List Stp
 | [],h=>h
 | s::r,h=>held t r (if s.1<=t then s.2 else h)
theorem ZHG {c:D} {t:Int} {G:DH}:∀{ss:List Ssn} {h:List Stp} {a b:Option D},∃a' b',Bx (Bq 2 (An (gV 3) (An (gV 4) Bs))) Vb (ss.map Ej) [some c,some (.int t),some (.tup (h.map Stp.enc)),a,b] G=
  .nx [some c,some (.int t),some (.tup ((held t ss h).map Stp.enc)),a',b'] G
 | [],h,a,b=>⟨a,b,by rw [jJ,Fy];rfl⟩
 | s::r,h,a,b=>by
  obtain ⟨a',b',ih⟩:=ZHG (c:=c) (t:=t) (G:=G) (ss:=r) (h:=if s.1<=t then s.2 else h) (a:=some (.int s.1)) (b:=some (.tup (s.2.map Stp.enc)));refine ⟨a',b',?_⟩;have hb:Vb [some c,some (.int t),some (.tup (h.map Stp.enc)),some (.int s.1),some (.tup (s.2.map Stp.enc))] G=.nx [some c,some (.int t),some (.tup ((if s.1<=t then s.2 else h).map Stp.enc)),some (.int s.1),some (.tup (s.2.map Stp.enc))] G:=by
   unfold Vb
   by_cases h1:s.1<=t <;> simp [h1]
  rw [zW,Et];simp only [Ej,Tv,V3,Ux,Es,R.J7,R.El,q9,hb,Ew,zP,jF,Nat.reduceAdd,if_true];exact ih
theorem c_at {ss:List Ssn} :ZAE [.tup (ss.map Ej),.int t] G=.ok (.tup ((held t ss []).map Stp.enc)) G:=by obtain ⟨a,b,h⟩:=ZHG (c:=.tup (ss.map Ej)) (t:=t) (G:=G) (ss:=ss) (h:= []) (a:=none) (b:=none);unfold ZAE ZFd;rw [By];simp at h;simp [h,Cy]
def cub (w:Int) (s:Stp):Int:=max 0 (min s.m (w - s.h))
noncomputable def rv (w:Int):List Stp->Int
 | []=>0
 | s::r=>(if s.r then cub w s else 0) + rv w r
noncomputable def pm (w:Int):List Stp->Int
 | []=>0
 | s::r=>(if s.r then 0 else cub w s) + pm w r
theorem ZHe {c:D} {w:Int} {G:DH}:∀{st:List Stp} {a b:Int} {e f g h:Option D},∃e' f' g' h',Bx (Bq 3 (An (gV 4) (An (gV 5) (An (gV 6) Bs)))) Xe (st.map Stp.enc) [some c,some (.int w),some (.int a),some (.int b),e,f,g,h] G=
  .nx [some c,some (.int w),some (.int (a + rv w st)),some (.int (b + pm w st)),e',f',g',h'] G
 | [],a,b,e,f,g,h=>⟨e,f,g,h,by simp [Fy,rv,pm]⟩
 | s::r,a,b,e,f,g,h=>by
  obtain ⟨e',f',g',h',ih⟩:=ZHe (c:=c) (w:=w) (G:=G) (st:=r) (a:=a + (if s.r then cub w s else 0)) (b:=b + (if s.r then 0 else cub w s)) (e:=some (.int s.h)) (f:=some (.int s.m)) (g:=some (.str (wy s.r))) (h:=some (.int (cub w s)));refine ⟨e',f',g',h',?_⟩;have hb:Xe [some c,some (.int w),some (.int a),some (.int b),some (.int s.h),some (.int s.m),some (.str (wy s.r)),h] G=.nx [some c,some (.int w),some (.int (a + (if s.r then cub w s else 0))),some (.int (b + (if s.r then 0 else cub w s))),some (.int s.h),some (.int s.m),some (.str (wy s.r)),some (.int (cub w s))] G:=by
   unfold Xe cub
   cases s.r <;> simp
  rw [zW,Et];simp [Stp.enc,hb];rw [ih];simp [rv,pm,Int.add_assoc]
theorem ZGW:Xc [.tup (st.map Stp.enc),.int w] G=.ok (.tup [.int (rv w st),.int (pm w st),.int (w - rv w st - pm w st)]) G:=by obtain ⟨e,f,g,h,hl⟩:=ZHe (c:=.tup (st.map Stp.enc)) (w:=w) (G:=G) (st:=st) (a:=0) (b:=0) (e:=none) (f:=none) (g:=none) (h:=none);unfold Xc ZEi;rw [By];simp at hl;simp [hl,Cy]
inductive Kd where
 | basin (brim:Int) (rule:List Ssn) (pump:Option (Nat×Nat×Int))
 | town (need rank:Int)
 | mill (most:Int)
structure Pl where
 nm:Str
 dn:Option Nat
 dl:Nat
 kd:Kd
def ZAk:Pl:=⟨"",none,0,.mill 0⟩
structure Hs where
 yr:Int
 ps:List Pl
variable {h:Hs}
noncomputable def Kd.txt:Kd->Str
 | .basin ..=>"basin"
 | .town ..=>"town"
 | .mill ..=>"mill"
def Kd.isB:Kd->Bool
 | .basin ..=>true
 | _=>false
def Kd.isT:Kd->Bool
 | .town ..=>true
 | _=>false
def Hs.pl (h:Hs) (k:Nat):Pl:=h.ps.getD k ZAk
def Hs.n (h:Hs):Nat:=h.ps.length
def Hs.dnT (h:Hs):Option Nat->Str
 | none=>"sea"
 | some d=>(h.pl d).nm
noncomputable def Hs.Nv (h:Hs):Option (Nat×Nat×Int)->D
 | none=>.non
 | some (to,dl,m)=>.tup [.str (h.pl to).nm,.int dl,.int m]
noncomputable def Hs.encP (h:Hs) (p:Pl):D:=match p.kd with
 | .basin b r q=>.tup [.str "basin",.str p.nm,.str (h.dnT p.dn),.int p.dl,.int b,.tup (r.map Ej),h.Nv q]
 | .town a b=>.tup [.str "town",.str p.nm,.str (h.dnT p.dn),.int p.dl,.int a,.int b]
 | .mill a=>.tup [.str "mill",.str p.nm,.str (h.dnT p.dn),.int p.dl,.int a]
def Hs.Hf (h:Hs):List D:=h.ps.map h.encP
def Hs.enc (h:Hs):D:=.tup [.int h.yr,.tup h.Hf]
noncomputable def Good:Int->List Stp->Prop
 | _,[]=>True
 | t,s::r=>t<=s.h/\1<=s.m/\Good (s.h + s.m) r
structure GoodH (h:Hs):Prop where
 yr:0 < h.yr
 len:h.n<=12
 inj:∀i j,i < h.n->j < h.n->(h.pl i).nm=(h.pl j).nm->i=j
 sea:∀i,i < h.n->(h.pl i).nm≠"sea"
 dn:∀k d,k < h.n->(h.pl k).dn=some d->k < d/\d < h.n
 dl:∀k,k < h.n->(h.pl k).dl<=5
 pump:∀k b r to dl m,k < h.n->(h.pl k).kd=.basin b r (some (to,dl,m))->to < h.n/\1<=dl/\dl<=5
 brim:∀k b r q,k < h.n->(h.pl k).kd=.basin b r q->0<=b/\∀s∈r,Good 0 s.2
 town:∀k a b,k < h.n->(h.pl k).kd=.town a b->0<=a/\0<=b
theorem Hs.Ob:h.Hf.length=h.n:=by simp [Hs.Hf,Hs.n]
theorem Hs.ZCn (hk:k < h.n):h.Hf[k]? =some (h.encP (h.pl k)):=by unfold Hs.Hf Hs.pl;rw [zk,zQ hk];simp [zj,zQ hk]
theorem Hs.Fj (hk:k < h.n):atI h.Hf (k:Int)=some (h.encP (h.pl k)):=Gg rfl (Hs.ZCn hk)
theorem Hs.ZPm {n:Nat} {q:Option (Nat×Nat×Int)}:bel n (h.Nv q)=true:=by
 cases q with
 | none=>rfl
 | some x=>obtain ⟨a,b,c⟩:=x;simp [Hs.Nv]
@[simp] theorem Hs.ZNI {n:Nat} {p:Pl}:bel n (h.encP p)=true:=by
 unfold Hs.encP
 cases p.kd <;> simp [Hs.ZPm]
section
variable {h:Hs} {p:Pl} {G:DH}
@[simp] theorem encP0:Ah (h.encP p) (.int 0) G=.ok (.str p.kd.txt) G:=by
 unfold Hs.encP
 cases p.kd <;> simp [Kd.txt]
@[simp] theorem encP1:Ah (h.encP p) (.int 1) G=.ok (.str p.nm) G:=by
 unfold Hs.encP
 cases p.kd <;> simp
@[simp] theorem encP2:Ah (h.encP p) (.int 2) G=.ok (.str (h.dnT p.dn)) G:=by
 unfold Hs.encP
 cases p.kd <;> simp
@[simp] theorem encP3:Ah (h.encP p) (.int 3) G=.ok (.int p.dl) G:=by
 unfold Hs.encP
 cases p.kd <;> simp
theorem Eg:Ah h.enc (.int 1) G=.ok (.tup h.Hf) G:=by unfold Hs.enc;simp
theorem ZKa:Ah h.enc (.int 0) G=.ok (.int h.yr) G:=by unfold Hs.enc;simp
theorem Pr {k:Kd}:(k.txt="basin")=(k.isB=true):=by cases k <;> simp [Kd.txt,Kd.isB] <;> decide
theorem Yu {k:Kd}:(k.txt="town")=(k.isT=true):=by cases k <;> simp [Kd.txt,Kd.isT] <;> decide
end
theorem ZF2 (g:GoodH h) (hd:d < h.n) :∀(m k:Nat) (a b:Option D),k + m=d->
  Bx (Bq 2 (An (gV 2) (An (gV 3) Bs))) Pk ((Dz h.Hf).drop k) [some h.enc,some (.str (h.pl d).nm),a,b] G=.rt (.int d) G
 | m,k,a,b,e=>by
  have hk:k < h.n:=by lia
  have e0:(Dz h.Hf).drop k=.tup [.int k,h.encP (h.pl k)]::(Dz h.Hf).drop (k + 1):=by rw [zN (by rw [Ko,Hs.Ob];exact hk)];have:=Hs.ZCn hk;rw [zQ (by rw [Hs.Ob];exact hk)] at this;have e2:=Option.some.inj this;simp [Dz,e2]
  rw [e0,Et];cases m with
  | zero=>
   have e1:k=d:=by lia
   subst e1;have hb:Pk [some h.enc,some (.str (h.pl k).nm),some (.int k),some (h.encP (h.pl k))] G=.rt (.int k) G:=by unfold Pk;simp
   simp [hb]
  | succ m=>
   have hne:(h.pl k).nm≠(h.pl d).nm:=λz=>by have:=g.inj k d hk hd z;lia
   have hb:Pk [some h.enc,some (.str (h.pl d).nm),some (.int k),some (h.encP (h.pl k))] G=.nx [some h.enc,some (.str (h.pl d).nm),some (.int k),some (h.encP (h.pl k))] G:=by unfold Pk;simp [hne]
   simp [hb];exact ZF2 g hd m (k + 1) _ _ (by lia)
theorem ZFb (g:GoodH h) (hd:d < h.n) (G:DH):S6 [h.enc,.str (h.pl d).nm] G=.ok (.int d) G:=by have hL:=ZF2 g hd (G:=G) d 0 none none (by lia);rw [xV] at hL;unfold S6 ZG2;rw [By];simp [Eg,Iv,Lk,lenOf,hL,Cy]
def Hs.dn (h:Hs) (k:Nat):Option Nat:=(h.pl k).dn
theorem Oa (g:GoodH h) (hk:k < h.n) (G:DH):U5 [h.enc,.int k] G=.ok (dnD (h.dn k)) G:=by
 unfold U5 ZGz;rw [By];cases hd:h.dn k with
 | none=>
  have e:(h.pl k).dn=none:=hd;simp [Eg,Hs.Fj hk,e,Hs.dnT,dnD,Cy]
 | some d=>
  have e:(h.pl k).dn=some d:=hd;have hl:=g.dn k d hk e;simp [Eg,Hs.Fj hk,e,Hs.dnT,g.sea d hl.2,ZFb g hl.2,dnD,Cy]
noncomputable def Hs.dir (h:Hs) (k:Nat):Option Nat:=match h.dn k with
 | none=>none
 | some d=>if 0 < (h.pl k).dl∨(h.pl k).kd.isB=true∨(h.pl d).kd.isB=true then none else some d
theorem Qe (g:GoodH h) (hk:k < h.n) (G:DH):Rz [h.enc,.int k] G=.ok (dnD (h.dir k)) G:=by
 unfold Rz ZJn;rw [By];cases hd:h.dn k with
 | none=>simp [Eg,Oa g hk,hd,Hs.dir,dnD,Cy]
 | some d=>
  have hl:=g.dn k d hk hd;by_cases h1:0 < (h.pl k).dl
  ·simp [Eg,Oa g hk,hd,Hs.dir,dnD,Cy,Hs.Fj hk,h1]
  ·by_cases h2:(h.pl k).kd.isB=true
   ·simp [Eg,Oa g hk,hd,Hs.dir,dnD,Cy,Hs.Fj hk,h1,Pr,h2]
   ·by_cases h3:(h.pl d).kd.isB=true
    ·simp [Eg,Oa g hk,hd,Hs.dir,dnD,Cy,Hs.Fj hk,Hs.Fj hl.2,h1,Pr,h2,h3]
    ·simp [Eg,Oa g hk,hd,Hs.dir,dnD,Cy,Hs.Fj hk,Hs.Fj hl.2,h1,Pr,h2,h3]
theorem ZPy (g:GoodH h) (hk:k < h.n) (e:h.dir k=some d):k < d/\d < h.n:=by
 unfold Hs.dir at e;cases hd:h.dn k with
 | none=>rw [hd] at e;cases e
 | some d'=>
  rw [hd] at e;simp only at e;split at e
  ·cases e
  ·cases e;exact g.dn k d hk hd
noncomputable def number (x cell:Int):Int:=if x % 4=0 then 0 else if x % 4=1/\2147483647 < x then x / 4 % 10 ^ 38 else if x % 4=1 then cell * (x / 4 + 2) % 10 ^ 38 else x / 4 % 40
theorem Nh (hx:0<=x):Jv [.int x,.int cell] G=.ok (.int (number x cell)) G:=by
 unfold Jv ZEr number;rw [By];by_cases h0:x % 4=0
 ·simp [h0,Cy]
 by_cases h1:x % 4=1
 ·by_cases h2:2147483647 < x
  ·simp [h1,h2,Cy]
  ·simp [h1,h2];rw [Ys (by lia) (by lia)];simp [Cy]
 ·simp [h0,h1,Cy]
theorem Ou:0<=number x cell:=by
 unfold number;split
 ·lia
 split
 ·exact qA _ (by decide)
 split
 ·exact qA _ (by decide)
 ·lia
noncomputable def strm:Nat->Int->Int->Int->List Int
 | 0,_,_,_=> []
 | n + 1,j,num,left=>(if 0 < left then left % 10 ^ 42 else (num * num + 48271 * j + 11) % 2147483647)::strm n (j + 1) ((num * num + 48271 * j + 11) % 2147483647) (left / 10 ^ 42)
theorem ZHB:∀{n:Nat} {j num left:Int},(strm n j num left).length=n
 | 0,_,_,_=>rfl
 | n + 1,_,_,_=>by simp [strm,ZHB]
theorem ZF0:∀{n:Nat} {j num left:Int},∀x∈strm n j num left,0<=x
 | 0,_,_,_,x,h=>by cases h
 | n + 1,j,num,left,x,h=>by
  simp only [strm,zx] at h;rcases h with rfl | h
  ·split
   ·exact qA _ (by decide)
   ·exact qA _ (by decide)
  ·exact ZF0 x h
theorem ZJp {c k m:D} {G:DH}:∀{n:Nat} {j num left:Int} {acc:List Int} {e:Option D},0<=num->num < 2147483647->0<=j->acc.length + n<=1000->∃a b d,Bx (gV 6) ZAS (Dc j n) [some c,some k,some m,some (.int num),some (.int left),some (.ref G.length),e] (G++ [.lst (acc.map D.int)])=
  .nx [some c,some k,some m,a,b,some (.ref G.length),d] (G++ [.lst ((acc++strm n j num left).map D.int)])
 | 0,j,num,left,acc,e,h1,h2,h3,h4=>⟨some (.int num),some (.int left),e,by rw [M5,Fy];simp [strm]⟩
 | n + 1,j,num,left,acc,e,h1,h2,h3,h4=>by
  obtain ⟨a,b,d,ih⟩:=ZJp (c:=c) (k:=k) (m:=m) (G:=G) (n:=n) (j:=j + 1) (num:=(num * num + 48271 * j + 11) % 2147483647) (left:=left / 10 ^ 42) (acc:=acc++ [if 0 < left then left % 10 ^ 42 else (num * num + 48271 * j + 11) % 2147483647]) (e:=some (.int j)) (qA _ (by decide)) (qT _ (by decide)) (by lia) (by simp;lia);refine ⟨a,b,d,?_⟩;have hb:ZAS [some c,some k,some m,some (.int num),some (.int left),some (.ref G.length),some (.int j)] (G++ [.lst (acc.map D.int)])=
    .nx [some c,some k,some m,some (.int ((num * num + 48271 * j + 11) % 2147483647)),some (.int (left / 10 ^ 42)),some (.ref G.length),some (.int j)] (G++ [.lst ((acc++ [if 0 < left then left % 10 ^ 42 else (num * num + 48271 * j + 11) % 2147483647]).map D.int)]):=by
   have hl:acc.length < 1000000:=by lia
   unfold ZAS
   by_cases hl0:0 < left <;> simp [M6 (i:=num) (j:=num) (by lia) (by lia),Dr,Do,hl0,hl,Fg]
  rw [Ku,Et];simp only [Es,R.El,q9,hb,Ew,ih];simp [strm]
theorem Qw {xs:List α} {a:Nat} (h:a<=xs.length):cutD xs none (some (a:Int))=xs.take a:=by
 have:=(Mp xs.length (a:Int)).1;have e:HT.sIx xs.length xs.length (some (a:Int))=a:=by lia
 unfold cutD;rw [e];simp [HT.sIx]
theorem Wn {xs:List α} {a:Nat} (h:a<=xs.length):cutD xs (some (a:Int)) none=xs.drop a:=by
 have:=(Mp xs.length (a:Int)).2;have e:HT.sIx xs.length 0 (some (a:Int))=a:=by lia
 unfold cutD;rw [e];simp only [HT.sIx];exact jI (by simp)
theorem ZCi {n:Nat} {F:Nat->D} (h:∀k:Nat,k < n->te (S.set 0 (some (.int k))) G=.ok (F k) G):Cp (gV 0) Bj te S (Dc 0 n) G=.ok ((zX n).map F) G:=by
 have e:Dc 0 n=(zX n).map λ(i:Nat)=>D.int (i:Int):=by
  refine j7 λi=> ?_
  simp [Dc]
 rw [Wf (F:=λd=>match d with | .int i=>some (F i.toNat) | _=>none) (λq hq=> ?_)]
 ·congr 1
  rw [e,qZ];show (zX n).filterMap (λ(i:Nat)=>some (F ((i:Int).toNat)))=_;rw [qY];simp
 ·rw [e] at hq;obtain ⟨i,hi,rfl⟩:=zF.mp hq;exact ⟨S.set 0 (some (.int i)),by simp,.inr ⟨rfl,F i,h i (qX.mp hi),by simp⟩⟩
noncomputable def Em (cell k:Int) (n:Nat):List Int:=strm n 0 ((cell % 999999937 + 2) * (7919 * k * k + 48271) % 2147483647) (if cell < 0∨10 ^ 18<=cell then max cell (-cell) else 0)
theorem ZAJ {k:Int} {n:Nat}:(Em cell k n).length=n:=ZHB
theorem Zo {k:Int} {n:Nat}:∀x∈Em cell k n,0<=x:=λx h=>ZF0 x h
theorem ZJ3 {k:Int} {n:Nat} (hk:0<=k/\k < 100) (hn:n<=1000) (G:DH):J0 [.int cell,.int k,.int n] G=.ok (.ref G.length) (G++ [.lst ((Em cell k n).map D.int)]):=by
 have hr:inR (n:Int):=Gz (by lia) (by lia);have h3:0<=7919 * k * k:=Int.mul_nonneg (by lia) (by lia);have h2:7919 * k * k<=791900 * 100:=Int.le_trans (Int.mul_le_mul_of_nonneg_right (c:=k) (by lia:7919 * k<=791900) (by lia)) (Int.mul_le_mul_of_nonneg_left (by lia) (by lia));have hnum:(cell % 999999937 + 2) * (7919 * k * k + 48271) % 2147483647 < 2147483647:=qT _ (by decide)
 obtain ⟨a,b,d,h⟩:=ZJp (c:=.int cell) (k:=.int k) (m:=.int n) (G:=G) (n:=n) (j:=0) (num:=(cell % 999999937 + 2) * (7919 * k * k + 48271) % 2147483647) (left:=if cell < 0∨10 ^ 18<=cell then max cell (-cell) else 0) (acc:= []) (e:=none) (qA _ (by decide)) hnum (by lia) (by simp;lia);unfold Em J0 ZJF;rw [By];simp at h;simp [M6 (i:=7919 * k) (j:=k) (by lia) (by lia),Ys (i:=cell % 999999937 + 2) (j:=7919 * k * k + 48271) (by lia) (by lia),ZM3,ZMq,ZQU,ite_int,Fe,hr,h]
theorem Zg {k:Int} {n:Nat} (hk:0<=k/\k < 100) (hn:n<=1000) (G:DH):freeze G (J0 [.int cell,.int k,.int n] G)=.ok (.fl ((Em cell k n).map D.int)) G:=by rw [ZJ3 hk hn];exact Do Gp
def gx (xs:List Int) (i:Nat):Int:=xs.getD i 0
theorem Ex (h:i < xs.length):atI (xs.map D.int) (i:Int)=some (.int (gx xs i)):=Gg rfl (by rw [zk,zQ h];simp [gx,zj,h])
theorem Qn (hx:∀x∈xs,0<=x) (i:Nat):0<=gx xs i:=by
 unfold gx;rw [zj];by_cases h:i < xs.length
 ·rw [zQ h];exact hx _ (zM h)
 ·rw [z0 (by lia)];exact qV _
theorem Sd {a b:Nat} (hab:a<=b) (hb:b<=xs.length):cutD (xs.map D.int) (some (a:Int)) (some (b:Int))=((xs.drop a).take (b - a)).map D.int:=by
 have h1:=(Mp (xs.map D.int).length (a:Int)).2;have h2:=(Mp (xs.map D.int).length (b:Int)).1;have l:(xs.map D.int).length=xs.length:=by simp
 have e1:HT.sIx (xs.map D.int).length 0 (some (a:Int))=a:=by lia
 have e2:HT.sIx (xs.map D.int).length (xs.map D.int).length (some (b:Int))=b:=by lia
 unfold cutD;rw [e1,e2,List.map_take,List.map_drop]
noncomputable def stF (xs:List Int) (big:Int) (p:Bool):Nat->Nat->Int->List Stp
 | 0,_,_=> []
 | n + 1,j,top=>⟨top + number (gx xs (1 + 2 * j)) big,1 + number (gx xs (2 + 2 * j)) big, !(p && decide (gx xs (2 + 2 * j) / 160 % 2=0))⟩::stF xs big p n (j + 1) (top + number (gx xs (1 + 2 * j)) big + (1 + number (gx xs (2 + 2 * j)) big))
theorem ZIg {xs:List Int} {big:Int} {p:Bool} {G:DH} (hx:∀x∈xs,0<=x):∀(n j:Nat) (top:Int) (acc:List Stp) (a b d e:Option D),2 * (j + n) < xs.length->acc.length + n<=1000->∃a' b' d' e' t',Bx (gV 5) Zv (Dc j n) [some (.fl (xs.map D.int)),some (.int big),some (.bl p),some (.ref G.length),some (.int top),a,b,d,e] (G++ [.lst (acc.map Stp.enc)])=
  .nx [some (.fl (xs.map D.int)),some (.int big),some (.bl p),some (.ref G.length),t',a',b',d',e'] (G++ [.lst ((acc++stF xs big p n j top).map Stp.enc)])
 | 0,j,top,acc,a,b,d,e,h1,h2=>⟨a,b,d,e,some (.int top),by rw [M5,Fy];simp [stF]⟩
 | n + 1,j,top,acc,a,b,d,e,h1,h2=>by
  have x0:=Qn hx (1 + 2 * j);have x1:=Qn hx (2 + 2 * j);have a0:atI (xs.map D.int) (1 + 2 * (j:Int))=some (.int (gx xs (1 + 2 * j))):=by have:=Ex (xs:=xs) (i:=1 + 2 * j) (by lia);rwa [show ((1 + 2 * j:Nat):Int)=1 + 2 * (j:Int) by lia] at this
  have a1:atI (xs.map D.int) (2 + 2 * (j:Int))=some (.int (gx xs (2 + 2 * j))):=by have:=Ex (xs:=xs) (i:=2 + 2 * j) (by lia);rwa [show ((2 + 2 * j:Nat):Int)=2 + 2 * (j:Int) by lia] at this
  unfold stF;generalize gx xs (1 + 2 * j)=u0 at *;generalize gx xs (2 + 2 * j)=u1 at *;obtain ⟨a',b',d',e',t',ih⟩:=ZIg (big:=big) (p:=p) (G:=G) hx n (j + 1) (top + number u0 big + (1 + number u1 big)) (acc++ [⟨top + number u0 big,1 + number u1 big, !(p && decide (u1 / 160 % 2=0))⟩]) (some (.int j)) (some (.int (top + number u0 big))) (some (.int (1 + number u1 big))) (some (.str (wy (!(p && decide (u1 / 160 % 2=0)))))) (by lia) (by simp;lia)
  refine ⟨a',b',d',e',t',?_⟩;have hb:Zv [some (.fl (xs.map D.int)),some (.int big),some (.bl p),some (.ref G.length),some (.int top),some (.int j),b,d,e] (G++ [.lst (acc.map Stp.enc)])=
    .nx [some (.fl (xs.map D.int)),some (.int big),some (.bl p),some (.ref G.length),some (.int (top + number u0 big + (1 + number u1 big))),some (.int j),some (.int (top + number u0 big)),some (.int (1 + number u1 big)),some (.str (wy (!(p && decide (u1 / 160 % 2=0)))))] (G++ [.lst ((acc++ [(⟨top + number u0 big,1 + number u1 big, !(p && decide (u1 / 160 % 2=0))⟩:Stp)]).map Stp.enc)]):=by
   have hl:acc.length < 1000000:=by lia
   have m2:∀G,Dm (.int 2) (.int (j:Int)) G=.ok (.int (2 * (j:Int))) G:=λG=>M6 (by lia) (by lia)
   unfold Zv;cases p with
   | false=>simp [m2,a0,a1,Nh x0,Nh x1,Dr,hl,Fg,Stp.enc,wy]
   | true=>by_cases hz:u1 / 160 % 2=0 <;> simp [m2,a0,a1,Nh x0,Nh x1,Dr,hl,Fg,Stp.enc,wy,hz]
  rw [Ku,Et];simp only [Es,R.El,q9,hb,Ew];have e1:((j:Int) + 1)=((j + 1:Nat):Int):=by lia
  rw [e1,ih];simp
theorem ZLY (hx:∀x∈xs,0<=x) (hl:xs.length=7) (G:DH):Xv [.fl (xs.map D.int),.int big,.bl p] G=.ok (.tup ((stF xs big p (gx xs 0 % 4).toNat 0 0).map Stp.enc)) G:=by have a0:atI (xs.map D.int) 0=some (.int (gx xs 0)):=Ex (i:=0) (by lia);obtain ⟨n,hn⟩:∃n:Nat,gx xs 0 % 4=n:=⟨(gx xs 0 % 4).toNat,by lia⟩;obtain ⟨a,b,d,e,t,h⟩:=ZIg (big:=big) (p:=p) (G:=G) hx n 0 0 [] none none none none (by lia) (by simp;lia);rw [hn];unfold Xv ZFm;rw [By];have hr:inR (n:Int):=Gz (by lia) (by lia);simp at h;simp [a0,hn,Fe,hr,h,Dr,Xr]
noncomputable def ruF (xs:List Int) (big yr:Int) (p:Bool):Nat->Nat->Int->List Ssn
 | 0,_,_=> []
 | m + 1,j,b=>if j=0∨(0 < gx xs j % 3/\b < yr) then (b,stF ((xs.drop (3 + 7 * j)).take 7) big p (gx ((xs.drop (3 + 7 * j)).take 7) 0 % 4).toNat 0 0)::ruF xs big yr p m (j + 1) (b + 1 + gx xs j / 3 % 9) else ruF xs big yr p m (j + 1) b
theorem ZC9 {xs:List Int} {big yr:Int} {p:Bool} {G:DH} (hx:∀x∈xs,0<=x) (hl:xs.length=24):∀(m j:Nat) (b:Int) (acc:List Ssn) (x:Option D),j + m=3->acc.length + m<=1000->∃b' x',Bx (gV 6) Qo (Dc j m) [some (.fl (xs.map D.int)),some (.int big),some (.int yr),some (.bl p),some (.ref G.length),some (.int b),x] (G++ [.lst (acc.map Ej)])=
  .nx [some (.fl (xs.map D.int)),some (.int big),some (.int yr),some (.bl p),some (.ref G.length),b',x'] (G++ [.lst ((acc++ruF xs big yr p m j b).map Ej)])
 | 0,j,b,acc,x,e,h2=>⟨some (.int b),x,by rw [M5,Fy];simp [ruF]⟩
 | m + 1,j,b,acc,x,e,h2=>by
  have e1:((j:Int) + 1)=((j + 1:Nat):Int):=by lia
  have a0:atI (xs.map D.int) (j:Int)=some (.int (gx xs j)):=Ex (by lia);have m7:∀G,Dm (.int 7) (.int (j:Int)) G=.ok (.int (7 * (j:Int))) G:=λG=>M6 (by lia) (by lia)
  have cu:cutD (xs.map D.int) (some (3 + 7 * (j:Int))) (some (10 + 7 * (j:Int)))=((xs.drop (3 + 7 * j)).take 7).map D.int:=by have:=Sd (xs:=xs) (a:=3 + 7 * j) (b:=10 + 7 * j) (by lia) (by lia);rwa [show ((3 + 7 * j:Nat):Int)=3 + 7 * (j:Int) by lia,show ((10 + 7 * j:Nat):Int)=10 + 7 * (j:Int) by lia,show 10 + 7 * j - (3 + 7 * j)=7 by lia] at this
  have cs:=λG=>ZLY (xs:=(xs.drop (3 + 7 * j)).take 7) (big:=big) (p:=p) (λx h=>hx x (qF (qG h))) (by simp;lia) G
  have hal:acc.length < 1000000:=by lia
  unfold ruF;generalize ((xs.drop (3 + 7 * j)).take 7)=zs at *;generalize stF zs big p (gx zs 0 % 4).toNat 0 0=st at *;have fz:∀A:DO,freeze (G++ [A]) (.ok (.ref (G.length + 1)) (G++ [A,.lst (zs.map D.int)]))=.ok (.fl (zs.map D.int)) (G++ [A]):=λA=>Xh Gp
  by_cases hc:j=0∨(0 < gx xs j % 3/\b < yr)
  ·rw [if_pos hc];obtain ⟨b',x',ih⟩:=ZC9 (big:=big) (yr:=yr) (p:=p) (G:=G) hx hl m (j + 1) (b + 1 + gx xs j / 3 % 9) (acc++ [(b,st)]) (some (.int j)) (by lia) (by simp;lia);refine ⟨b',x',?_⟩;have hb:Qo [some (.fl (xs.map D.int)),some (.int big),some (.int yr),some (.bl p),some (.ref G.length),some (.int b),some (.int j)] (G++ [.lst (acc.map Ej)])=
     .nx [some (.fl (xs.map D.int)),some (.int big),some (.int yr),some (.bl p),some (.ref G.length),some (.int (b + 1 + gx xs j / 3 % 9)),some (.int j)] (G++ [.lst ((acc++ [(b,st)]).map Ej)]):=by
    unfold Qo;rcases hc with h0 | ⟨h3,h4⟩
    ·have h0':(j:Int)=0:=by lia
     subst h0;simp at cu m7 a0;simp [m7,a0,cu,fz,cs,Dr,hal,Fg,Ej]
    ·by_cases h0:j=0
     ·subst h0;simp at cu m7 a0;simp [m7,a0,cu,fz,cs,Dr,hal,Fg,Ej]
     ·have h0':¬(j:Int)=0:=by lia
      simp [h0,h0',h3,h4,m7,a0,cu,fz,cs,Dr,hal,Fg,Ej]
   rw [Ku,Et];simp only [Es,R.El,q9,hb,Ew];rw [e1,ih];simp
  ·rw [if_neg hc];obtain ⟨b',x',ih⟩:=ZC9 (big:=big) (yr:=yr) (p:=p) (G:=G) hx hl m (j + 1) b acc (some (.int j)) (by lia) (by lia);refine ⟨b',x',?_⟩;have hb:Qo [some (.fl (xs.map D.int)),some (.int big),some (.int yr),some (.bl p),some (.ref G.length),some (.int b),some (.int j)] (G++ [.lst (acc.map Ej)])=
     .nx [some (.fl (xs.map D.int)),some (.int big),some (.int yr),some (.bl p),some (.ref G.length),some (.int b),some (.int j)] (G++ [.lst (acc.map Ej)]):=by
    have h0:¬j=0:=λz=>hc (.inl z)
    have h0':¬(j:Int)=0:=by lia
    unfold Qo;by_cases h3:0 < gx xs j % 3
    ·have h4:¬b < yr:=λz=>hc (.inr ⟨h3,z⟩)
     simp [h0,h0',a0,h3,h4]
    ·simp [h0,h0',a0,h3]
   rw [Ku,Et];simp only [Es,R.El,q9,hb,Ew];rw [e1,ih]
theorem ZMU (hx:∀x∈xs,0<=x) (hl:xs.length=24) (G:DH):Vd [.fl (xs.map D.int),.int big,.int yr,.bl p] G=.ok (.tup ((ruF xs big yr p 3 0 0).map Ej)) G:=by obtain ⟨b',x',h⟩:=ZC9 (big:=big) (yr:=yr) (p:=p) (G:=G) hx hl 3 0 0 [] none (by lia) (by simp);have hr:inR 3:=Gz (by lia) (by lia);unfold Vd ZFI;rw [By];simp at h;simp [Fe,hr,h,Dr,Xr]
theorem ZKS:∃s r,ruF xs big yr p 3 0 0=s::r:=by unfold ruF;rw [if_pos (.inl rfl)];exact ⟨_,_,rfl⟩
def pmps (st:List Stp):List Int:=(st.filter λs=> !s.r).map Stp.m
theorem ZNH {b:D} (hst:st.length<=1000) (G:DH):Zx [some b,some (.tup (st.map Stp.enc))] G=.ok (.int (pmps st).sum) G:=by
 have hc:Cp (Bq 3 (An (gV 0) (An (gV 1) (An (gV 2) Bs)))) V7 Yv [none,none,none] (st.map Stp.enc) G=.ok ((pmps st).map D.int) G:=by
  clear hst
  induction st with
  | nil=>rfl
  | cons s st ih=>
   have e0:Stp.enc s=.tup [.int s.h,.int s.m,.str (wy s.r)]:=rfl;have h1:V7 [some (.int s.h),some (.int s.m),some (.str (wy s.r))] G=.ok (!s.r) G:=by
    unfold V7
    cases s.r <;> simp
   have h2:Yv [some (.int s.h),some (.int s.m),some (.str (wy s.r))] G=.ok (.int s.m) G:=by unfold Yv;simp
   rw [zW,Jd,e0];cases hs:s.r
   ·rw [hs] at h1 h2;simp [h1,h2,ih,pmps,hs]
   ·rw [hs] at h1;simp [h1,ih,pmps,hs]
 have fz:freeze G (.ok (.ref G.length) (G++ [.lst ((pmps st).map D.int)]))=.ok (.fl ((pmps st).map D.int)) G:=Do Gp;have hcs:∀S:DSt,Bd 3 [] S= [none,none,none]:=λS=>rfl
 unfold Zx;have hl:(pmps st).length<=1000000:=by
  have:(pmps st).length<=st.length:=by unfold pmps;rw [zG];exact j8 _ _
  lia
 simp [hcs,hc,hl,fz]
theorem ZFk:∀(n j:Nat) (top:Int),(stF xs big p n j top).length=n
 | 0,j,top=>rfl
 | n + 1,j,top=>by simp [stF,ZFk n]
theorem ZEJ {xs:List Int} {big yr:Int} {p:Bool}:∀(m j:Nat) (b:Int),(ruF xs big yr p m j b).length<=m/\∀s∈ruF xs big yr p m j b,s.2.length<=1000
 | 0,j,b=>⟨zK _,λs h=>by cases h⟩
 | m + 1,j,b=>by
  unfold ruF;split
  ·have ih:=ZEJ (xs:=xs) (big:=big) (yr:=yr) (p:=p) m (j + 1) (b + 1 + gx xs j / 3 % 9);refine ⟨by simp [ih.1],λs h=> ?_⟩;rcases zx.mp h with rfl | h
   ·show (stF _ _ _ _ _ _).length<=1000;rw [ZFk];lia
   ·exact ih.2 s h
  ·have ih:=ZEJ (xs:=xs) (big:=big) (yr:=yr) (p:=p) m (j + 1) b;exact ⟨by lia,ih.2⟩
theorem ZJS {E X Y F:α->D} (hE:∀a,E a=.tup [X a,Y a]):∀{l:List α},(∀a∈l,te [some (X a),some (Y a)] G=.ok (F a) G)->Cp (Bq 2 (An (gV 0) (An (gV 1) Bs))) Bj te [none,none] (l.map E) G=.ok (l.map F) G
 | [],_=>rfl
 | a::l,h=>by
  have ih:=ZJS hE (l:=l) λb hb=>h b (zZ _ hb)
  rw [zW,Jd,hE];simp [h a (by simp),ih]
theorem ZQv (hr:r.length<=1000) (h:∀s∈r,s.2.length<=1000) (hne:∃s r',r=s::r'):∃v:Int,∀G,Wl [.tup (r.map Ej)] G=.ok (.int v) G:=by
 obtain ⟨s,r',rfl⟩:=hne;refine ⟨(r'.map λs=>(pmps s.2).sum).foldl max (pmps s.2).sum,λG=> ?_⟩;have hc:Cp (Bq 2 (An (gV 0) (An (gV 1) Bs))) Bj Zx [none,none] ((s::r').map Ej) G=.ok (((s::r').map λs=>(pmps s.2).sum).map D.int) G:=by rw [zS];exact ZJS (X:=λs:Ssn=>.int s.1) (Y:=λs:Ssn=>.tup (s.2.map Stp.enc)) (F:=D.int ∘ λs:Ssn=>(pmps s.2).sum) (λ_=>rfl) λa ha=>ZNH (h a ha) G
 have hl:((s::r').map λs=>(pmps s.2).sum).length<=1000000:=by rw [zG];lia
 have hm:R7 [.fl (((s::r').map λs=>(pmps s.2).sum).map D.int)] G=.ok (.int ((r'.map λs=>(pmps s.2).sum).foldl max (pmps s.2).sum)) G:=ZMy (by rw [zW];rfl);have fz:freeze G (.ok (.ref G.length) (G++ [.lst (((s::r').map λs=>(pmps s.2).sum).map D.int)]))=.ok (.fl (((s::r').map λs=>(pmps s.2).sum).map D.int)) G:=Do Gp;have hcs:∀S:DSt,Bd 2 [] S= [none,none]:=λS=>rfl
 generalize ((s::r').map λs=>(pmps s.2).sum)=zs at *;generalize (s::r').map Ej=rs at *;unfold Wl ZGL;rw [By];simp [hcs,hc,hl,fz,hm,Cy]
theorem ZPk (hx:0<=x):∃v:Int,∀G,Uo [.int x] G=.ok (.int v) G:=by
 by_cases h:2147483647 < x
 ·have m:=λG=>Ys (i:=x / 2 % 100000000000000000000000000000000000000) (j:=x % 2) (G:=G) (by lia) (by lia)
  exact ⟨_,λG=>by
   unfold Uo ZCV;rw [By];simp [h,m,Cy]
   rfl⟩
 ·have m:=λG=>Ys (i:=x % 50) (j:=x / 50 % 2) (G:=G) (by lia) (by lia)
  exact ⟨_,λG=>by
   unfold Uo ZCV;rw [By];simp [h,m,Cy]
   rfl⟩
def Ar (l:List Nat):Str:=⟨l.toArray⟩
theorem ZLC:Ar l++Ar l'=Ar (l++l'):=by show Str.append _ _=_;unfold Str.append Ar;simp
def Ox:List Nat:=("abcdefghijklmnopqrstuvwxyz":Str).cps.toList
theorem ZQc:∀i,i < 26->Ox[i]? =some (97 + i):=by decide +kernel
theorem ZLZ:("abcdefghijklmnopqrstuvwxyz":Str).length<=1000000:=by decide +kernel
theorem Vr {i:Int} (h0:0<=i) (h1:i < 26) (G:DH):Ah (.str ("abcdefghijklmnopqrstuvwxyz":Str)) (.int i) G=.ok (.str (Ar [97 + i.toNat])) G:=by
 rw [Mu,if_pos ZLZ]
 show (match atI Ox i with | some c=>R.ok (sgn c) G | none=>.bad)=_
 rw [Gg (k:=i.toNat) (by lia) (ZQc _ (by lia))]
 rfl
theorem add_str (h:l.length + l'.length<=1000000) (G:DH):Av (.str (Ar l)) (.str (Ar l')) G=.ok (.str (Ar (l++l'))) G:=by
 have e:Av (.str (Ar l)) (.str (Ar l')) G=if (Ar l).length + (Ar l').length<=1000000 then .ok (.str (Ar l++Ar l')) G else .bad:=rfl
 rw [e,if_pos (by show l.toArray.size + l'.toArray.size<=1000000;simpa using h),ZLC]
theorem Lr {lo hi:Option Int} (h:l.length<=1000000) (G:DH):K9 (.str (Ar l)) lo hi G=.ok (.str (Ar (cutD l lo hi))) G:=by
 rw [N7,if_pos (by show l.toArray.size<=1000000;simpa using h)]
 rfl
theorem ZKn {c:Nat} (h:(c::l).length<=1000000) (G:DH):Ah (.str (Ar (c::l))) (.int 0) G=.ok (.str (Ar [c])) G:=by
 rw [Mu,if_pos (by show (c::l).toArray.size<=1000000;simpa using h)]
 show (match atI (c::l) 0 with | some c=>R.ok (sgn c) G | none=>.bad)=_
 have h0:atI (c::l) (0:Int)=some c:=Gg (k:=0) rfl rfl;rw [h0]
 rfl
theorem Oq {x:Str} (G:DH):freeze G (.ok (.str x) G)=.ok (.str x) G:=ZBh rfl
theorem Ks {l:List Str}:bels m (l.map D.str)=true:=Ft λ_ _=>rfl
theorem pigeon [DecidableEq α]:∀(zs l:List α),zs.Nodup->l.length < zs.length->∃z,z∈zs/\z ∉ l
 | [],l,_,h=>by simp at h
 | z::zs,l,hn,h=>by
  by_cases hz:z∈l
  ·have hn':=qD.mp hn;have hl:(l.erase z).length=l.length - 1:=List.length_erase_of_mem hz;have hp:0 < l.length:=j4 hz;obtain ⟨y,hy,hny⟩:=pigeon zs (l.erase z) hn'.2 (by simp only [zP] at h;lia);have hne:y≠z:=λe=>hn'.1 (e ▸ hy)
   exact ⟨y,zZ _ hy,λhm=>hny ((List.mem_erase_of_ne hne).mpr hm)⟩
  ·exact ⟨z,by simp,hz⟩
def zsL:List Str:=Ox.map λc=>Ar [122,c]
theorem ZQq:zsL.Nodup:=by decide +kernel
theorem Qh:zsL.length=26:=by decide +kernel
theorem ZPs:∀z∈zsL,z≠"sea":=by decide +kernel
theorem ZJC:∀l:List Str,Lh (l.map D.str)=some (l.map V.str)
 | []=>rfl
 | a::l=>by
  rw [zW,Lh,ZJC l]
  rfl
theorem ZFU (x:Str):∀l:List Str,inV (.str x) (l.map V.str)=decide (x∈l)
 | []=>by simp [inV]
 | a::l=>by
  show (eqV (.str a) (.str x) || inV (.str x) (l.map V.str))=_;rw [ZFU x l];show ((a == x) || decide (x∈l))=_;by_cases e:a=x
  ·subst e;simp
  ·have e2:¬x=a:=λz=>e z.symm
   simp [e,e2]
theorem ZJ6 {x:Str} {l:List Str} (h:G[i]? =some (.lst (l.map D.str))):U0 (.str x) (.ref i) G=.ok (.bl (!decide (x∈l))) G:=by
 have hs:Bu (.ref i) G=some (l.map D.str):=by simp [h]
 have key:inD (.str x) (.ref i) G=some (decide (x∈l)):=by
  show (match Bu (.ref i) G,Ti (.str x) with | some xs,some v=>(Lh xs).map λvs=>inV v vs | _,_=>none)=_
  rw [hs];show (Lh (l.map D.str)).map (λvs=>inV (.str x) vs)=_;rw [ZJC];show some (inV _ _)=_;rw [ZFU]
 unfold U0;rw [key]
noncomputable def wdF:Nat->Int->List Nat->List Nat
 | 0,_,w=>w
 | m + 1,rest,w=>wdF m (rest / 26) (w++ [97 + (rest % 26).toNat])
theorem ZHC {s0 s2 s3 s7:Option D} {G:DH}:∀(m:Nat) (j rest:Int) (w:List Nat) (x:Option D),w.length + m<=1000->∃r y,Bx (gV 6) We (Dc j m) [s0,some (.str ("abcdefghijklmnopqrstuvwxyz":Str)),s2,s3,some (.str (Ar w)),some (.int rest),x,s7] G=.nx [s0,some (.str ("abcdefghijklmnopqrstuvwxyz":Str)),s2,s3,some (.str (Ar (wdF m rest w))),r,y,s7] G
 | 0,j,rest,w,x,h=>⟨some (.int rest),x,by rw [M5,Fy];rfl⟩
 | m + 1,j,rest,w,x,h=>by
  obtain ⟨r,y,ih⟩:=ZHC (s0:=s0) (s2:=s2) (s3:=s3) (s7:=s7) (G:=G) m (j + 1) (rest / 26) (w++ [97 + (rest % 26).toNat]) (some (.int j)) (by simp;lia);refine ⟨r,y,?_⟩;have hb:We [s0,some (.str ("abcdefghijklmnopqrstuvwxyz":Str)),s2,s3,some (.str (Ar w)),some (.int rest),some (.int j),s7] G=.nx [s0,some (.str ("abcdefghijklmnopqrstuvwxyz":Str)),s2,s3,some (.str (Ar (w++ [97 + (rest % 26).toNat]))),some (.int (rest / 26)),some (.int j),s7] G:=by
   have hi:=λG=>Vr (i:=rest % 26) (by lia) (by lia) G
   have ha:=λG=>add_str (l:=w) (l':= [97 + (rest % 26).toNat]) (by simp;lia) G
   generalize Ar [97 + (rest % 26).toNat]=z at hi ha;generalize ("abcdefghijklmnopqrstuvwxyz":Str)=AB at hi;unfold We;simp [-Mu,-O7,hi,ha]
  rw [Ku,Et];simp only [Es,R.El,q9,hb,Ew];exact ih
theorem ZOy (G:DH):Cp (gV 0) Bj Yd [none] (Ox.map sgn) G=.ok (zsL.map D.str) G:=by
 unfold zsL;rw [zS];generalize Ox=l
 induction l with
 | nil=>rfl
 | cons c l ih=>
  have he:Yd [some (sgn c)] G=.ok (.str (Ar [122,c])) G:=by
   have ha:=add_str (l:= [122]) (l':= [c]) (by simp) G;have e1:Ar [122]=("z":Str):=by decide +kernel
   rw [e1] at ha;have e2:sgn c=.str (Ar [c]):=rfl;unfold Yd;rw [e2];simp [-O7,ha]
  rw [zW,Jd];simp [he,ih]
theorem ZIf {names:List Str} (hG:G[i]? =some (.lst (names.map D.str))):∀l:List Str,Cp (gV 0) Zi Xj [none,some (.ref i)] (l.map D.str) G=.ok ((l.filter λx=>decide (x ∉ names) && decide (x≠"sea")).map D.str) G
 | []=>rfl
 | a::l=>by
  have ih:=ZIf hG l;have h1:=ZJ6 (x:=a) hG;have ht:Zi [some (.str a),some (.ref i)] G=.ok (decide (a ∉ names) && decide (a≠"sea")) G:=by
   unfold Zi;by_cases h:a∈names
   ·simp [h1,h]
   ·by_cases h2:a="sea"
    ·have h3:(a="sea")=True:=by simp [h2]
     simp [h1,h,h3]
    ·simp [h1,h,h2]
  have he:Xj [some (.str a),some (.ref i)] G=.ok (.str a) G:=by unfold Xj;simp
  rw [zW,Jd];simp only [Es,R.J7,q9,ht,he,ih];rw [List.filter_cons]
  cases (decide (a ∉ names) && decide (a≠"sea")) <;> simp
theorem ZQA {names:List Str} (hx:0<=x) (hl:names.length < 26):∃nm:Str,(nm ∉ names/\nm≠"sea")/\∀(G:DH) (s0 x4 x5 x6 x7:Option D),∃y4 y5 y6 y7,
  Yt [s0,some (.str ("abcdefghijklmnopqrstuvwxyz":Str)),some (.ref G.length),some (.int x),x4,x5,x6,x7] (G++ [.lst (names.map D.str)])=
   .nx [s0,some (.str ("abcdefghijklmnopqrstuvwxyz":Str)),some (.ref G.length),some (.int x),y4,y5,y6,y7] (G++ [.lst ((names++ [nm]).map D.str)]):=by
 obtain ⟨m,hm⟩:∃m:Nat,1 + x % 8=m:=⟨(1 + x % 8).toNat,by lia⟩;have hm8:m<=8:=by lia
 obtain ⟨w,ew⟩:∃w:Str,Ar (wdF m (x / 8) [])=w:=⟨_,rfl⟩;obtain ⟨z,hz,hzn⟩:=pigeon zsL names ZQq (by rw [Qh];exact hl);have hne:∃a r,((w::zsL).filter λx=>decide (x ∉ names) && decide (x≠"sea"))=a::r:=by
  have:z∈((w::zsL).filter λx=>decide (x ∉ names) && decide (x≠"sea")):=jB.mpr ⟨zZ _ hz,by simp [hzn,ZPs z hz]⟩;cases e:((w::zsL).filter λx=>decide (x ∉ names) && decide (x≠"sea")) with
  | nil=>rw [e] at this;cases this
  | cons a r=>exact ⟨a,r,rfl⟩
 obtain ⟨a,r,har⟩:=hne;have ha:a ∉ names/\a≠"sea":=by
  have h1:a∈((w::zsL).filter λx=>decide (x ∉ names) && decide (x≠"sea")):=by rw [har];exact zV
  simpa using (jB.mp h1).2
 refine ⟨a,ha,λG s0 x4 x5 x6 x7=> ?_⟩;obtain ⟨r5,y6,hw⟩:=ZHC (s0:=s0) (s2:=some (.ref G.length)) (s3:=some (.int x)) (s7:=x7) (G:=G++ [.lst (names.map D.str)]) m 0 (x / 8) [] x6 (by simp;lia);refine ⟨some (.str w),r5,y6,some (.fl ((w::zsL).map D.str)),?_⟩;have hz0:=λG=>ZOy G
 have hk:=ZIf (names:=names) (i:=G.length) (G:=G++ [.lst (names.map D.str)]) (by rw [Dr];rfl) (w::zsL);rw [har] at hk;have hlow:G8 (.str ("abcdefghijklmnopqrstuvwxyz":Str)) (G++ [DO.lst (names.map D.str)])=.ok (.pure (Ox.map sgn)) (G++ [DO.lst (names.map D.str)]):=rfl;have hzl:(zsL.map D.str).length<=1000000:=by rw [zG,Qh];decide
 have hzl4:1 + (zsL.map D.str).length<=1000000:=by rw [zG,Qh];decide
 have hzl2:zsL.length<=999999:=by rw [Qh];decide
 have hzl3:zsL.length<=1000000:=by rw [Qh];decide
 have e0:Ar []=("":Str):=by decide +kernel
 have fz1:∀ls:List Str,freeze (G++ [.lst (names.map D.str)]) (.ok (.ref (G.length + 1)) (G++ [.lst (names.map D.str),.lst (ls.map D.str)]))=.ok (.fl (ls.map D.str)) (G++ [.lst (names.map D.str)]):=λls=>Xh Ks
 have fza:=fz1 [w];have fzb:=fz1 zsL;have fzc:=fz1 (w::zsL);have fzd:=fz1 (a::r);have hrl:r.length<=1000000/\r.length<=999999:=by
  have h1:(a::r).length<=(w::zsL).length:=by rw [<-har];exact j8 _ _
  simp only [zP,Qh] at h1;lia
 have hnl:names.length < 1000000:=by lia
 have hr:inR (m:Int):=Gz (by lia) (by lia);rw [e0,ew] at hw;have hcs1:∀S:DSt,Bd 1 [] S= [none]:=λS=>rfl
 have hcs2:∀(a b c d e f g h:Option D),Bd 1 [2] [a,b,c,d,e,f,g,h]= [none,c]:=λ_ _ _ _ _ _ _ _=>rfl
 simp only [zW,jJ] at fza fzc fzd hk ⊢;generalize zsL.map D.str=Z at *;generalize ("abcdefghijklmnopqrstuvwxyz":Str)=AB at *;generalize Ox.map sgn=LS at *;unfold Yt;simp [-ZPq,hm,hr,hw,hlow,hcs1,hz0,fza,hzl,fzb,fzc,hcs2,hk,hrl,fzd,Dr,Fg,hnl,hzl4]
theorem ZPM {l:List Str} {a:Str} (h:l.Nodup) (ha:a ∉ l):(l++ [a]).Nodup:=by rw [List.nodup_append];refine ⟨h,by simp,λx hx y hy e=> ?_⟩;rw [qE.mp hy] at e;exact ha (e ▸ hx)
theorem ZJU:∀(xs:List Int) (acc:List Str),(∀x∈xs,0<=x)->acc.length + xs.length < 26->∃nm:List Str,nm.length=xs.length/\(acc.Nodup->(acc++nm).Nodup)/\(∀z∈nm,z≠"sea")/\∀(G:DH) (s0 x3 x4 x5 x6 x7:Option D),∃y3 y4 y5 y6 y7,
  Bx (gV 3) Yt (xs.map D.int) [s0,some (.str ("abcdefghijklmnopqrstuvwxyz":Str)),some (.ref G.length),x3,x4,x5,x6,x7] (G++ [.lst (acc.map D.str)])=
   .nx [s0,some (.str ("abcdefghijklmnopqrstuvwxyz":Str)),some (.ref G.length),y3,y4,y5,y6,y7] (G++ [.lst ((acc++nm).map D.str)])
 | [],acc,_,_=>⟨[],rfl,(λh=>by rw [q8];exact h),(λz hz=>nomatch hz),λG s0 x3 x4 x5 x6 x7=>⟨x3,x4,x5,x6,x7,by rw [jJ,Fy,q8]⟩⟩
 | x::xs,acc,hx,hl=>by
  simp only [zP] at hl;obtain ⟨a,ha0,ha⟩:=ZQA (names:=acc) (x:=x) (hx x (by simp)) (by lia);obtain ⟨nm,hn,hd,hs,ih⟩:=ZJU xs (acc++ [a]) (λy hy=>hx y (zZ _ hy)) (by simp;lia);refine ⟨a::nm,by simp [hn],λh=> ?_,λz hz=> ?_,λG s0 x3 x4 x5 x6 x7=> ?_⟩
  ·have h1:=hd (ZPM h ha0.1);rwa [qx] at h1
  ·rcases zx.mp hz with rfl | hz
   ·exact ha0.2
   ·exact hs z hz
  obtain ⟨z4,z5,z6,z7,hb⟩:=ha G s0 x4 x5 x6 x7;obtain ⟨y3,y4,y5,y6,y7,hL⟩:=ih G s0 (some (.int x)) z4 z5 z6 z7;refine ⟨y3,y4,y5,y6,y7,?_⟩;rw [zW,Et];simp only [Es,R.El,q9,hb,Ew];rw [hL,qx]
  rfl
theorem ZRX (hx:∀x∈xs,0<=x) (hl:xs.length < 26):∃nm:List Str,nm.length=xs.length/\nm.Nodup/\(∀z∈nm,z≠"sea")/\∀G,Ww [.fl (xs.map D.int)] G=.ok (.ref G.length) (G++ [.lst (nm.map D.str)]):=by obtain ⟨nm,hn,hd,hs,h⟩:=ZJU xs [] hx (by simpa using hl);refine ⟨nm,hn,hd List.nodup_nil,hs,λG=> ?_⟩;obtain ⟨y3,y4,y5,y6,y7,hL⟩:=h G (some (.fl (xs.map D.int))) none none none none none;simp only [jJ,qN] at hL;have td:=Fe (G:=G) (ds:=nm.map D.str) (L:= []) Ks;unfold Ww ZIF;rw [By];generalize ("abcdefghijklmnopqrstuvwxyz":Str)=AB at *;simp [Be,Fe,hL,td]
def nmS (l:List Nat):Str:=if Ar l="sea" then "seat" else Ar l
noncomputable def nmF (xs:List Int) (w:List Nat) (sz a:Nat) (k:Nat):List Nat:=cutD w none (some (a:Int))++ [97 + ((gx xs 10 + 5 * (k:Int)) % 26).toNat]++cutD w (some (a:Int)) (some (sz:Int))
theorem ZIs (hxl:xs.length=24) {w:List Nat} (hw:w.length<=1000) {sz a:Nat} {s0 s4 s5:Option D} {G:DH}:∀(m k:Nat) (acc:List Str) (x7 x8 x11:Option D),k + m<=12->acc.length + m<=1000->∃y7 y8 y11,
  Bx (gV 7) Th (Dc k m) [s0,some (.str ("abcdefghijklmnopqrstuvwxyz":Str)),some (.fl (xs.map D.int)),some (.str (Ar w)),s4,s5,some (.ref G.length),x7,x8,some (.int sz),some (.int a),x11] (G++ [.lst (acc.map D.str)])=
   .nx [s0,some (.str ("abcdefghijklmnopqrstuvwxyz":Str)),some (.fl (xs.map D.int)),some (.str (Ar w)),s4,s5,some (.ref G.length),y7,y8,some (.int sz),some (.int a),y11] (G++ [.lst ((acc++(qH k m).map λk=>nmS (nmF xs w sz a k)).map D.str)])
 | 0,k,acc,x7,x8,x11,e,h=>⟨x7,x8,x11,by rw [M5,Fy];simp⟩
 | m + 1,k,acc,x7,x8,x11,e,h=>by
  obtain ⟨y7,y8,y11,ih⟩:=ZIs hxl hw (sz:=sz) (a:=a) (s0:=s0) (s4:=s4) (s5:=s5) (G:=G) m (k + 1) (acc++ [nmS (nmF xs w sz a k)]) (some (.int k)) (some (.str (nmS (nmF xs w sz a k)))) (some (.str (Ar [97 + ((gx xs 10 + 5 * (k:Int)) % 26).toNat]))) (by lia) (by simp;lia);refine ⟨y7,y8,y11,?_⟩;have a10:atI (xs.map D.int) 10=some (.int (gx xs 10)):=Ex (i:=10) (by lia);have m5:∀G,Dm (.int 5) (.int (k:Int)) G=.ok (.int (5 * (k:Int))) G:=λG=>M6 (by lia) (by lia)
  have hi:=λG=>Vr (i:=(gx xs 10 + 5 * (k:Int)) % 26) (by lia) (by lia) G
  have l1:=ZAF w none (some (a:Int));have l2:=ZAF w (some (a:Int)) (some (sz:Int));have h1:=λG=>Lr (l:=w) (lo:=none) (hi:=some (a:Int)) (by lia) G
  have h2:=λG=>Lr (l:=w) (lo:=some (a:Int)) (hi:=some (sz:Int)) (by lia) G
  have h3:=λG=>add_str (l:=cutD w none (some (a:Int))) (l':= [97 + ((gx xs 10 + 5 * (k:Int)) % 26).toNat]) (by simp;lia) G
  have h4:=λG=>add_str (l:=cutD w none (some (a:Int))++ [97 + ((gx xs 10 + 5 * (k:Int)) % 26).toNat]) (l':=cutD w (some (a:Int)) (some (sz:Int))) (by simp;lia) G
  have hb:Th [s0,some (.str ("abcdefghijklmnopqrstuvwxyz":Str)),some (.fl (xs.map D.int)),some (.str (Ar w)),s4,s5,some (.ref G.length),some (.int k),x8,some (.int sz),some (.int a),x11] (G++ [.lst (acc.map D.str)])=
    .nx [s0,some (.str ("abcdefghijklmnopqrstuvwxyz":Str)),some (.fl (xs.map D.int)),some (.str (Ar w)),s4,s5,some (.ref G.length),some (.int k),some (.str (nmS (nmF xs w sz a k))),some (.int sz),some (.int a),some (.str (Ar [97 + ((gx xs 10 + 5 * (k:Int)) % 26).toNat]))] (G++ [.lst ((acc++ [nmS (nmF xs w sz a k)]).map D.str)]):=by
   have hal:acc.length < 1000000:=by lia
   unfold nmF nmS;generalize Ar (cutD w none (some (a:Int))++ [97 + ((gx xs 10 + 5 * (k:Int)) % 26).toNat]++cutD w (some (a:Int)) (some (sz:Int)))=nm at *;generalize Ar (cutD w none (some (a:Int))++ [97 + ((gx xs 10 + 5 * (k:Int)) % 26).toNat])=nm1 at *;generalize Ar (cutD w none (some (a:Int)))=nm2 at *;generalize Ar [97 + ((gx xs 10 + 5 * (k:Int)) % 26).toNat]=nm3 at *;generalize Ar (cutD w (some (a:Int)) (some (sz:Int)))=nm4 at *
   generalize Ar w=W at *;generalize ("abcdefghijklmnopqrstuvwxyz":Str)=AB at *;unfold Th;by_cases hs:nm="sea"
   ·have hs':(nm="sea")=True:=by simp [hs]
    simp [-Mu,-O7,-N7,a10,m5,hi,h1,h2,h3,h4,Oq,Dr,Fg,hal,hs']
   ·simp [-Mu,-O7,-N7,a10,m5,hi,h1,h2,h3,h4,Oq,Dr,Fg,hal,hs]
  rw [Ku,Et];simp only [Es,R.El,q9,hb,Ew];have e1:((k:Int) + 1)=((k + 1:Nat):Int):=by lia
  rw [e1,ih,List.range'_succ,zW,qx]
  rfl
def wd0 (xs:List Int):List Nat:=(xs.take 8).map λx=>97 + (x % 26).toNat
theorem ZNE (l:List Int) (G:DH):Cp (gV 0) Bj Vu [none,some (.str ("abcdefghijklmnopqrstuvwxyz":Str))] (l.map D.int) G=.ok ((l.map λx=>97 + (x % 26).toNat).map sgn) G:=by
 induction l with
 | nil=>rfl
 | cons x l ih=>
  have hi:=Vr (i:=x % 26) (by lia) (by lia) G;have he:Vu [some (.int x),some (.str ("abcdefghijklmnopqrstuvwxyz":Str))] G=.ok (sgn (97 + (x % 26).toNat)) G:=by have e2:sgn (97 + (x % 26).toNat)=.str (Ar [97 + (x % 26).toNat]):=rfl;rw [e2];generalize ("abcdefghijklmnopqrstuvwxyz":Str)=AB at *;unfold Vu;simp [-Mu,hi]
  rw [zW,Jd];simp [-Mu,he,ih]
theorem ZLI {cs:List Nat} (h:cs.length<=1000) (G:DH):Ri (.str ("":Str)) [.fl (cs.map sgn)] G=.ok (.str (Ar cs)) G:=by
 have h1:=ZPr (sep:=("":Str)) (ys:=cs.map λc=>(⟨#[c]⟩:Str)) (G:=G) (by
  have e:("":Str).length=0:=by decide +kernel
  rw [e]
  have:∀l:List Nat,((l.map λc=>(⟨#[c]⟩:Str)).map (·.length)).sum=l.length:=λl=>by
   induction l with
   | nil=>rfl
   | cons a l ih=>
    simp only [zW,jz,ih,zP];show 1 + l.length=_;lia
  rw [this];lia)
 rw [ZOR,zS] at h1;exact h1
theorem addR {p:Nat} {xs ys:List D} (h:G[p]? =some (.lst xs)) (hl:xs.length + ys.length<=1000000):Av (.ref p) (.fl ys) G=.ok (.ref G.length) (G++ [.lst (xs++ys)]):=by simp [Av,Hq,h,hl]
theorem slR {p:Nat} {xs:List D} {lo hi:Option Int} (h:G[p]? =some (.lst xs)):K9 (.ref p) lo hi G=.ok (.ref G.length) (G++ [.lst (cutD xs lo hi)]):=by simp [K9,Hq,h]
def sea2 (x:Str):Str:=if x="sea" then "sa" else x
structure NmOk (nm:List Str):Prop where
 nd:nm.Nodup
 sea:∀z∈nm,z≠"sea"
theorem J1 (h:Ar l=Ar l'):l=l':=by have h1:l.toArray=l'.toArray:=congrArg Str.cps h;simpa using h1
theorem Pq:("sea":Str)=Ar [115,101,97]:=by decide +kernel
theorem sa_L:("sa":Str)=Ar [115,97]:=by decide +kernel
theorem ZFO:("seat":Str)=Ar [115,101,97,116]:=by decide +kernel
theorem ZM4 (h:sea2 (Ar l)=sea2 (Ar l')) (hp:∀a b,l= [115,a,b]->l'≠ [115,97]∨a=97) (hp':∀a b,l'= [115,a,b]->l≠ [115,97]∨a=97):l=l':=by
 unfold sea2 at h;split at h
 ·rename_i h1;rw [Pq] at h1;have e:=J1 h1;split at h
  ·rename_i h2;rw [Pq] at h2;rw [e,J1 h2]
  ·rw [sa_L] at h;have e2:=J1 h;rcases hp _ _ e with z | z
   ·exact absurd e2.symm z
   ·cases z
 ·split at h
  ·rename_i h2;rw [Pq] at h2;have e:=J1 h2;rw [sa_L] at h;have e2:=J1 h;rcases hp' _ _ e with z | z
   ·exact absurd e2 z
   ·cases z
  ·exact J1 h
theorem ZNz (x:Str):sea2 x≠"sea":=by
 unfold sea2;split
 ·decide +kernel
 ·assumption
theorem ZRx (h:NmOk nm) (r:Nat):NmOk (nm.drop r++nm.take r):=by
 have p:List.Perm (nm.drop r++nm.take r) nm:=by have:=List.perm_append_comm (l₁:=nm.drop r) (l₂:=nm.take r);rwa [j9] at this
 exact ⟨p.nodup_iff.mpr h.nd,λz hz=>h.sea z (p.mem_iff.mp hz)⟩
theorem ZGC {l:List α} (h:∀i j (hi:i < l.length) (hj:j < l.length),l[i]=l[j]->i=j):l.Nodup:=by rw [List.nodup_iff_pairwise_ne,qC];intro i j hi hj hij e;have:=h i j hi hj e;lia
theorem ZKm {l:List α} (h:l.Nodup) (hi:i < l.length) (hj:j < l.length) (e:l[i]=l[j]):i=j:=by
 rw [List.nodup_iff_pairwise_ne,qC] at h;rcases Nat.lt_trichotomy i j with z | z | z
 ·exact absurd e (h i j hi hj z)
 ·exact z
 ·exact absurd e.symm (h j i hj hi z)
theorem ZCz {x a:Nat} {w r:List Nat}:∀{m:Nat},(x::w).take m=a::r->x=a
 | 0,h=>by cases h
 | m + 1,h=>by rw [List.take_succ_cons] at h;exact (List.cons.inj h).1
theorem ZON {c:Nat} {w:List Nat} (hw:w.length=7) (hcd:c≠d):NmOk ((((zX 8).map λk=>Ar ((c::w).take (k + 1)))++(zX 4).map λk=>Ar ((d::w).take (k + 1))).map sea2):=by
 refine ⟨ZGC λi j hi hj e=> ?_,λz hz=> ?_⟩
 ·simp only [zG,qQ,jH] at hi hj;have g:∀i (h:i < ((((zX 8).map λk=>Ar ((c::w).take (k + 1)))++(zX 4).map λk=>Ar ((d::w).take (k + 1))).map sea2).length),
    ((((zX 8).map λk=>Ar ((c::w).take (k + 1)))++(zX 4).map λk=>Ar ((d::w).take (k + 1))).map sea2)[i]=sea2 (Ar (if i < 8 then c::w.take i else d::w.take (i - 8))):=λi h=>by
   rw [jS];by_cases h8:i < 8
   ·rw [List.getElem_append_left (by simpa using h8),if_pos h8];simp
   ·rw [List.getElem_append_right (by simp;lia),if_neg h8];simp
  rw [g,g] at e;have key:=ZM4 e ?_ ?_
  ·split at key <;> split at key
   ·have:=congrArg List.length (List.cons.inj key).2;simp at this;lia
   ·exact absurd (List.cons.inj key).1 hcd
   ·exact absurd (List.cons.inj key).1.symm hcd
   ·have:=congrArg List.length (List.cons.inj key).2;simp at this;lia
  all_goals
   intro a b h1;cases w with
   | nil=>cases hw
   | cons x w=>
    refine Classical.or_iff_not_imp_right.mpr λha h2=> ?_
    have key:∀p q:Nat,(if p < 8 then c::(x::w).take p else d::(x::w).take (p - 8))= [115,a,b]->(if q < 8 then c::(x::w).take q else d::(x::w).take (q - 8))= [115,97]->False:=λp q z1 z2=>by
     have t1:∀m r,(x::w).take m=a::r->x=a:=λm r z=>ZCz z
     split at z1 <;> split at z2 <;> exact ha ((ZCz (List.cons.inj z1).2).symm.trans (ZCz (List.cons.inj z2).2))
    exact key _ _ h1 h2
 ·obtain ⟨x,_,rfl⟩:=zF.mp hz;exact ZNz x
theorem ZLt (hl:l.length=l'.length) (h:nmS l=nmS l'):l=l':=by
 unfold nmS at h;split at h
 ·rename_i h1;rw [Pq] at h1;have e:=J1 h1;split at h
  ·rename_i h2;rw [Pq] at h2;rw [e,J1 h2]
  ·rw [ZFO] at h;rw [e,<-J1 h] at hl;cases hl
 ·split at h
  ·rename_i h2;rw [Pq] at h2;rw [ZFO] at h;rw [J1 h2,J1 h] at hl;cases hl
  ·exact J1 h
theorem ZPZ (l:List Nat):nmS l≠"sea":=by
 unfold nmS;split
 ·decide +kernel
 ·assumption
theorem ZPv {X Y:List Nat} {g:Int}:NmOk ((qH 0 12).map λk:Nat=>nmS (X++ [97 + ((g + 5 * (k:Int)) % 26).toNat]++Y)):=by
 refine ⟨ZGC λi j hi hj e=> ?_,λz hz=> ?_⟩
 ·simp only [zG,List.length_range'] at hi hj;simp only [jS,List.getElem_range',Nat.zero_add,Nat.one_mul] at e;have e1:=ZLt (by simp) e;have e2:=List.append_cancel_right e1;have e3:=List.append_cancel_left e2;have e4:97 + ((g + 5 * (i:Int)) % 26).toNat=97 + ((g + 5 * (j:Int)) % 26).toNat:=(List.cons.inj e3).1;omega +splitNatSub
 ·obtain ⟨x,_,rfl⟩:=zF.mp hz;exact ZPZ _
theorem ZOZ:∀i,i < 26->Txt.find ("abcdefghijklmnopqrstuvwxyz":Str) (Ar [97 + i])=(i:Int):=by decide +kernel
theorem ZNc {p:Nat} {l:List Str} (h:G[p]? =some (.lst (l.map D.str))):Gx p (gV 0) Bj Vh [none] l.length 0 G=.ok ((l.map sea2).map D.str) G:=by
 have h1:=ZC7 (g:=gV 0) (c:=Bj) (te:=Vh) (S:= [none]) (F:=λd=>match d with
  | .str x=>some (.str (sea2 x))
  | _=>none) h (λx hx=>by
   obtain ⟨y,_,rfl⟩:=zF.mp hx;refine ⟨[some (.str y)],rfl,.inr ⟨rfl,.str (sea2 y),?_,rfl⟩⟩;have fz:freeze G (.ok (.ref G.length) (G++ [.lst [.str y,.str "sa"]]))=.ok (.fl [.str y,.str "sa"]) G:=Do rfl;unfold Vh sea2;by_cases hs:y="sea"
   ·have hs':(y="sea")=True:=by simp [hs]
    simp [fz,hs']
   ·simp [fz,hs])
 rw [zG] at h1;rw [h1,qZ,zS]
 congr 1
 show List.filterMap (λx=>some ((D.str ∘ sea2) x)) l=_;rw [qY]
theorem ZLF {w:List Nat} (hw:w.length<=1000) (n:Nat) (G:DH):Cp (gV 0) Bj Y6 [none,some (.str (Ar w))] (Dc 0 n) G=.ok (((zX n).map λk:Nat=>Ar (cutD w none (some ((k:Int) + 1)))).map D.str) G:=by
 rw [zS];exact ZCi (te:=Y6) (S:= [none,some (.str (Ar w))]) λk _=>by have h:=Lr (l:=w) (lo:=none) (hi:=some ((k:Int) + 1)) (by lia) G;unfold Y6;simp [-N7,h,Oq]
theorem ZMt {w:List Nat} (hw:w.length<=1000) (n:Nat) (G:DH):Cp (gV 0) Bj V8 [none,some (.str (Ar w))] (Dc 0 n) G=.ok (((zX n).map λk:Nat=>Ar (cutD w none (some ((k:Int) + 1)))).map D.str) G:=by
 rw [zS];exact ZCi (te:=V8) (S:= [none,some (.str (Ar w))]) λk _=>by have h:=Lr (l:=w) (lo:=none) (hi:=some ((k:Int) + 1)) (by lia) G;unfold V8;simp [-N7,h,Oq]
theorem ZO7 (hxl:xs.length=24) (hx:∀x∈xs,0<=x) {c:Nat} {w:List Nat} (hw8:w.length=7) (hc:97<=c/\c < 123):∃nm:List Str,nm.length=12/\NmOk nm/\∀(G:DH) (s0:Option D),∃k L,
  Uh [s0,some (.str ("abcdefghijklmnopqrstuvwxyz":Str)),some (.fl (xs.map D.int)),some (.str (Ar (c::w))),none,none,none,none,none,none,none,none] G=.rt (.ref (G.length + k)) (G++L)/\L[k]? =some (.lst (nm.map D.str)):=by
 have hw:(c::w).length<=100:=by simp [hw8]
 have a8:atI (xs.map D.int) 8=some (.int (gx xs 8)):=Ex (i:=8) (by lia);have a9:atI (xs.map D.int) 9=some (.int (gx xs 9)):=Ex (i:=9) (by lia);have a10:atI (xs.map D.int) 10=some (.int (gx xs 10)):=Ex (i:=10) (by lia);by_cases h8:gx xs 8 % 3=0
 ·obtain ⟨t,et⟩:∃t:Int,(Txt.find ("abcdefghijklmnopqrstuvwxyz":Str) (Ar [c]) + 1 + gx xs 9 % 25) % 26=t:=⟨_,rfl⟩;have ht:0<=t/\t < 26:=by lia
  let o:List Nat:= [97 + t.toNat]++cutD (c::w) (some 1) none;obtain ⟨r,hr⟩:∃r:Nat,gx xs 10 % 12=r:=⟨(gx xs 10 % 12).toNat,by lia⟩;have hr12:r < 12:=by lia
  obtain ⟨A,hA⟩:∃A:List Str,((zX 8).map λk:Nat=>Ar (cutD (c::w) none (some ((k:Int) + 1))))=A:=⟨_,rfl⟩;obtain ⟨B,hB⟩:∃B:List Str,((zX 4).map λk:Nat=>Ar (cutD o none (some ((k:Int) + 1))))=B:=⟨_,rfl⟩;have lA:A.length=8:=by rw [<-hA];simp
  have lB:B.length=4:=by rw [<-hB];simp
  have eA:A=(zX 8).map λk=>Ar ((c::w).take (k + 1)):=by
   rw [<-hA];refine qJ λk hk=> ?_
   have hk':=qX.mp hk;have e:(k:Int) + 1=((k + 1:Nat):Int):=by lia
   rw [e,Qw (by simp [hw8];lia)]
  have eo:o=(97 + t.toNat)::w:=by
   show [97 + t.toNat]++cutD (c::w) (some 1) none=_;have e:cutD (c::w) (some ((1:Nat):Int)) none=(c::w).drop 1:=Wn (by simp);have e':cutD (c::w) (some 1) none=w:=e;rw [e']
   rfl
  have eB:B=(zX 4).map λk=>Ar (((97 + t.toNat)::w).take (k + 1)):=by
   rw [<-hB,eo];refine qJ λk hk=> ?_
   have hk':=qX.mp hk;have e:(k:Int) + 1=((k + 1:Nat):Int):=by lia
   rw [e,Qw (by simp [hw8];lia)]
  have hcd:c≠97 + t.toNat:=by have hf:=ZOZ (c - 97) (by lia);rw [show 97 + (c - 97)=c by lia] at hf;rw [hf] at et;lia
  have hok:NmOk (((A++B).map sea2).drop r++((A++B).map sea2).take r):=ZRx (by rw [eA,eB];exact ZON hw8 hcd) r;refine ⟨((A++B).map sea2).drop r++((A++B).map sea2).take r,by simp [lA,lB];lia,hok,λG s0=> ?_⟩;clear hok eA eB eo;have l1:=ZAF (c::w) (some 1) none;have c1:=λG=>ZLF (w:=c::w) (by lia) 8 G
  have c2:=λG=>ZMt (w:=o) (by simp [o];lia) 4 G
  rw [hA] at c1;rw [hB] at c2;have hi:=λG=>Vr (i:=t) ht.1 ht.2 G
  have h0:=λG=>ZKn (c:=c) (l:=w) (by lia) G
  have h1:=λG=>Lr (l:=c::w) (lo:=some 1) (hi:=none) (by lia) G
  have h2:=λG=>add_str (l:= [97 + t.toNat]) (l':=cutD (c::w) (some 1) none) (by simp;lia) G
  have e2:Ar ([97 + t.toNat]++cutD (c::w) (some 1) none)=Ar o:=rfl;rw [e2] at h2
  clear_value o
  have r8:inR 8:=Gz (by lia) (by lia);have r4:inR 4:=Gz (by lia) (by lia);have lA':(A.map D.str).length<=1000000:=by simp [lA]
  have lB':(B.map D.str).length<=1000000:=by simp [lB]
  have hAB:A.map D.str++B.map D.str=(A++B).map D.str:=by simp
  have lAB:(A.map D.str).length + (B.map D.str).length<=1000000:=by simp [lA,lB]
  have ad:=addR (p:=G.length) (xs:=A.map D.str) (ys:=B.map D.str) (G:=G++ [.lst (A.map D.str)]) (by rw [Dr];rfl) lAB;rw [hAB] at ad;have fzB:freeze (G++ [.lst (A.map D.str)]) (.ok (.ref (G.length + 1)) (G++ [.lst (A.map D.str),.lst (B.map D.str)]))=.ok (.fl (B.map D.str)) (G++ [.lst (A.map D.str)]):=Xh Ks;have td1:tidy (G++ [.lst (A.map D.str)]) (.ok (.ref (G.length + 1)) (G++ [.lst (A.map D.str),.lst ((A++B).map D.str)]))=.ok (.ref (G.length + 1)) (G++ [.lst (A.map D.str),.lst ((A++B).map D.str)]):=ZCA Ks
  have g2:(G++ [DO.lst (A.map D.str),DO.lst ((A++B).map D.str)])[G.length + 1]? =some (.lst ((A++B).map D.str)):=by simp
  have sc:=ZNc g2;have lC:((A++B).map D.str).length=(A++B).length:=by simp
  have lS:((A++B).map sea2).length=12:=by simp [lA,lB]
  have lAB2:(A++B).length=12:=by simp [lA,lB]
  generalize (A++B).map sea2=C at sc lS ⊢;generalize A++B=Q at *;have lC':(C.map D.str).length<=1000000:=by simp [lS]
  have ct:cutD (C.map D.str) none (some (r:Int))=(C.take r).map D.str:=by rw [Qw (by simp;lia),List.map_take]
  have cd:cutD (C.map D.str) (some (r:Int)) none=(C.drop r).map D.str:=by rw [Wn (by simp;lia),List.map_drop]
  have sl1:=λlo hi=>slR (p:=G.length + 2) (xs:=C.map D.str) (lo:=lo) (hi:=hi) (G:=G++ [.lst (A.map D.str),.lst (Q.map D.str),.lst (C.map D.str)]) (by simp)
  have fz3:∀ls:List Str,freeze (G++ [.lst (A.map D.str),.lst (Q.map D.str),.lst (C.map D.str)]) (.ok (.ref (G.length + 3)) (G++ [.lst (A.map D.str),.lst (Q.map D.str),.lst (C.map D.str),.lst (ls.map D.str)]))=.ok (.fl (ls.map D.str)) (G++ [.lst (A.map D.str),.lst (Q.map D.str),.lst (C.map D.str)]):=λls=>by have:=Do (G:=G++ [.lst (A.map D.str),.lst (Q.map D.str),.lst (C.map D.str)]) (ds:=ls.map D.str) (L:= []) Ks;simpa using this
  have lcc:((C.drop r).map D.str).length + ((C.take r).map D.str).length<=1000000:=by simp [lS];lia
  have fzd:=fz3 (C.drop r);have fzt:=fz3 (C.take r);refine ⟨3,[.lst (A.map D.str),.lst (Q.map D.str),.lst (C.map D.str),.lst ((C.drop r++C.take r).map D.str)],?_,rfl⟩;rw [jY];generalize (C.drop r).map D.str=X1 at *;generalize (C.take r).map D.str=X2 at *;generalize C.map D.str=X3 at *;have it2:G8 (.ref (G.length + 1)) (G++ [DO.lst (A.map D.str),DO.lst (Q.map D.str)])=.ok (.mt (G.length + 1)) (G++ [DO.lst (A.map D.str),DO.lst (Q.map D.str)]):=by simp [G8]
  rw [lAB2] at sc;have lQ:(Q.map D.str).length=12:=by rw [zG,lAB2]
  generalize Q.map D.str=X4 at *;generalize A.map D.str=X5 at *;generalize B.map D.str=X6 at *;have cs1:∀a b c d e f' g h i j k' l:Option D,Bd 1 [3] [a,b,c,d,e,f',g,h,i,j,k',l]= [none,d]:=λ_ _ _ _ _ _ _ _ _ _ _ _=>rfl
  have cs2:∀a b c d e f' g h i j k' l:Option D,Bd 1 [5] [a,b,c,d,e,f',g,h,i,j,k',l]= [none,f']:=λ_ _ _ _ _ _ _ _ _ _ _ _=>rfl
  have cs3:∀S:DSt,Bd 1 [] S= [none]:=λ_=>rfl
  generalize Ar o=O at *;generalize Ar (cutD (c::w) (some 1) none)=O1 at *;generalize Ar [97 + t.toNat]=O2 at *;generalize Ar (c::w)=O3 at *;generalize Ar [c]=O4 at *;generalize ("abcdefghijklmnopqrstuvwxyz":Str)=AL at *;unfold Uh;simp [-Mu,-O7,-N7,a8,a9,a10,h8,h0,et,hi,h1,Oq,h2,r8,cs1,c1,lA',r4,cs2,c2,lB',fzB,ad,td1,it2,g2,lQ,cs3,sc,lC',hr,sl1,ct,cd,fzd,fzt,lcc]
 ·obtain ⟨sz,hsz⟩:∃sz:Nat,gx xs 8 / 3 % 8=sz:=⟨(gx xs 8 / 3 % 8).toNat,by lia⟩;obtain ⟨a,ha⟩:∃a:Nat,gx xs 9 % ((sz:Int) + 1)=a:=⟨(gx xs 9 % ((sz:Int) + 1)).toNat,by have:=qA (gx xs 9) (show ((sz:Int) + 1)≠0 by lia);lia⟩
  refine ⟨(qH 0 12).map λk=>nmS (nmF xs (c::w) sz a k),by simp,ZPv,λG s0=> ?_⟩;obtain ⟨y7,y8,y11,hL⟩:=ZIs hxl (w:=c::w) (by lia) (sz:=sz) (a:=a) (s0:=s0) (s4:=none) (s5:=none) (G:=G) 12 0 [] none none none (by lia) (by simp);have hL':Bx (gV 7) Th (Dc 0 12) [s0,some (.str ("abcdefghijklmnopqrstuvwxyz":Str)),some (.fl (xs.map D.int)),some (.str (Ar (c::w))),none,none,some (.ref G.length),none,none,some (.int sz),some (.int a),none] (G++ [.lst []])=_:=hL
  rw [qN] at hL';refine ⟨0,[.lst (((qH 0 12).map λk=>nmS (nmF xs (c::w) sz a k)).map D.str)],?_,rfl⟩;generalize ((qH 0 12).map λk=>nmS (nmF xs (c::w) sz a k)).map D.str=Z at *;generalize Ar (c::w)=W at *;generalize ("abcdefghijklmnopqrstuvwxyz":Str)=AL at *;have r12:inR 12:=Gz (by lia) (by lia);have hp:(0:Int) < (sz:Int) + 1:=by lia
  unfold Uh ZIh ZG0 ZGe ZGu ZGP;simp [a8,a9,h8,hsz,hp,ha,Be,Fe,r12,hL']
theorem ZRd:∃nm:List Str,nm.length=12/\NmOk nm/\∀G,Mz [.int cell] G=.ok (.ref G.length) (G++ [.lst (nm.map D.str)]):=by
 have hst:∀G,freeze G (J0 [.int cell,.int 0,.int 24] G)=.ok (.fl ((Em cell 0 24).map D.int)) G:=λG=>Zg (cell:=cell) (k:=0) (n:=24) (by lia) (by lia) G
 have hxl:(Em cell 0 24).length=24:=ZAJ;have hx:∀x∈Em cell 0 24,0<=x:=Zo;generalize Em cell 0 24=xs at *;have a10:atI (xs.map D.int) 10=some (.int (gx xs 10)):=Ex (i:=10) (by lia);have a11:atI (xs.map D.int) 11=some (.int (gx xs 11)):=Ex (i:=11) (by lia);by_cases h11:2147483647 < gx xs 11
 ·obtain ⟨nm,hn,hnd,hns,hf⟩:=ZRX (xs:=(xs.drop 11).take (23 - 11)) (λx h=>hx x (qF (qG h))) (by simp;lia);refine ⟨nm,by rw [hn];simp;lia,⟨hnd,hns⟩,λG=> ?_⟩;have cu:=Sd (xs:=xs) (a:=11) (b:=23) (by lia) (by lia);have cu':cutD (xs.map D.int) (some 11) (some 23)=((xs.drop 11).take (23 - 11)).map D.int:=cu;generalize (xs.drop 11).take (23 - 11)=ys at *;have fz:freeze G (.ok (.ref G.length) (G++ [.lst (ys.map D.int)]))=.ok (.fl (ys.map D.int)) G:=Do Gp
  have td:=Fe (G:=G) (ds:=nm.map D.str) (L:= []) Ks;generalize nm.map D.str=N at *;unfold Mz Uy Sq Td;rw [By];simp [hst,a11,h11,cu',fz,hf,td]
 ·have cu':cutD (xs.map D.int) none (some 8)=(xs.take 8).map D.int:=by rw [List.map_take];exact Qw (a:=8) (by simp;lia)
  have lw:(wd0 xs).length=8:=by simp [wd0];lia
  have wc:=λG=>ZNE (xs.take 8) G
  have jw:=λG=>ZLI (cs:=wd0 xs) (by lia) G
  have fz:∀G:DH,freeze G (.ok (.ref G.length) (G++ [.lst ((wd0 xs).map sgn)]))=.ok (.fl ((wd0 xs).map sgn)) G:=λG=>Do (Ft λ_ _=>rfl)
  have fzi:∀G:DH,freeze G (.ok (.ref G.length) (G++ [.lst ((xs.take 8).map D.int)]))=.ok (.fl ((xs.take 8).map D.int)) G:=λG=>Do Gp
  have ew:(xs.take 8).map (λx=>97 + (x % 26).toNat)=wd0 xs:=rfl;rw [ew] at wc;have cs1:∀a b c d e f' g h i j k' l:Option D,Bd 1 [1] [a,b,c,d,e,f',g,h,i,j,k',l]= [none,b]:=λ_ _ _ _ _ _ _ _ _ _ _ _=>rfl
  have lw2:(wd0 xs).length<=1000000:=by lia
  generalize (xs.take 8).map D.int=X8 at *;have fin:∃(c:Nat) (w:List Nat),w.length=7/\(97<=c/\c < 123)/\∀G,Mz [.int cell] G=tidy G (Uh [some (.int cell),some (.str ("abcdefghijklmnopqrstuvwxyz":Str)),some (.fl (xs.map D.int)),some (.str (Ar (c::w))),none,none,none,none,none,none,none,none] G).ret:=by
   by_cases h10:gx xs 10 / 26 % 4=0
   ·have l5:(cutD (wd0 xs) (some 3) none).length=5:=by have:=Wn (xs:=wd0 xs) (a:=3) (by lia);have e3:cutD (wd0 xs) (some 3) none=(wd0 xs).drop 3:=this;rw [e3,j1,lw]
    have s3:=λG=>Lr (l:=wd0 xs) (lo:=some 3) (hi:=none) (by lia) G
    have fz2:∀G:DH,freeze G (.ok (.ref G.length) (G++ [.lst [.str "sea",.str "none"]]))=.ok (.fl [.str "sea",.str "none"]) G:=λG=>Do rfl
    have key:∀(c:Nat) (l0:List Nat),l0.length=2∨l0.length=3->∀G,Av (.str (Ar (c::l0))) (.str (Ar (cutD (wd0 xs) (some 3) none))) G=.ok (.str (Ar (c::(l0++cutD (wd0 xs) (some 3) none)))) G/\K9 (.str (Ar (c::(l0++cutD (wd0 xs) (some 3) none)))) none (some 8) G=.ok (.str (Ar (c::(l0++cutD (wd0 xs) (some 3) none).take 7))) G:=λc l0 h0 G=>by
     refine ⟨add_str (l:=c::l0) (l':=cutD (wd0 xs) (some 3) none) (by simp [l5];lia) G,?_⟩;rw [Lr (by simp [l5];lia)];have:=Qw (xs:=c::(l0++cutD (wd0 xs) (some 3) none)) (a:=8) (by simp [l5];lia);have e8:cutD (c::(l0++cutD (wd0 xs) (some 3) none)) none (some 8)=(c::(l0++cutD (wd0 xs) (some 3) none)).take 8:=this;rw [e8,List.take_succ_cons]
    rcases (by lia:gx xs 10 / 104 % 2=0∨gx xs 10 / 104 % 2=1) with z | z
    ·have es:("sea":Str)=Ar (115:: [101,97]):=by decide +kernel
     have k1:=λG=>(key 115 [101,97] (by simp) G).1
     have k2:=λG=>(key 115 [101,97] (by simp) G).2
     refine ⟨115,([101,97]++cutD (wd0 xs) (some 3) none).take 7,by simp [l5],by lia,λG=> ?_⟩;rw [<-es] at k1;generalize Ar (115::([101,97]++cutD (wd0 xs) (some 3) none))=Q1 at *;generalize Ar (115::([101,97]++cutD (wd0 xs) (some 3) none).take 7)=Q2 at *;generalize Ar (cutD (wd0 xs) (some 3) none)=Q3 at *;generalize Ar (wd0 xs)=Q4 at *;unfold Mz Uy Sq Td Zt Y4;rw [By];generalize ("abcdefghijklmnopqrstuvwxyz":Str)=AL at *
     simp [-O7,-N7,hst,a11,h11,cu',fzi,cs1,wc,lw2,fz,jw,a10,h10,z,fz2,s3,Oq,k1,k2]
    ·have es:("none":Str)=Ar (110:: [111,110,101]):=by decide +kernel
     have k1:=λG=>(key 110 [111,110,101] (by simp) G).1
     have k2:=λG=>(key 110 [111,110,101] (by simp) G).2
     refine ⟨110,([111,110,101]++cutD (wd0 xs) (some 3) none).take 7,by simp [l5],by lia,λG=> ?_⟩;rw [<-es] at k1;generalize Ar (110::([111,110,101]++cutD (wd0 xs) (some 3) none))=Q1 at *;generalize Ar (110::([111,110,101]++cutD (wd0 xs) (some 3) none).take 7)=Q2 at *;generalize Ar (cutD (wd0 xs) (some 3) none)=Q3 at *;generalize Ar (wd0 xs)=Q4 at *;unfold Mz Uy Sq Td Zt Y4;rw [By];generalize ("abcdefghijklmnopqrstuvwxyz":Str)=AL at *
     simp [-O7,-N7,hst,a11,h11,cu',fzi,cs1,wc,lw2,fz,jw,a10,h10,z,fz2,s3,Oq,k1,k2]
   ·cases hcw:wd0 xs with
    | nil=>rw [hcw] at lw;cases lw
    | cons c w=>
     have hc97:97<=c/\c < 123:=by
      have hm:c∈wd0 xs:=by rw [hcw];exact zV
      obtain ⟨y,_,rfl⟩:=zF.mp hm;lia
     refine ⟨c,w,by rw [hcw] at lw;simpa using lw,hc97,λG=> ?_⟩;rw [<-hcw];generalize Ar (wd0 xs)=Q4 at *;unfold Mz Uy Sq Td Zt Y4;rw [By];generalize ("abcdefghijklmnopqrstuvwxyz":Str)=AL at *;simp [hst,a11,h11,cu',fzi,cs1,wc,lw2,fz,jw,a10,h10]
  obtain ⟨c,w,hw,hc,hf⟩:=fin;obtain ⟨nm,hn,hok,ht⟩:=ZO7 hxl hx hw hc;refine ⟨nm,hn,hok,λG=> ?_⟩;obtain ⟨k,L,h1,h2⟩:=ht G (some (.int cell));rw [hf,h1];exact Vq L h2 Ks
def Ib (nm:List Str) (k:Nat):Str:=nm.getD k ""
theorem Yq (h:k < nm.length):nm[k]=Ib nm k:=by simp [Ib,zj,zQ h]
def Tu (nm:List Str):Option Nat->Str
 | none=>"sea"
 | some d=>(Ib nm d)
noncomputable def Tq (nm:List Str):Option (Nat×Nat×Int)->D
 | none=>.non
 | some (to,dl,m)=>.tup [.str ((Ib nm to)),.int dl,.int m]
noncomputable def K7 (nm:List Str) (p:Pl):D:=match p.kd with
 | .basin b r q=>.tup [.str "basin",.str p.nm,.str (Tu nm p.dn),.int p.dl,.int b,.tup (r.map Ej),Tq nm q]
 | .town a b=>.tup [.str "town",.str p.nm,.str (Tu nm p.dn),.int p.dl,.int a,.int b]
 | .mill a=>.tup [.str "mill",.str p.nm,.str (Tu nm p.dn),.int p.dl,.int a]
structure PlG (n k:Nat) (p:Pl):Prop where
 dn:∀d,p.dn=some d->k < d/\d < n
 dl:p.dl<=5
 pump:∀b r to dl m,p.kd=.basin b r (some (to,dl,m))->to < n/\1<=dl/\dl<=5
 brim:∀b r q,p.kd=.basin b r q->0<=b/\∀s∈r,Good 0 s.2
 town:∀a b,p.kd=.town a b->0<=a/\0<=b
 nop:∀b r,p.kd=.basin b r none->∀s∈r,∀t∈s.2,t.r=true
theorem ZIy {xs:List Int} {big:Int} {p:Bool}:∀(n j:Nat) (top:Int),Good top (stF xs big p n j top)/\(p=false->∀t∈stF xs big p n j top,t.r=true)
 | 0,_,_=>⟨trivial,λ_ t h=>nomatch h⟩
 | n + 1,j,top=>by
  have ih:=ZIy (xs:=xs) (big:=big) (p:=p) n (j + 1) (top + number (gx xs (1 + 2 * j)) big + (1 + number (gx xs (2 + 2 * j)) big));have h1:=Ou (x:=gx xs (1 + 2 * j)) (cell:=big);have h2:=Ou (x:=gx xs (2 + 2 * j)) (cell:=big);refine ⟨⟨?_,?_,ih.1⟩,λhp t ht=> ?_⟩
  ·show top<=top + number (gx xs (1 + 2 * j)) big;lia
  ·show 1<=1 + number (gx xs (2 + 2 * j)) big;lia
  ·rcases zx.mp ht with rfl | ht
   ·rw [hp];rfl
   ·exact ih.2 hp t ht
theorem Yj:∀(m j:Nat) (b:Int),∀s∈ruF xs big yr p m j b,Good 0 s.2/\(p=false->∀t∈s.2,t.r=true)
 | 0,_,_,s,h=>nomatch h
 | m + 1,j,b,s,h=>by
  unfold ruF at h;split at h
  ·rcases zx.mp h with rfl | h
   ·exact ZIy _ _ _
   ·exact Yj m _ _ s h
  ·exact Yj m _ _ s h
theorem ZCw (h:i < nm.length):atI (nm.map D.str) (i:Int)=some (.str nm[i]):=Gg rfl (by rw [zk,zQ h];rfl)
theorem add3 {t nm dn:Str} {dl:Int} (h:ds.length<=100) (G:DH):Av (.tup [.str t]) (.tup [.str nm,.str dn,.int dl]) G=.ok (.tup [.str t,.str nm,.str dn,.int dl]) G/\Av (.tup [.str t,.str nm,.str dn,.int dl]) (.tup ds) G=.ok (.tup (.str t:: .str nm:: .str dn:: .int dl::ds)) G:=by
 refine ⟨rfl,?_⟩;rw [Rk,if_pos ⟨by simp,by simp;lia⟩]
 rfl
theorem ZQo (hnm:nm.length=12) {n:Nat} (hn:n<=12) (hk:k < n) :∃p:Pl,p.nm=(Ib nm k)/\PlG n k p/\∀G,Mw [.fl (nm.map D.str),.int n,.int k,.int yr,.int cell] G=.ok (K7 nm p) G:=by
 have hst:∀G,freeze G (J0 [.int cell,.int (k:Int),.int 33] G)=.ok (.fl ((Em cell k 33).map D.int)) G:=λG=>Zg (cell:=cell) (k:=k) (n:=33) (by lia) (by lia) G
 have hxl:(Em cell k 33).length=33:=ZAJ;have hx:∀x∈Em cell k 33,0<=x:=Zo;generalize Em cell k 33=xs at *;have a0:atI (xs.map D.int) 0=some (.int (gx xs 0)):=Ex (i:=0) (by lia);have a1:atI (xs.map D.int) 1=some (.int (gx xs 1)):=Ex (i:=1) (by lia);have a2:atI (xs.map D.int) 2=some (.int (gx xs 2)):=Ex (i:=2) (by lia);have a3:atI (xs.map D.int) 3=some (.int (gx xs 3)):=Ex (i:=3) (by lia);have a4:atI (xs.map D.int) 4=some (.int (gx xs 4)):=Ex (i:=4) (by lia)
 have a5:atI (xs.map D.int) 5=some (.int (gx xs 5)):=Ex (i:=5) (by lia);have a6:atI (xs.map D.int) 6=some (.int (gx xs 6)):=Ex (i:=6) (by lia);have a7:atI (xs.map D.int) 7=some (.int (gx xs 7)):=Ex (i:=7) (by lia);have n3:=λG=>Nh (cell:=cell) (G:=G) (Qn hx 3)
 have n4:=λG=>Nh (cell:=cell) (G:=G) (Qn hx 4)
 have hp:(0:Int) < (n:Int) - (k:Int):=by lia
 have hnk:atI (nm.map D.str) (k:Int)=some (.str (nm[k]'(by lia))):=ZCw (by lia);obtain ⟨s,es⟩:∃s:Nat,gx xs 0 % ((n:Int) - (k:Int))=s:=⟨(gx xs 0 % ((n:Int) - (k:Int))).toNat,by have:=qA (gx xs 0) (show (n:Int) - (k:Int)≠0 by lia);lia⟩
 have hs:k + s < n:=by have:=qT (gx xs 0) hp;lia
 have hns:atI (nm.map D.str) ((k:Int) + (s:Int))=some (.str (nm[k + s]'(by lia))):=by have:=ZCw (nm:=nm) (i:=k + s) (by lia);rwa [show ((k + s:Nat):Int)=(k:Int) + (s:Int) by lia] at this
 obtain ⟨dn,o,eo,ho,hd⟩:∃(dn:Str) (o:Option Nat),Tu nm o=dn/\(∀d,o=some d->k < d/\d < n)/\∀G,Mw [.fl (nm.map D.str),.int n,.int k,.int yr,.int cell] G=tidy G (Qd [some (.fl (nm.map D.str)),some (.int n),some (.int k),some (.int yr),some (.int cell),some (.fl (xs.map D.int)),some (.str dn),some (.tup [.str (nm[k]'(by lia)),.str dn,.int (gx xs 1 % 6)]),none,none,none,none] G).ret:=by
  by_cases h0:0 < s
  ·refine ⟨nm[k + s]'(by lia),some (k + s),(Yq (by lia)).symm,λd hd=>by cases hd;lia,λG=> ?_⟩;have h0':(0:Int) < (s:Int):=by lia
   unfold Mw ZEB ZCu ZBe ZC2;rw [By];simp [hk,hst,a0,hp,es,h0,h0',hns,hnk,a1]
  ·refine ⟨"sea",none,rfl,λd hd=>(nomatch hd),λG=> ?_⟩
   have h0':¬(0:Int) < (s:Int):=by lia
   unfold Mw ZEB ZCu ZBe ZC2;rw [By];simp [hk,hst,a0,hp,es,h0,h0',hnk,a1]
 have emk:nm[k]'(by lia)=(Ib nm k):=Yq (by lia);rw [emk] at hnk;obtain ⟨dl,edl⟩:∃dl:Nat,gx xs 1 % 6=dl:=⟨(gx xs 1 % 6).toNat,by lia⟩;have hdl:dl<=5:=by lia
 have hd:=hd;rw [emk] at hd;clear emk;generalize hmk:(Ib nm k)=mk at *;by_cases h2:gx xs 2 % 5=0
 ·refine ⟨⟨mk,o,dl,.mill (number (gx xs 3) cell)⟩,rfl,⟨ho,hdl,(λ_ _ _ _ _ z=>nomatch z),(λ_ _ _ z=>nomatch z),(λ_ _ z=>nomatch z),(λ_ _ z=>nomatch z)⟩,λG=> ?_⟩
  have ad:=add3 (t:="mill") (nm:=mk) (dn:=dn) (dl:=gx xs 1 % 6) (ds:= [.int (number (gx xs 3) cell)]) (by simp);rw [hd];unfold Qd;simp [-Rk,a2,h2,a3,n3,ad,K7,eo,<-edl,Cy]
 ·by_cases h3:gx xs 2 % 5=1
  ·refine ⟨⟨mk,o,dl,.town (number (gx xs 3) cell) (number (gx xs 4) cell)⟩,rfl,⟨ho,hdl,(λ_ _ _ _ _ z=>nomatch z),(λ_ _ _ z=>nomatch z),(λa b z=>by cases z;exact ⟨Ou,Ou⟩),(λ_ _ z=>nomatch z)⟩,λG=> ?_⟩
   have ad:=add3 (t:="town") (nm:=mk) (dn:=dn) (dl:=gx xs 1 % 6) (ds:= [.int (number (gx xs 3) cell),.int (number (gx xs 4) cell)]) (by simp);rw [hd];unfold Qd Yb;simp [-Rk,a2,h2,h3,a3,a4,n3,n4,ad,K7,eo,<-edl,Cy]
  ·have cu':cutD (xs.map D.int) (some 8) (some 32)=((xs.drop 8).take (32 - 8)).map D.int:=Sd (xs:=xs) (a:=8) (b:=32) (by lia) (by lia);have hr:=λ(p:Bool) (G:DH)=>ZMU (xs:=(xs.drop 8).take (32 - 8)) (big:=cell) (yr:=yr) (p:=p) (λx h=>hx x (qF (qG h))) (by simp;lia) G
   generalize (xs.drop 8).take (32 - 8)=ys at *;have fz:∀G:DH,freeze G (.ok (.ref G.length) (G++ [.lst (ys.map D.int)]))=.ok (.fl (ys.map D.int)) G:=λG=>Do Gp
   by_cases hpm:1 < n/\0 < gx xs 5 % 3
   ·have hn1:(1:Int) < (n:Int):=by lia
    have hrt:=hr true;have ln:=ZEJ (xs:=ys) (big:=cell) (yr:=yr) (p:=true) 3 0 0;obtain ⟨v,hv⟩:=ZQv (r:=ruF ys cell yr true 3 0 0) (by lia) ln.2 ZKS;obtain ⟨v2,hv2⟩:=ZPk (Qn hx 4);obtain ⟨t,et⟩:∃t:Nat,((k:Int) + 1 + gx xs 6 % ((n:Int) - 1)) % (n:Int)=t:=⟨(((k:Int) + 1 + gx xs 6 % ((n:Int) - 1)) % (n:Int)).toNat,by have:=qA ((k:Int) + 1 + gx xs 6 % ((n:Int) - 1)) (show (n:Int)≠0 by lia);lia⟩
    have ht:t < n:=by have:=qT ((k:Int) + 1 + gx xs 6 % ((n:Int) - 1)) (show (0:Int) < (n:Int) by lia);lia
    have hnt:atI (nm.map D.str) (t:Int)=some (.str (nm[t]'(by lia))):=ZCw (by lia);have hp1:(0:Int) < (n:Int) - 1:=by lia
    have hp2:(0:Int) < (n:Int):=by lia
    have hp3:0 < n:=by lia
    have emt:nm[t]'(by lia)=(Ib nm t):=Yq (by lia);rw [emt] at hnt;obtain ⟨pd,epd⟩:∃pd:Nat,1 + gx xs 7 % 5=pd:=⟨(1 + gx xs 7 % 5).toNat,by lia⟩;have hrg:=Yj (xs:=ys) (big:=cell) (yr:=yr) (p:=true) 3 0 0;generalize ruF ys cell yr true 3 0 0=r at *
    refine ⟨⟨mk,o,dl,.basin (number (gx xs 3) cell) r (some (t,pd,v + v2))⟩,rfl,⟨ho,hdl,(λb r' to d m z=>by cases z;lia),(λb r' q z=>by cases z;exact ⟨Ou,λs hs=>(hrg s hs).1⟩),(λ_ _ z=>nomatch z),(λ_ _ z=>nomatch z)⟩,λG=> ?_⟩
    have ad:=add3 (t:="basin") (nm:=mk) (dn:=dn) (dl:=gx xs 1 % 6) (ds:= [.int (number (gx xs 3) cell),.tup (r.map Ej),.tup [.str ((Ib nm t)),.int (1 + gx xs 7 % 5),.int (v + v2)]]) (by simp);rw [hd];unfold Qd Yb ZCj ZBj ZDC ZDn ZEO;simp [-Rk,a2,h2,h3,hn1,hpm,a5,cu',fz,hrt,a6,hp1,hp2,hp3,et,hnt,a7,hv,a4,hv2,a3,n3,ad,K7,Tq,eo,<-edl,<-epd,Cy]
   ·have hrt:=hr false;have hrg:=Yj (xs:=ys) (big:=cell) (yr:=yr) (p:=false) 3 0 0;generalize ruF ys cell yr false 3 0 0=r at *
    refine ⟨⟨mk,o,dl,.basin (number (gx xs 3) cell) r none⟩,rfl,⟨ho,hdl,(λb r' to d m z=>nomatch z),(λb r' q z=>by cases z;exact ⟨Ou,λs hs=>(hrg s hs).1⟩),(λ_ _ z=>nomatch z),(λb r' z=>by cases z;exact λs hs=>(hrg s hs).2 rfl)⟩,λG=> ?_⟩
    have ad:=add3 (t:="basin") (nm:=mk) (dn:=dn) (dl:=gx xs 1 % 6) (ds:= [.int (number (gx xs 3) cell),.tup (r.map Ej),.non]) (by simp);rw [hd];unfold Qd Yb ZCj ZBj ZDC ZDn ZEO;by_cases hn1:1 < n
    ·have hn1':(1:Int) < (n:Int):=by lia
     have h5:¬0 < gx xs 5 % 3:=λz=>hpm ⟨hn1,z⟩
     simp [-Rk,a2,h2,h3,hn1,hn1',h5,a5,cu',fz,hrt,a3,n3,ad,K7,Tq,eo,<-edl,Cy]
    ·have hn1':¬(1:Int) < (n:Int):=by lia
     simp [-Rk,a2,h2,h3,hn1,hn1',cu',fz,hrt,a3,n3,ad,K7,Tq,eo,<-edl,Cy]
theorem ZOs (hat:at_<=1000) (G:DH):∃h:Hs,GoodH h/\1<=h.n/\(∀k,k < h.n->PlG h.n k (h.pl k))/\R9 [.fl (ns.map D.int),.int at_] G=.ok h.enc G:=by
 have ca:=λ(k:Nat) (G:DH)=>Ky (ns:=ns) (k:=(k:Int)) (G:=G) (by lia)
 have c0:=ca at_;have c1:∀G,Ff [.fl (ns.map D.int),.int ((at_:Int) + 1)] G=.ok (.int (cellAt ns ((at_:Int) + 1))) G:=λG=>Ky (by lia)
 have c2:∀G,Ff [.fl (ns.map D.int),.int ((at_:Int) + 2)] G=.ok (.int (cellAt ns ((at_:Int) + 2))) G:=λG=>Ky (by lia)
 have c3:∀(k:Nat) G,Ff [.fl (ns.map D.int),.int ((at_:Int) + 3 + k)] G=.ok (.int (cellAt ns ((at_:Int) + 3 + k))) G:=λk G=>Ky (by lia)
 obtain ⟨n,en⟩:∃n:Nat,1 + cellAt ns (at_:Int) % 12=n:=⟨(1 + cellAt ns (at_:Int) % 12).toNat,by lia⟩;have hn:n<=12/\1<=n:=by lia
 obtain ⟨nm,hnm,nok,hc⟩:=ZRd (cell:=cellAt ns ((at_:Int) + 2));obtain ⟨y,ey⟩:∃y:Int,1 + cellAt ns ((at_:Int) + 1) % 24=y:=⟨_,rfl⟩;have ex:∀k:Nat,∃p:Pl,k < n->(p.nm=(Ib nm k)/\PlG n k p/\∀G,Mw [.fl (nm.map D.str),.int n,.int k,.int y,.int (cellAt ns ((at_:Int) + 3 + k))] G=.ok (K7 nm p) G):=λk=>by
  by_cases hk:k < n
  ·obtain ⟨p,hp⟩:=ZQo hnm hn.1 hk (yr:=y) (cell:=cellAt ns ((at_:Int) + 3 + k));exact ⟨p,λ_=>hp⟩
  ·exact ⟨ZAk,λz=>absurd z hk⟩
 let P:Nat->Pl:=λk=>(ex k).choose
 have hP:∀k,k < n->((P k).nm=(Ib nm k)/\PlG n k (P k)/\∀G,Mw [.fl (nm.map D.str),.int n,.int k,.int y,.int (cellAt ns ((at_:Int) + 3 + k))] G=.ok (K7 nm (P k)) G):=λk hk=>(ex k).choose_spec hk
 clear_value P
 have hpl:∀k,k < n->(Hs.pl ⟨y,(zX n).map P⟩ k)=P k:=λk hk=>by unfold Hs.pl;simp [zj,hk]
 have hnn:Hs.n ⟨y,(zX n).map P⟩=n:=by simp [Hs.n]
 have nmk:∀k (hk:k < n),(Ib nm k)=nm[k]'(by lia):=λk hk=>(Yq (by lia)).symm
 have edn:∀(k:Nat) (o:Option Nat),(∀d,o=some d->k < d/\d < n)->Hs.dnT ⟨y,(zX n).map P⟩ o=Tu nm o:=λk o ho=>by
  cases o with
  | none=>rfl
  | some d=>
   have:=(ho d rfl).2;show (Hs.pl _ d).nm=(Ib nm d);rw [hpl d this,(hP d this).1]
 have eenc:∀k,k < n->Hs.encP ⟨y,(zX n).map P⟩ (P k)=K7 nm (P k):=λk hk=>by
  have g:=(hP k hk).2.1;have e1:=edn k (P k).dn g.dn;unfold Hs.encP K7;cases ek:(P k).kd with
  | basin b r q=>
   have e2:Hs.Nv ⟨y,(zX n).map P⟩ q=Tq nm q:=by
    cases q with
    | none=>rfl
    | some z=>
     obtain ⟨to,dl,m⟩:=z;have ht:=(g.pump b r to dl m ek).1;show D.tup [.str (Hs.pl _ to).nm,.int dl,.int m]=_;rw [hpl to ht,(hP to ht).1]
     rfl
   simp only [e1,e2]
  | town a b=>simp only [e1]
  | mill a=>simp only [e1]
 refine ⟨⟨y,(zX n).map P⟩,⟨?_,?_,?_,?_,?_,?_,?_,?_,?_⟩,?_,?_,?_⟩
 ·show 0 < y;lia
 ·rw [hnn];lia
 ·intro i j hi hj e;rw [hnn] at hi hj;rw [hpl i hi,hpl j hj,(hP i hi).1,(hP j hj).1,nmk i hi,nmk j hj] at e;exact ZKm nok.nd _ _ e
 ·intro i hi;rw [hnn] at hi;rw [hpl i hi,(hP i hi).1,nmk i hi];exact nok.sea _ (zM _)
 ·intro k d hk e;rw [hnn] at hk ⊢;rw [hpl k hk] at e;exact (hP k hk).2.1.dn d e
 ·intro k hk;rw [hnn] at hk;rw [hpl k hk];exact (hP k hk).2.1.dl
 ·intro k b r to dl m hk e;rw [hnn] at hk ⊢;rw [hpl k hk] at e;exact (hP k hk).2.1.pump b r to dl m e
 ·intro k b r q hk e;rw [hnn] at hk;rw [hpl k hk] at e;exact (hP k hk).2.1.brim b r q e
 ·intro k a b hk e;rw [hnn] at hk;rw [hpl k hk] at e;exact (hP k hk).2.1.town a b e
 ·rw [hnn];lia
 ·intro k hk;rw [hnn] at hk ⊢;rw [hpl k hk];exact (hP k hk).2.1
 ·have fzn:∀G:DH,freeze G (.ok (.ref G.length) (G++ [.lst (nm.map D.str)]))=.ok (.fl (nm.map D.str)) G:=λG=>Do Ks
  have cp:Cp (gV 0) Bj Vk [none,some (.fl (ns.map D.int)),some (.int at_),some (.int n),some (.int y),some (.fl (nm.map D.str))] (Dc 0 n) G=.ok (((zX n).map P).map (Hs.encP ⟨y,(zX n).map P⟩)) G:=by
   rw [zS];exact ZCi (te:=Vk) (S:= [none,some (.fl (ns.map D.int)),some (.int at_),some (.int n),some (.int y),some (.fl (nm.map D.str))]) λk hk=>by unfold Vk;simp [c3,(hP k hk).2.2,eenc k hk]
  have lp:((zX n).map P).length<=1000000:=by simp;lia
  clear nmk eenc edn hpl hnn hP;generalize (zX n).map P=ps at *;generalize hen:ps.map (Hs.encP ⟨y,ps⟩)=es at *;have les:es.length<=1000000:=by rw [<-hen];simpa using lp
  have bes:∀m,bels m es=true:=λm=>by rw [<-hen];exact Ft λ_ _=>Hs.ZNI
  have fzp:freeze G (.ok (.ref G.length) (G++ [.lst (es)]))=.ok (.fl (es)) G:=Do (bes _);have cs:∀a b c d e f':Option D,Bd 1 [0,1,2,3,4] [a,b,c,d,e,f']= [none,a,b,c,d,e]:=λ_ _ _ _ _ _=>rfl
  have hr:inR (n:Int):=Gz (by lia) (by lia);have bp:bels G.length (es)=true:=bes _;show R9 _ G=.ok (.tup [.int y,.tup (ps.map (Hs.encP ⟨y,ps⟩))]) G;rw [hen];unfold R9 ZGO;rw [By];simp [c0,en,c1,ey,c2,hc,fzn,hr,cs,cp,les,fzp,bp,Cy]
theorem ZR4 (hk:¬k < h.n):h.pl k=ZAk:=by
 unfold Hs.pl;rw [zj,z0 (by unfold Hs.n at hk;lia)]
 rfl
theorem Q0 (hk:¬k < h.n):h.dir k=none:=by
 have e:h.dn k=none:=by unfold Hs.dn;rw [ZR4 hk];rfl
 unfold Hs.dir;rw [e]
theorem M3 (g:GoodH h) (e:h.dir k=some d):k < d/\d < h.n/\k < h.n:=by
 by_cases hk:k < h.n
 ·have:=ZPy g hk e;lia
 ·rw [Q0 hk] at e;cases e
noncomputable def Hs.Ka (h:Hs):Nat->Nat->Nat
 | 0,k=>k
 | m + 1,k=>match h.dir k with
  | none=>k
  | some d=>h.Ka m d
def Hs.last (h:Hs) (k:Nat):Nat:=h.Ka h.n k
theorem ZBD (g:GoodH h):∀(m m' k:Nat),h.n<=m + k->h.n<=m' + k->h.Ka m k=h.Ka m' k
 | 0,m',k,e,e'=>by
  have hn:h.dir k=none:=Q0 (by lia);cases m' with
  | zero=>rfl
  | succ m'=>simp [Hs.Ka,hn]
 | m + 1,0,k,e,e'=>by have hn:h.dir k=none:=Q0 (by lia);simp [Hs.Ka,hn]
 | m + 1,m' + 1,k,e,e'=>by
  cases hd:h.dir k with
  | none=>simp [Hs.Ka,hd]
  | some d=>
   have:=M3 g hd;simp [Hs.Ka,hd,ZBD g m m' d (by lia) (by lia)]
theorem Ji (g:GoodH h) (e:h.dir k=none):h.last k=k:=by unfold Hs.last;rw [ZBD g h.n (h.n + 1) k (by lia) (by lia)];simp [Hs.Ka,e]
theorem Kc (g:GoodH h) (e:h.dir k=some d):h.last k=h.last d:=by unfold Hs.last;rw [ZBD g h.n (h.n + 1) k (by lia) (by lia)];simp [Hs.Ka,e]
theorem ZIc (g:GoodH h):∀(m k:Nat),h.n<=m + k->k<=h.last k/\(k < h.n->h.last k < h.n)
 | 0,k,e=>by rw [Ji g (Q0 (by lia))];lia
 | m + 1,k,e=>by
  cases hd:h.dir k with
  | none=>rw [Ji g hd];lia
  | some d=>
   have:=M3 g hd;rw [Kc g hd];have:=ZIc g m d (by lia);lia
theorem Jp (g:GoodH h) (k:Nat):k<=h.last k/\(k < h.n->h.last k < h.n):=ZIc g h.n k (by lia)
def Hs.Hi (h:Hs) (j:Nat):Nat->Int:=λi=>if j<=i then h.last i else i
theorem ZJM (g:GoodH h) {G:DH}:∀(j:Nat) (x y:Option D),j<=h.n->∃x' y',
  Bx (gV 2) Zu (Kh ((j:Int) - 1) j) [some h.enc,some (.ref G.length),x,y] (G++ [.lst (tab h.n (h.Hi j))])=.nx [some h.enc,some (.ref G.length),x',y'] (G++ [.lst (tab h.n (h.Hi 0))])
 | 0,x,y,e=>⟨x,y,by rw [ZPI,Fy]⟩
 | j + 1,x,y,e=>by
  have hj:j < h.n:=by lia
  obtain ⟨x',y',ih⟩:=ZJM g (G:=G) j (some (.int j)) (some (dnD (h.dir j))) (by lia);refine ⟨x',y',?_⟩;have e1:(((j + 1:Nat):Int) - 1)=j:=by lia
  have hb:Zu [some h.enc,some (.ref G.length),some (.int j),y] (G++ [.lst (tab h.n (h.Hi (j + 1)))])=.nx [some h.enc,some (.ref G.length),some (.int j),some (dnD (h.dir j))] (G++ [.lst (tab h.n (h.Hi j))]):=by
   unfold Zu;cases hd:h.dir j with
   | none=>
    have et:tab h.n (h.Hi (j + 1))=tab h.n (h.Hi j):=ZF9 λi hi=>by
     unfold Hs.Hi;by_cases e2:i=j
     ·subst e2;rw [Ji g hd];simp
     ·by_cases e3:j<=i
      ·rw [if_pos e3,if_pos (by lia)]
      ·rw [if_neg e3,if_neg (by lia)]
    simp [Qe g hj,hd,dnD,et]
   | some d=>
    have hl:=M3 g hd;have et:tab h.n (fset (h.Hi (j + 1)) j (h.Hi (j + 1) d))=tab h.n (h.Hi j):=ZF9 λi hi=>by
     unfold Hs.Hi fset;by_cases e2:i=j
     ·subst e2;rw [if_pos rfl,if_pos (by lia),if_pos (by lia),Kc g hd]
     ·rw [if_neg e2];dsimp only;by_cases e3:j<=i
      ·rw [if_pos e3,if_pos (by lia)]
      ·rw [if_neg e3,if_neg (by lia)]
    simp [Qe g hj,hd,dnD,Dr,Ir hl.2.1,Fg,Js,hj,Pn,et]
  rw [e1,ZRs,Et];simp only [Es,R.El,q9,hb,Ew];exact ih
theorem ZRP (g:GoodH h) (G:DH):Zh [h.enc] G=.ok (.ref G.length) (G++ [.lst (tab h.n λi=>(h.last i:Int))]):=by
 obtain ⟨x',y',hL⟩:=ZJM g (G:=G) h.n none none (zK _);have e0:tab h.n (h.Hi h.n)=Dc 0 h.n:=by
  unfold tab Dc;refine qJ λi hi=> ?_
  have:=qX.mp hi;unfold Hs.Hi;rw [if_neg (by lia)];simp
 have e1:h.Hi 0=λi=>(h.last i:Int):=by funext i;unfold Hs.Hi;simp
 rw [e0,e1] at hL;have hn:=g.len;have r1:inR (h.n:Int):=Gz (by lia) (by lia);have r2:inR ((h.n:Int) - 1):=Gz (by lia) (by lia);have r3:inR (-1):=Gz (by lia) (by lia);have e2:((h.n:Int) - 1 - -1).toNat=h.n:=by lia
 have h6:(h.n:Int)<=1000000:=by lia
 have ebr:bels G.length (Dc 0 h.n)=true:=Ft λ_ _=>rfl
 unfold Zh ZGI;rw [By];simp [Eg,Hs.Ob,r1,h6,Fe ebr,r2,r3,ZNG,e2,hL,Fe]
noncomputable def Hs.mem (h:Hs) (m:Nat):List Nat:=(zX h.n).filter λk=>decide (h.last k=m)
theorem mem_iff:k∈h.mem m↔k < h.n/\h.last k=m:=by unfold Hs.mem;rw [jB,qX];simp
theorem Ua:(h.mem m).Pairwise (· < ·):=List.Pairwise.filter _ List.pairwise_lt_range
theorem ZFu:(h.mem m).length<=h.n:=by have:=j8 (λk=>decide (h.last k=m)) (zX h.n);simpa [Hs.mem] using this
theorem ZRi (hs:ms.Pairwise (· < ·)) (hi:i < ms.length) (hj:j < ms.length) (h:ms[i] < ms[j]):i < j:=by
 rcases Nat.lt_trichotomy i j with z | z | z
 ·exact z
 ·subst z;lia
 ·have:=qC.mp hs j i hj hi z;lia
theorem ZI1 (g:GoodH h) (hm:m < h.n) (e:h.last m=m):(h.mem m).getLast?=some m:=by
 have hmem:m∈h.mem m:=mem_iff.mpr ⟨hm,e⟩;have hne:h.mem m≠ []:=λz=>by rw [z] at hmem;cases hmem
 rw [List.getLast?_eq_some_getLast hne]
 congr 1
 have h1:=mem_iff.mp (List.getLast_mem hne);have h2:=(Jp g ((h.mem m).getLast hne)).1;obtain ⟨i,hi,ei⟩:=qB hmem;have h3:m<=(h.mem m).getLast hne:=by
  rw [List.getLast_eq_getElem];by_cases e4:i=(h.mem m).length - 1
  ·subst e4;lia
  ·have:=qC.mp (Ua (h:=h) (m:=m)) i ((h.mem m).length - 1) hi (by lia) (by lia);lia
 lia
def Hs.need (h:Hs) (k:Nat):Int:=match (h.pl k).kd with
 | .town a _=>a
 | _=>0
def Hs.rank (h:Hs) (k:Nat):Int:=match (h.pl k).kd with
 | .town _ b=>b
 | _=>0
noncomputable def Hs.row (h:Hs) (ms:List Nat) (ca:Nat->Int) (k:Nat):Row:=⟨(h.dir k).map λd=>ms.idxOf d,ca k,h.need k,h.rank k⟩
def Hs.rows (h:Hs) (ms:List Nat) (ca:Nat->Int):List Row:=ms.map (h.row ms ca)
theorem idx_map (d:Nat):∀ms:List Nat,(ms.map λ(i:Nat)=>(i:Int)).idxOf (d:Int)=ms.idxOf d
 | []=>rfl
 | m::ms=>by
  rw [zW,List.idxOf_cons,List.idxOf_cons,idx_map d ms];by_cases e:m=d
  ·subst e;simp
  ·have e2:¬((m:Int)=d):=by lia
   have b1:((m:Int) == (d:Int))=false:=by simp [e2]
   have b2:(m == d)=false:=by simp [e]
   rw [b1,b2]
theorem ZFC (g:GoodH h) (hm:∀k∈ms,k < h.n/\∀d,h.dir k=some d->d∈ms) (hl:ms.length<=40) {p:Nat} (hp:G[p]? =some (.lst (tab h.n ca))):∀(ks:List Nat) (acc:List Row) (x1 x2 x3 x4:Option D),(∀k∈ks,k∈ms)->acc.length + ks.length<=40->∃y1 y2 y3 y4,
  Bx (gV 4) Uu (Bg ks) [some h.enc,some (.fl (Bg ms)),some (.ref p),some (.ref G.length),x1,x2,x3,x4] (G++ [.lst (acc.map Row.enc)])=
   .nx [some h.enc,some (.fl (Bg ms)),some (.ref p),some (.ref G.length),y1,y2,y3,y4] (G++ [.lst ((acc++ks.map (h.row ms ca)).map Row.enc)])
 | [],acc,x1,x2,x3,x4,_,_=>⟨x1,x2,x3,x4,by simp [Bg,Fy]⟩
 | k::ks,acc,x1,x2,x3,x4,hk,ha=>by
  obtain ⟨hkn,hkd⟩:=hm k (hk k zV);obtain ⟨y1,y2,y3,y4,ih⟩:=ZFC g hm hl hp ks (acc++ [h.row ms ca k]) (some (.int k)) (some (h.encP (h.pl k))) (some (dnD (h.dir k))) (some (dnD ((h.dir k).map λd=>ms.idxOf d))) (λj hj=>hk j (zZ _ hj)) (by simp at ha ⊢;lia);refine ⟨y1,y2,y3,y4,?_⟩;have hpl:p < G.length:=(zE.mp hp).1;have hgp:∀L:DH,(G++L)[p]? =some (.lst (tab h.n ca)):=λL=>by rw [zT hpl];exact hp
  have ha2:acc.length < 1000000:=by simp at ha;lia
  have ht:h.row ms ca k=⟨(h.dir k).map λd=>ms.idxOf d,ca k,h.need k,h.rank k⟩:=rfl;have hb:Uu [some h.enc,some (.fl (Bg ms)),some (.ref p),some (.ref G.length),some (.int k),x2,x3,x4] (G++ [.lst (acc.map Row.enc)])=
    .nx [some h.enc,some (.fl (Bg ms)),some (.ref p),some (.ref G.length),some (.int k),some (h.encP (h.pl k)),some (dnD (h.dir k)),some (dnD ((h.dir k).map λd=>ms.idxOf d))] (G++ [.lst ((acc++ [h.row ms ca k]).map Row.enc)]):=by
   have hix:∀d,h.dir k=some d->∀G',Qx (.fl (Bg ms)) [.int (d:Int)] G'=.ok (.int (ms.idxOf d:Nat)) G':=λd hd G'=>by
    have e:Bg ms=(ms.map λ(i:Nat)=>(i:Int)).map D.int:=by simp [Bg]
    rw [e,ZPn (ns:=ms.map λ(i:Nat)=>(i:Int)) (by simp [Hq]) (zF.mpr ⟨d,hkd d hd,rfl⟩) (by simp;lia),idx_map]
   unfold Uu;by_cases hT:(h.pl k).kd.isT=true
   ·obtain ⟨a,b,ek⟩:∃a b,(h.pl k).kd=.town a b:=by
     cases e:(h.pl k).kd with
     | town a b=>exact ⟨a,b,rfl⟩
     | basin _ _ _=>rw [e] at hT;cases hT
     | mill _=>rw [e] at hT;cases hT
    have e4:∀G',Ah (h.encP (h.pl k)) (.int 4) G'=.ok (.int a) G':=λG'=>by unfold Hs.encP;rw [ek];simp
    have e5:∀G',Ah (h.encP (h.pl k)) (.int 5) G'=.ok (.int b) G':=λG'=>by unfold Hs.encP;rw [ek];simp
    have en:h.need k=a:=by unfold Hs.need;rw [ek]
    have er:h.rank k=b:=by unfold Hs.rank;rw [ek]
    cases hd:h.dir k with
    | none=>simp [Eg,Hs.Fj hkn,Qe g hkn,hd,dnD,Yu,hT,hgp,Ir hkn,e4,e5,Cg,Dr,Fg,ha2,ht,Row.enc,en,er]
    | some d=>simp [Eg,Hs.Fj hkn,Qe g hkn,hd,dnD,hix d hd,Yu,hT,hgp,Ir hkn,e4,e5,Cg,Dr,Fg,ha2,ht,Row.enc,en,er]
   ·have en:h.need k=0:=by
     unfold Hs.need;cases e:(h.pl k).kd with
     | town a b=>rw [e] at hT;exact absurd rfl hT
     | basin _ _ _=>rfl
     | mill _=>rfl
    have er:h.rank k=0:=by
     unfold Hs.rank;cases e:(h.pl k).kd with
     | town a b=>rw [e] at hT;exact absurd rfl hT
     | basin _ _ _=>rfl
     | mill _=>rfl
    cases hd:h.dir k with
    | none=>simp [Eg,Hs.Fj hkn,Qe g hkn,hd,dnD,Yu,hT,hgp,Ir hkn,Cg,Dr,Fg,ha2,ht,Row.enc,en,er]
    | some d=>simp [Eg,Hs.Fj hkn,Qe g hkn,hd,dnD,hix d hd,Yu,hT,hgp,Ir hkn,Cg,Dr,Fg,ha2,ht,Row.enc,en,er]
  show Bx _ _ (.int k::Bg ks) _ _=_;rw [Et];simp only [Es,R.El,q9,hb,Ew];rw [ih];simp
theorem ZQD (g:GoodH h) (hm:∀k∈ms,k < h.n/\∀d,h.dir k=some d->d∈ms) (hl:ms.length<=40) {p:Nat} (hp:G[p]? =some (.lst (tab h.n ca))):
  Wm [h.enc,.fl (Bg ms),.ref p] G=.ok (.ref G.length) (G++ [.lst ((h.rows ms ca).map Row.enc)]):=by
 obtain ⟨y1,y2,y3,y4,hL⟩:=ZFC g hm hl hp ms [] none none none none (λk hk=>hk) (by simpa using hl);have hL':Bx (gV 4) Uu (Bg ms) [some h.enc,some (.fl (Bg ms)),some (.ref p),some (.ref G.length),none,none,none,none] (G++ [.lst []])=.nx [some h.enc,some (.fl (Bg ms)),some (.ref p),some (.ref G.length),y1,y2,y3,y4] (G++ [.lst ((h.rows ms ca).map Row.enc)]):=hL;unfold Wm ZIS;rw [By];simp [Be,Fe,hL']
theorem Tt (g:GoodH h) (hc:∀k,k < h.n->0<=ca k):Reach (h.rows (h.mem m) ca):=λi r hr=>by
 have hil:i < (h.mem m).length:=by have:=(zE.mp hr).1;simpa [Hs.rows] using this
 have e:r=h.row (h.mem m) ca (h.mem m)[i]:=by unfold Hs.rows at hr;rw [zk,zQ hil] at hr;simpa using hr.symm
 obtain ⟨hk,hlast⟩:=mem_iff.mp (zM hil);subst e;refine ⟨λd hd=> ?_,hc _ hk,?_,?_⟩
 ·have hd':(h.dir (h.mem m)[i]).map (λd=>(h.mem m).idxOf d)=some d:=hd;cases e:h.dir (h.mem m)[i] with
  | none=>rw [e] at hd';cases hd'
  | some d0=>
   rw [e] at hd';have ed:(h.mem m).idxOf d0=d:=by simpa using hd'
   have hl:=M3 g e;have hmem:d0∈h.mem m:=mem_iff.mpr ⟨hl.2.1,by rw [<-Kc g e];exact hlast⟩;have hlt:=qq hmem;have hg:(h.mem m)[(h.mem m).idxOf d0]=d0:=j3 hlt;subst ed;refine ⟨ZRi Ua hil hlt (by rw [hg];exact hl.1),by simpa [Hs.rows] using hlt⟩
 ·show 0<=h.need _;unfold Hs.need;cases e:(h.pl (h.mem m)[i]).kd with
  | town a b=>exact (g.town _ a b hk e).1
  | basin _ _ _=>exact qV _
  | mill _=>exact qV _
 ·show 0<=h.rank _;unfold Hs.rank;cases e:(h.pl (h.mem m)[i]).kd with
  | town a b=>exact (g.town _ a b hk e).2
  | basin _ _ _=>exact qV _
  | mill _=>exact qV _
structure Cs where
 came:Nat->Int
 coming:Nat->Nat->Int
 page:Nat->List Int
 rea:List D
variable {s:Cs}
def I9 (l:List Int):D:=match l with
 | []=>.non
 | _=>.tup (l.map D.int)
@[simp] theorem ZLu {n:Nat} {l:List Int}:bel n (I9 l)=true:=by
 cases l with
 | nil=>rfl
 | cons a l=>simp only [I9,DL.bel];exact Gp
noncomputable def cfl (ds:List D):List (Str×D):=(["house","levels","year_turn","came","coming","page","reaches"]:List Str).zip ds
noncomputable def cflds (i n:Nat) (H LV:D) (yt:Int):List (Str×D):=cfl [H,LV,.int yt,.ref (i + 1),.ref (i + (2 + n)),.ref (i + (3 + n)),.ref (i + (4 + n))]
def Cw (n:Nat) (pg:Nat->List Int):List D:=(zX n).map λk=>I9 (pg k)
def Ec (i n:Nat):List D:=(zX n).map λk=>D.ref (i + (2 + k))
noncomputable def csT (i n:Nat) (H LV:D) (yt:Int) (s:Cs):DH:=.ins "Course" (cflds i n H LV yt):: .lst (tab n s.came)::((zX n).map (λk=>DO.lst (tab 5 (s.coming k)))++ [.lst (Ec i n),.lst (Cw n s.page),.lst s.rea])
noncomputable def csH (G:DH) (n:Nat) (H LV:D) (yt:Int) (s:Cs):DH:=G++csT G.length n H LV yt s
theorem ZP5 {n:Nat} {yt:Int} :(csT i n H LV yt s).length=n + 5:=by simp [csT]
theorem ZGX {n:Nat} {yt:Int} :(csH G n H LV yt s).length=G.length + (n + 5):=by unfold csH;rw [qQ,ZP5]
section
variable {G:DH} {n:Nat} {H LV:D} {yt:Int} {s:Cs}
theorem Qv (j:Nat):(csH G n H LV yt s)[G.length + j]? =(csT G.length n H LV yt s)[j]? :=Vy _ j
theorem Kz:(csH G n H LV yt s)[G.length]? =some (.ins "Course" (cflds G.length n H LV yt)):=Qv 0
theorem Tg:(csH G n H LV yt s)[G.length + 1]? =some (.lst (tab n s.came)):=Qv 1
theorem Yi:(csT i n H LV yt s)[2 + j]? =((zX n).map (λk=>DO.lst (tab 5 (s.coming k)))++ [.lst (Ec i n),.lst (Cw n s.page),.lst s.rea])[j]? :=by
 have e:2 + j=j + 1 + 1:=by lia
 rw [e]
 rfl
theorem ZCd (hk:k < n):(csH G n H LV yt s)[G.length + (2 + k)]? =some (.lst (tab 5 (s.coming k))):=by
 rw [Qv,Yi,zT (by simpa using hk),zk,zL hk]
 rfl
theorem Vn:(csH G n H LV yt s)[G.length + (2 + n)]? =some (.lst (Ec G.length n)):=by rw [Qv,Yi,zH (by simp)];simp
theorem Mm:(csH G n H LV yt s)[G.length + (3 + n)]? =some (.lst (Cw n s.page)):=by
 have e:3 + n=2 + (n + 1):=by lia
 rw [e,Qv,Yi,zH (by simp)];simp
theorem csHe:(csH G n H LV yt s)[G.length + (4 + n)]? =some (.lst s.rea):=by
 have e:4 + n=2 + (n + 2):=by lia
 rw [e,Qv,Yi,zH (by simp)];simp
theorem ZAM (j:Nat) (o:DO):(csH G n H LV yt s).set (G.length + j) o=G++(csT G.length n H LV yt s).set j o:=ZCt _ j o
theorem csS1:(csH G n H LV yt s).set (G.length + 1) (.lst (tab n ca))=csH G n H LV yt {s with came:=ca}:=ZAM 1 _
noncomputable def upd2 (co:Nat->Nat->Int) (k:Nat) (r:Nat->Int):Nat->Nat->Int:=λi=>if i=k then r else co i
theorem ZCL {o:DO}:(csT i n H LV yt s).set (2 + j) o=.ins "Course" (cflds i n H LV yt):: .lst (tab n s.came)::((zX n).map (λk=>DO.lst (tab 5 (s.coming k)))++ [DO.lst (Ec i n),DO.lst (Cw n s.page),DO.lst s.rea]).set j o:=by
 have e:2 + j=j + 1 + 1:=by lia
 rw [e]
 rfl
theorem csSr (hk:k < n) {r:Nat->Int}:(csH G n H LV yt s).set (G.length + (2 + k)) (.lst (tab 5 r))=csH G n H LV yt {s with coming:=upd2 s.coming k r}:=by
 rw [ZAM,ZCL,List.set_append_left _ _ (by simpa using hk)];unfold csH csT
 congr 3
 congr 1
 refine j7 λi=> ?_
 by_cases hi:i < n
 ·by_cases e:k=i
  ·subst e;rw [jV (by simpa using hi),zk,zL hi];simp [upd2]
  ·rw [qU e,zk,zL hi,zk,zL hi];have:i≠k:=λz=>e z.symm
   simp [upd2,this]
 ·rw [z0 (by simp;lia),z0 (by simp;lia)]
theorem Vv:(csH G n H LV yt s).set (G.length + (3 + n)) (.lst (Cw n pg))=csH G n H LV yt {s with page:=pg}:=by
 have e:3 + n=2 + (n + 1):=by lia
 rw [e,ZAM,ZCL,jO _ _ (by simp)];unfold csH csT;simp
theorem csSe {re:List D}:(csH G n H LV yt s).set (G.length + (4 + n)) (.lst re)=csH G n H LV yt {s with rea:=re}:=by
 have e:4 + n=2 + (n + 2):=by lia
 rw [e,ZAM,ZCL,jO _ _ (by simp)];unfold csH csT;simp
theorem Kr:Jx "Course" "house" (.ref G.length) (csH G n H LV yt s)=.ok H (csH G n H LV yt s):=Om Kz rfl
theorem ZGl:Jx "Course" "levels" (.ref G.length) (csH G n H LV yt s)=.ok LV (csH G n H LV yt s):=Om Kz rfl
theorem ZGi:Jx "Course" "year_turn" (.ref G.length) (csH G n H LV yt s)=.ok (.int yt) (csH G n H LV yt s):=Om Kz rfl
theorem Ym:Jx "Course" "came" (.ref G.length) (csH G n H LV yt s)=.ok (.ref (G.length + 1)) (csH G n H LV yt s):=Om Kz rfl
theorem ZFn:Jx "Course" "coming" (.ref G.length) (csH G n H LV yt s)=.ok (.ref (G.length + (2 + n))) (csH G n H LV yt s):=Om Kz rfl
theorem Qa:Jx "Course" "page" (.ref G.length) (csH G n H LV yt s)=.ok (.ref (G.length + (3 + n))) (csH G n H LV yt s):=Om Kz rfl
theorem ZKs:Jx "Course" "reaches" (.ref G.length) (csH G n H LV yt s)=.ok (.ref (G.length + (4 + n))) (csH G n H LV yt s):=Om Kz rfl
theorem Ly {m:Str} {F:List D->DH->R D} {t:DA} (hm:∀i,(cflds i n H LV yt).lookup m=none):Y7 "Course" m F t S (.ref G.length) (csH G n H LV yt s)=(t S (csH G n H LV yt s)).bind λds G2=>F (.ref G.length::ds) G2:=ZPj Kz (hm _)
theorem ZGd:∀i,(cflds i n H LV yt).lookup ("send":Str)=none:=λ_=>rfl
theorem ZDe:∀i,(cflds i n H LV yt).lookup ("send_down":Str)=none:=λ_=>rfl
theorem ZQj:∀i,(cflds i n H LV yt).lookup ("go_basin":Str)=none:=λ_=>rfl
theorem ZMa:∀i,(cflds i n H LV yt).lookup ("go_reach":Str)=none:=λ_=>rfl
theorem ZKp:∀i,(cflds i n H LV yt).lookup ("go":Str)=none:=λ_=>rfl
theorem ZK8:∀i,(cflds i n H LV yt).lookup ("state_behind":Str)=none:=λ_=>rfl
theorem Mt {s':Cs} {d:D} (hb:∀m,bel m d=true):tidy (csH G n H LV yt s) (.ok d (csH G n H LV yt s'))=.ok d (csH G n H LV yt s'):=ZK3 (by rw [ZGX,ZGX]) (hb _)
theorem ZL0 (hk:k < n):atI (Ec i n) (k:Int)=some (.ref (i + (2 + k))):=Gg rfl (by unfold Ec;rw [zk,zL hk];rfl)
theorem ZN0 {l:List Int}:(Cw n pg).set k (I9 l)=Cw n λi=>if i=k then l else pg i:=by
 unfold Cw;refine j7 λi=> ?_
 by_cases hi:i < n
 ·by_cases e:k=i
  ·subst e;rw [jV (by simpa using hi),zk,zL hi];simp
  ·rw [qU e,zk,zL hi,zk,zL hi];have:i≠k:=λz=>e z.symm
   simp [this]
 ·rw [z0 (by simp;lia),z0 (by simp;lia)]
@[simp] theorem ZIO:(Cw n pg).length=n:=by simp [Cw]
noncomputable def Cs.send (s:Cs) (to dl:Nat) (c:Int):Cs:=if dl=0 then {s with came:=fset s.came to (s.came to + c)} else {s with coming:=upd2 s.coming to (fset (s.coming to) (dl - 1) (s.coming to (dl - 1) + c))}
theorem ZFp (ht:to < n) (hd:dl<=5):V1 [.ref G.length,.int to,.int dl,.int c] (csH G n H LV yt s)=.ok .non (csH G n H LV yt (s.send to dl c)):=by
 unfold V1 ZG1;rw [By];by_cases h0:dl=0
 ·subst h0;simp [Ym,Wk Tg (Ir ht),Tg,Js,ht,Pn,csS1,Cs.send,Mt]
 ·have e:((dl:Int) - 1)=((dl - 1:Nat):Int):=by lia
  have h1:dl - 1 < 5:=by lia
  simp [h0,ZFn,Vn,ZL0 ht,e,Wk (ZCd ht) (Ir h1),ZCd ht,Js,h1,Pn,csSr ht,Cs.send,Mt]
end
noncomputable def Hs.Fp (h:Hs) (s:Cs) (k:Nat) (c:Int):Cs:=match h.dn k with
 | none=>s
 | some d=>s.send d (h.pl k).dl c
section
variable {G:DH} {h:Hs} {lv:Nat->Int} {yt:Int} {s:Cs}
theorem ZDT (g:GoodH h) (hk:k < h.n) :Us [.ref G.length,.int k,.int c] (csH G h.n h.enc LV yt s)=.ok .non (csH G h.n h.enc LV yt (h.Fp s k c)):=by
 unfold Us ZG4;rw [By];cases hd:h.dn k with
 | none=>simp [Kr,Oa g hk,hd,dnD,Hs.Fp,Mt]
 | some d=>
  have hl:=g.dn k d hk hd;simp [Kr,Oa g hk,hd,dnD,Ly ZGd,Eg,Hs.Fj hk,ZFp hl.2 (g.dl k hk),Hs.Fp,Mt]
theorem Wa {n:Nat} {d f:Int}:(Cw n pg).set k (.tup [.int a,.int b,.int c,.int d,.int e,.int f])=Cw n λi=>if i=k then [a,b,c,d,e,f] else pg i:=ZN0 (l:= [a,b,c,d,e,f])
noncomputable def Hs.basin (h:Hs) (yt:Int) (lv:Nat->Int) (s:Cs) (k:Nat):Cs:=match (h.pl k).kd with
 | .basin brim rule pump=>
  let w:=lv k + s.came k;let st:=held yt rule [];let stays:=w - rv w st - pm w st;let lies:=min stays brim;let s1:Cs:={s with page:=λi=>if i=k then [s.came k,0,stays - lies,rv w st,pm w st,lies] else s.page i};let s2:=h.Fp s1 k (rv w st + (stays - lies))
  match pump with
  | none=>s2
  | some (to,dl,_)=>s2.send to dl (pm w st)
 | _=>s
theorem ZM0 (g:GoodH h) (hk:k < h.n) (hB:(h.pl k).kd.isB=true):ZAR [.ref G.length,.int k] (csH G h.n h.enc (.tup (tab h.n lv)) yt s)=.ok .non (csH G h.n h.enc (.tup (tab h.n lv)) yt (h.basin yt lv s k)):=by
 obtain ⟨brim,rule,pump,ek⟩:∃a b c,(h.pl k).kd=.basin a b c:=by
  cases e:(h.pl k).kd with
  | basin a b c=>exact ⟨a,b,c,rfl⟩
  | town _ _=>rw [e] at hB;cases hB
  | mill _=>rw [e] at hB;cases hB
 have e4:∀G',Ah (h.encP (h.pl k)) (.int 4) G'=.ok (.int brim) G':=λG'=>by unfold Hs.encP;rw [ek];simp
 have e5:∀G',Ah (h.encP (h.pl k)) (.int 5) G'=.ok (.tup (rule.map Ej)) G':=λG'=>by unfold Hs.encP;rw [ek];simp
 have e6:∀G',Ah (h.encP (h.pl k)) (.int 6) G'=.ok (h.Nv pump) G':=λG'=>by unfold Hs.encP;rw [ek];simp
 simp only [Hs.basin,ek];unfold ZAR ZEa;rw [By];cases hp:pump with
 | none=>simp [Kr,Eg,Hs.Fj hk,Ym,Tg,Ir hk,e5,ZGi,c_at,ZGl,ZGW,e4,Cg,Qa,Mm,Js,hk,Wa,Vv,Ly ZDe,ZDT g hk,e6,hp,Hs.Nv,Mt]
 | some q=>
  obtain ⟨to,dl,mo⟩:=q;have hl:=g.pump k brim rule to dl mo hk (by rw [ek,hp]);simp [Kr,Eg,Hs.Fj hk,Ym,Tg,Ir hk,e5,ZGi,c_at,ZGl,ZGW,e4,Cg,Qa,Mm,Js,hk,Wa,Vv,Ly ZDe,ZDT g hk,e6,hp,Hs.Nv,Ly ZGd,ZFb g hl.1,ZFp hl.1 hl.2.2,Mt]
end
noncomputable def z3 (ms:List Nat) (T L:Nat->Int):List D:=(zX ms.length).map λi=>D.tup [.int (ms.getD i 0:Nat),.int (T i),.int (L i)]
theorem ZMO {L:Nat->Int} (j:Nat) (G:DH):Gf [.fl (Bg ms),.fl (tab ms.length T),.fl (tab ms.length L)] j G=some (z3 ms T L)[j]? :=by
 unfold Gf z3;by_cases hj:j < ms.length
 ·have e1:(Bg ms)[j]? =some (.int (ms.getD j 0:Nat)):=by unfold Bg;rw [zk,zQ hj];simp [zj,zQ hj]
  simp [Hy,e1,Te hj,zL hj]
 ·have e1:(Bg ms)[j]? =none:=z0 (by simp;lia);have e2:(zX ms.length)[j]? =none:=z0 (by simp;lia);simp [Hy,e1,e2]
def rrow (T L:Nat->Int) (i:Nat):List Int:= [T i + L i,T i,0,L i,0,0]
noncomputable def pgM (ms:List Nat) (T L:Nat->Int) (pg:Nat->List Int) (i:Nat):Nat->List Int:=λk=>if k∈ms.take i then rrow T L (ms.idxOf k) else pg k
theorem ZRe {L:Nat->Int} :pgM ms T L pg 0=pg:=by funext k;simp [pgM]
theorem ZGE (nd:ms.Nodup) (hi:i < ms.length) (hj:j < ms.length) (e:ms[i]=ms[j]):i=j:=by
 rcases Nat.lt_trichotomy i j with z | z | z
 ·exact absurd e (qC.mp nd i j hi hj z)
 ·exact z
 ·exact absurd e.symm (qC.mp nd j i hj hi z)
theorem ZBk (nd:ms.Nodup) (hi:i < ms.length):ms.idxOf ms[i]=i:=by have hl:=qq (zM hi);exact ZGE nd hl hi (j3 hl)
theorem ZMT (nd:ms.Nodup) {L:Nat->Int} (hi:i < ms.length):pgM ms T L pg (i + 1)=λk=>if k=ms.getD i 0 then rrow T L i else pgM ms T L pg i k:=by
 have eg:ms.getD i 0=ms[i]:=by simp [zj,zQ hi]
 funext k;rw [eg];unfold pgM;rw [List.take_succ_eq_append_getElem hi];by_cases e:k=ms[i]
 ·subst e;rw [if_pos rfl,if_pos (jC.mpr (.inr (qE.mpr rfl))),ZBk nd hi]
 ·rw [if_neg e];have:(k∈ms.take i++ [ms[i]])↔k∈ms.take i:=by rw [jC,qE];exact ⟨λh=>h.elim id λz=>absurd z e,.inl⟩
  simp only [this]
section
variable {G:DH} {h:Hs} {LV:D} {yt:Int}
theorem ZIw (g:GoodH h) (hms:∀k∈ms,k < h.n) (nd:ms.Nodup) (hlast:ms.getLast?=some m) {T L:Nat->Int} {s:Cs} {r t:D}:∀(q i:Nat) (x y z:Option D),i + q=ms.length->0 < q->∃x' y' z',
  Bx (Bq 3 (An (gV 4) (An (gV 5) (An (gV 6) Bs)))) N8 ((z3 ms T L).drop i) [some (.ref G.length),some (.fl (Bg ms)),some r,some t,x,y,z] (csH G h.n h.enc LV yt {s with page:=pgM ms T L s.page i})=
   .nx [some (.ref G.length),some (.fl (Bg ms)),some r,some t,x',y',z'] (csH G h.n h.enc LV yt (h.Fp {s with page:=pgM ms T L s.page ms.length} m (L (ms.length - 1))))
 | 0,i,x,y,z,e,h0=>by lia
 | q + 1,i,x,y,z,e,h0=>by
  have hi:i < ms.length:=by lia
  have eg:ms.getD i 0=ms[i]:=by simp [zj,zQ hi]
  have hk:ms.getD i 0 < h.n:=by rw [eg];exact hms _ (zM hi)
  have hmn:m < h.n:=hms m (List.mem_of_getLast? hlast);have e0:(z3 ms T L).drop i=.tup [.int (ms.getD i 0:Nat),.int (T i),.int (L i)]::(z3 ms T L).drop (i + 1):=by rw [zN (by simp [z3];exact hi)];simp [z3]
  have hneg:atI (Bg ms) (-1)=some (.int (m:Nat)):=by
   have hl:0 < ms.length:=by lia
   rw [ZPu (by decide) (by simp;lia)]
   congr 1
   have e3:((-1:Int) + ((Bg ms).length:Int)).toNat=ms.length - 1:=by simp;lia
   simp only [e3];unfold Bg;rw [jS];have e4:ms[ms.length - 1]'(by lia)=m:=by have:=jx (l:=ms);rw [hlast,zQ (by lia)] at this;exact (Option.some.inj this).symm
   rw [e4]
  have hpg:(λk=>if k=ms.getD i 0 then [T i + L i,T i,0,L i,0,0] else pgM ms T L s.page i k)=pgM ms T L s.page (i + 1):=(ZMT nd hi).symm;rw [e0,Et];cases q with
  | zero=>
   have ei:i=ms.length - 1:=by lia
   have em:ms.getD i 0=m:=by have:=jx (l:=ms);rw [hlast,zQ (by lia)] at this;rw [eg];subst ei;exact (Option.some.inj this).symm
   have hb:N8 [some (.ref G.length),some (.fl (Bg ms)),some r,some t,some (.int (ms.getD i 0:Nat)),some (.int (T i)),some (.int (L i))] (csH G h.n h.enc LV yt {s with page:=pgM ms T L s.page i})=
     .nx [some (.ref G.length),some (.fl (Bg ms)),some r,some t,some (.int (ms.getD i 0:Nat)),some (.int (T i)),some (.int (L i))] (csH G h.n h.enc LV yt (h.Fp {s with page:=pgM ms T L s.page ms.length} m (L (ms.length - 1)))):=by
    have e5:i + 1=ms.length:=by lia
    rw [e5] at hpg;unfold N8;simp only [em] at hk hpg ⊢;simp [Cg,Qa,Mm,Js,hk,Wa,hpg,Vv,hneg,Ly ZDe,ZDT g hmn,<-ei]
   refine ⟨some (.int (ms.getD i 0:Nat)),some (.int (T i)),some (.int (L i)),?_⟩;rw [zR (by simp [z3];lia)];simp only [Tv,V3,Ux,Es,R.J7,R.El,q9,hb,Ew,zP,jF,Nat.reduceAdd,if_true,Fy]
  | succ q=>
   have hne:ms.getD i 0≠m:=λz=>by have h1:=jx (l:=ms);rw [hlast,zQ (by lia)] at h1;have h2:=Option.some.inj h1;rw [eg,h2] at z;have:=ZGE nd hi (by lia) z;lia
   have hne':¬((ms.getD i 0:Nat):Int)=(m:Int):=by lia
   have hb:N8 [some (.ref G.length),some (.fl (Bg ms)),some r,some t,some (.int (ms.getD i 0:Nat)),some (.int (T i)),some (.int (L i))] (csH G h.n h.enc LV yt {s with page:=pgM ms T L s.page i})=
     .nx [some (.ref G.length),some (.fl (Bg ms)),some r,some t,some (.int (ms.getD i 0:Nat)),some (.int (T i)),some (.int (L i))] (csH G h.n h.enc LV yt {s with page:=pgM ms T L s.page (i + 1)}):=by
    unfold N8;generalize ms.getD i 0=a at hk hpg hne';simp [Cg,Qa,Mm,Js,hk,Wa,hpg,Vv,hneg,hne']
   obtain ⟨x',y',z',ih⟩:=ZIw g hms nd hlast (T:=T) (L:=L) (s:=s) (r:=r) (t:=t) (q + 1) (i + 1) (some (.int (ms.getD i 0:Nat))) (some (.int (T i))) (some (.int (L i))) (by lia) (by lia);refine ⟨x',y',z',?_⟩;simp only [Tv,V3,Ux,Es,R.J7,R.El,q9,hb,Ew,zP,jF,Nat.reduceAdd,if_true];exact ih
def Hs.Ik (h:Hs) (s:Cs) (m:Nat):Nat->Int:=shr (h.rows (h.mem m) s.came)
noncomputable def Hs.Hb (h:Hs) (s:Cs) (m:Nat):Nat->Int:=gath (h.rows (h.mem m) s.came) λi=>col Row.water (h.rows (h.mem m) s.came) i - h.Ik s m i
noncomputable def Hs.reach (h:Hs) (s:Cs) (m:Nat):Cs:=
 let s1:=h.Fp {s with page:=pgM (h.mem m) (h.Ik s m) (h.Hb s m) s.page (h.mem m).length} m (h.Hb s m ((h.mem m).length - 1))
 {s1 with rea:=s1.rea++ [.tup [.fl (Bg (h.mem m)),.fl ((h.rows (h.mem m) s.came).map Row.enc)]]}
theorem Yo {n:Nat} (hb:∀m,bels m ds=true):freeze (csH G n H LV yt s) (.ok (.ref (csH G n H LV yt s).length) (csH G n H LV yt s++ [.lst ds]))=.ok (.fl ds) (csH G n H LV yt s):=Do (hb _)
theorem Rv:(h.rows ms ca).length=ms.length:=by simp [Hs.rows]
theorem ZQQ (g:GoodH h) (hm:m < h.n) (hl:h.last m=m) (hc:∀k,k < h.n->0<=s.came k) (hre:s.rea.length<=100):W7 [.ref G.length,.fl (Bg (h.mem m))] (csH G h.n h.enc LV yt s)=.ok .non (csH G h.n h.enc LV yt (h.reach s m)):=by
 have hR:=Tt g (m:=m) hc;have hlen:(h.rows (h.mem m) s.came).length<=40:=by have:=ZFu (h:=h) (m:=m);have:=g.len;rw [Rv];lia
 have hmem:m∈h.mem m:=mem_iff.mpr ⟨hm,hl⟩;have hpos:0 < (h.mem m).length:=j4 hmem;have nd:(h.mem m).Nodup:=(Ua (h:=h) (m:=m)).imp λhab=>zD hab
 have cr:=ZQD g (ms:=h.mem m) (λk hk=>⟨(mem_iff.mp hk).1,λd hd=>by have h1:=mem_iff.mp hk;have h2:=M3 g hd;exact mem_iff.mpr ⟨h2.2.1,by rw [<-Kc g hd];exact h1.2⟩⟩) (by rw [<-Rv (h:=h) (ca:=s.came)];exact hlen) (p:=G.length + 1) (ca:=s.came) (G:=csH G h.n h.enc LV yt s) Tg
 have cs:=ZQF hR hlen (csH G h.n h.enc LV yt s);have cp:=ZHz hR hlen (t:=.fl (tab (h.rows (h.mem m) s.came).length (shr (h.rows (h.mem m) s.came)))) (T:=shr (h.rows (h.mem m) s.came)) (G:=csH G h.n h.enc LV yt s) rfl;rw [Rv] at cs cp;obtain ⟨x',y',z',hL⟩:=ZIw (G:=G) (LV:=LV) (yt:=yt) g (ms:=h.mem m) (λk hk=>(mem_iff.mp hk).1) nd (ZI1 g hm hl) (T:=h.Ik s m) (L:=h.Hb s m) (s:=s) (r:=.fl ((h.rows (h.mem m) s.came).map Row.enc)) (t:=.fl (tab (h.mem m).length (h.Ik s m))) (h.mem m).length 0 none none none (by lia) hpos
 rw [ZRe,xV] at hL;have hz:∀S G',Ef (Gf [.fl (Bg (h.mem m)),.fl (tab (h.mem m).length (h.Ik s m)),.fl (tab (h.mem m).length (h.Hb s m))]) (Bq 3 (An (gV 4) (An (gV 5) (An (gV 6) Bs)))) N8 (h.mem m).length 0 S G'=Bx (Bq 3 (An (gV 4) (An (gV 5) (An (gV 6) Bs)))) N8 (z3 (h.mem m) (h.Ik s m) (h.Hb s m)) S G':=λS G'=>T7 ZMO (by simp [z3])
 have eT:shr (h.rows (h.mem m) s.came)=h.Ik s m:=rfl;have eL:gath (h.rows (h.mem m) s.came) (λi=>col Row.water (h.rows (h.mem m) s.came) i - h.Ik s m i)=h.Hb s m:=rfl;rw [eT] at cs cp;rw [eL] at cp;have hre2:∀s':Cs,s'.rea=s.rea->s'.rea.length < 1000000:=λs' e=>by rw [e];lia
 have ers:∀s':Cs,∀k c,(h.Fp s' k c).rea=s'.rea:=λs' k c=>by
  unfold Hs.Fp;cases h.dn k with
  | none=>rfl
  | some d=>simp only [Cs.send];split <;> rfl
 have el1:=hre2 _ (ers {s with page:=pgM (h.mem m) (h.Ik s m) (h.Hb s m) s.page (h.mem m).length} m (h.Hb s m ((h.mem m).length - 1)));simp only [Hs.reach];generalize h.Fp {s with page:=pgM (h.mem m) (h.Ik s m) (h.Hb s m) s.page (h.mem m).length} m (h.Hb s m ((h.mem m).length - 1))=s1 at hL el1;have hS:{s with page:=s.page}=s:=rfl;have ht:∀G',tidy G' (.ok (.tup [.fl (Bg (h.mem m)),.fl ((h.rows (h.mem m) s.came).map Row.enc)]) G')=.ok (.tup [.fl (Bg (h.mem m)),.fl ((h.rows (h.mem m) s.came).map Row.enc)]) G':=λG'=>Cy (by simp)
 unfold W7 ZGr;rw [By];simp [Kr,Ym,cr,Yo,cs,cp,Hz,Lk,lenOf,hz,hL,Cg,ht,ZKs,csHe,el1,csSe,Mt]
end
noncomputable def Cs.NN (n:Nat) (s:Cs):Prop:=(∀k,k < n->0<=s.came k)/\∀k j,k < n->j < 5->0<=s.coming k j
theorem Cs.NN.send {n:Nat} (h:s.NN n) (hc:0<=c):(s.send to dl c).NN n:=by
 unfold Cs.send;split
 ·refine ⟨λk hk=> ?_,h.2⟩;simp only [fset];split
  ·rename_i e;subst e;have:=h.1 k hk;lia
  ·exact h.1 k hk
 ·refine ⟨h.1,λk j hk hj=> ?_⟩;simp only [upd2];split
  ·rename_i e;subst e;simp only [fset];split
   ·rename_i e2;subst e2;have:=h.2 k _ hk hj;lia
   ·exact h.2 k j hk hj
  ·exact h.2 k j hk hj
theorem Cs.NN.down {n:Nat} (h:s.NN n) {hs:Hs} (hc:0<=c):(hs.Fp s k c).NN n:=by
 unfold Hs.Fp;cases hs.dn k with
 | none=>exact h
 | some d=>exact h.send hc
theorem ZJX {s:Stp}:0<=cub w s:=by unfold cub;lia
theorem ZD2 {w:Int}:∀{st:List Stp},0<=rv w st
 | []=>qV _
 | s::r=>by
  have h1:=ZD2 (w:=w) (st:=r);have h2:=ZJX (w:=w) (s:=s);unfold rv
  split <;> lia
theorem ZDY {w:Int}:∀{st:List Stp},0<=pm w st
 | []=>qV _
 | s::r=>by
  have h1:=ZDY (w:=w) (st:=r);have h2:=ZJX (w:=w) (s:=s);unfold pm
  split <;> lia
theorem Cs.NN.page {n:Nat} (h:s.NN n) :({s with page:=pg}:Cs).NN n:=h
theorem Xq:(s.send to dl c).rea=s.rea/\(s.send to dl c).page=s.page:=by
 unfold Cs.send
 split <;> exact ⟨rfl,rfl⟩
theorem M7:(h.Fp s k c).rea=s.rea/\(h.Fp s k c).page=s.page:=by
 unfold Hs.Fp;cases h.dn k with
 | none=>exact ⟨rfl,rfl⟩
 | some d=>exact Xq
section
variable {h:Hs} {yt:Int} {lv:Nat->Int} {s:Cs}
theorem ZMn (hs:s.NN h.n):(h.basin yt lv s k).NN h.n:=by
 unfold Hs.basin;cases (h.pl k).kd with
 | basin brim rule pump=>
  simp only;have a1:=ZD2 (w:=lv k + s.came k) (st:=held yt rule []);have a2:=ZDY (w:=lv k + s.came k) (st:=held yt rule []);cases pump with
  | none=>exact hs.page.down (by lia)
  | some q=>
   obtain ⟨to,dl,mo⟩:=q;exact Cs.NN.send (hs.page.down (by lia)) a2
 | town _ _=>exact hs
 | mill _=>exact hs
theorem ZK5:(h.basin yt lv s k).rea=s.rea:=by
 unfold Hs.basin;cases (h.pl k).kd with
 | basin brim rule pump=>
  simp only;cases pump with
  | none=>rw [M7.1]
  | some q=>obtain ⟨to,dl,mo⟩:=q;simp only;rw [Xq.1,M7.1]
 | town _ _=>rfl
 | mill _=>rfl
theorem ZBg (hB:(h.pl k).kd.isB=true):((h.basin yt lv s k).page k).length=6/\∀i,i≠k->(h.basin yt lv s k).page i=s.page i:=by
 unfold Hs.basin;cases e:(h.pl k).kd with
 | basin brim rule pump=>
  simp only;cases pump with
  | none=>
   simp only;rw [M7.2];exact ⟨by simp,λi hi=>by simp [hi]⟩
  | some q=>
   obtain ⟨to,dl,mo⟩:=q;simp only;rw [Xq.2,M7.2];exact ⟨by simp,λi hi=>by simp [hi]⟩
 | town _ _=>rw [e] at hB;cases hB
 | mill _=>rw [e] at hB;cases hB
theorem ZMm (g:GoodH h) (hs:s.NN h.n) (hi:i < (h.mem m).length):0<=h.Hb s m i:=by have hR:=Tt g (m:=m) hs.1;have hsi:=ZCq hR;have:=hsi.p0 i (by rw [Rv];exact hi);rw [hsi.pg] at this;exact this
theorem ZMv (g:GoodH h) (hm:m < h.n) (hl:h.last m=m) (hs:s.NN h.n):(h.reach s m).NN h.n:=by have hpos:0 < (h.mem m).length:=j4 (mem_iff.mpr ⟨hm,hl⟩);unfold Hs.reach;exact Cs.NN.down (s:={s with page:=pgM (h.mem m) (h.Ik s m) (h.Hb s m) s.page (h.mem m).length}) hs.page (ZMm g hs (by lia))
theorem ZMk:(h.reach s m).rea.length=s.rea.length + 1:=by unfold Hs.reach;simp only [qQ,j6];rw [M7.1]
theorem ZEL:(h.reach s m).page k=if k∈h.mem m then rrow (h.Ik s m) (h.Hb s m) ((h.mem m).idxOf k) else s.page k:=by unfold Hs.reach;simp only;rw [M7.2];unfold pgM;rw [jI (zK _)]
noncomputable def Hs.step (h:Hs) (yt:Int) (lv:Nat->Int) (s:Cs) (k:Nat):Cs:=if (h.pl k).kd.isB=true then h.basin yt lv s k else if h.last k=k then h.reach s k else s
noncomputable def Hs.goF (h:Hs) (yt:Int) (lv:Nat->Int):Nat->Nat->Cs->Cs
 | 0,_,s=>s
 | m + 1,k,s=>h.goF yt lv m (k + 1) (h.step yt lv s k)
theorem ZIA (g:GoodH h) (hk:k < h.n) (hs:s.NN h.n):(h.step yt lv s k).NN h.n:=by
 unfold Hs.step;split
 ·exact ZMn hs
 ·split
  ·rename_i e;exact ZMv g hk e hs
  ·exact hs
theorem ZQl:(h.step yt lv s k).rea.length<=s.rea.length + 1:=by
 unfold Hs.step;split
 ·rw [ZK5];lia
 ·split
  ·rw [ZMk];lia
  ·lia
end
section
variable {G:DH} {h:Hs} {yt:Int} {lv:Nat->Int}
theorem Wo {β:Type} {f f':α->Option β}:∀{l:List α},(∀x∈l,f x=f' x)->l.filterMap f=l.filterMap f'
 | [],_=>rfl
 | x::l,hl=>by rw [qz,qz,hl x zV,Wo λy hy=>hl y (zZ _ hy)]
theorem ZRC (hS:Bd 2 [2] S= [none,none,some (.int k)]) (G:DH):Dk (Eo 0 (.fl (tab h.n λi=>(h.last i:Int)))) (Bq 2 (An (gV 0) (An (gV 1) Bs))) U8 Z1 (Bd 2 [2] S) h.n 0 G=.ok (Bg (h.mem k)) G:=by
 have he:Dz (tab h.n λi=>(h.last i:Int))=(zX h.n).map λ(i:Nat)=>D.tup [.int (i:Int),.int (h.last i:Int)]:=by refine qK (by simp [Dz]) λi h1 h2=>by simp [Dz,tab]
 rw [Wr (F:=λd=>match d with | .tup [.int i,.int e]=>if e=(k:Int) then some (.int i) else none | _=>none) (λj=>Z4 j G) (λx hx=> ?_) (by rw [Ko];simp)]
 ·congr 1
  rw [he,qZ];unfold Hs.mem Bg;rw [<-List.filterMap_eq_filter,List.map_filterMap];refine Wo λi _=> ?_
  by_cases e:h.last i=k
  ·subst e;simp [Option.guard]
  ·have e2:¬((h.last i:Int)=(k:Int)):=by lia
   simp [Option.guard,e,e2]
 ·rw [he] at hx;obtain ⟨i,_,rfl⟩:=zF.mp hx;refine ⟨[some (.int i),some (.int (h.last i:Int)),some (.int k)],by rw [hS];simp,?_⟩;by_cases e:h.last i=k
  ·refine .inr ⟨by unfold U8;simp [e],.int i,by unfold Z1;simp,by simp [e]⟩
  ·have e2:¬((h.last i:Int)=(k:Int)):=by lia
   exact .inl ⟨by unfold U8;simp [e2],by simp [e2]⟩
theorem ZHv (g:GoodH h):∀(m k:Nat) (s:Cs) (x y:Option D),k + m=h.n->s.NN h.n->s.rea.length<=k->∃x' y',
  Bx (Bq 2 (An (gV 2) (An (gV 3) Bs))) Pa ((Dz (tab h.n λi=>(h.last i:Int))).drop k) [some (.ref G.length),some (.fl (tab h.n λi=>(h.last i:Int))),x,y] (csH G h.n h.enc (.tup (tab h.n lv)) yt s)=
   .nx [some (.ref G.length),some (.fl (tab h.n λi=>(h.last i:Int))),x',y'] (csH G h.n h.enc (.tup (tab h.n lv)) yt (h.goF yt lv m k s))
 | 0,k,s,x,y,e,_,_=>⟨x,y,by rw [zR (by rw [Ko];simp;lia),Fy];rfl⟩
 | m + 1,k,s,x,y,e,hs,hre=>by
  have hk:k < h.n:=by lia
  have hn:=g.len;have hre2:=ZQl (h:=h) (yt:=yt) (lv:=lv) (s:=s) (k:=k);obtain ⟨x',y',ih⟩:=ZHv g m (k + 1) (h.step yt lv s k) (some (.int k)) (some (.int (h.last k:Int))) (by lia) (ZIA g hk hs) (by lia);refine ⟨x',y',?_⟩;have e0:(Dz (tab h.n λi=>(h.last i:Int))).drop k=.tup [.int k,.int (h.last k:Int)]::(Dz (tab h.n λi=>(h.last i:Int))).drop (k + 1):=by rw [zN (by rw [Ko];simpa using hk)];simp [Dz,tab]
  have hml:(h.mem k).length<=1000000:=by have:=ZFu (h:=h) (m:=k);lia
  have hb:Pa [some (.ref G.length),some (.fl (tab h.n λi=>(h.last i:Int))),some (.int k),some (.int (h.last k:Int))] (csH G h.n h.enc (.tup (tab h.n lv)) yt s)=
    .nx [some (.ref G.length),some (.fl (tab h.n λi=>(h.last i:Int))),some (.int k),some (.int (h.last k:Int))] (csH G h.n h.enc (.tup (tab h.n lv)) yt (h.step yt lv s k)):=by
   unfold Pa Hs.step;by_cases hB:(h.pl k).kd.isB=true
   ·simp [Kr,Eg,Hs.Fj hk,Pr,hB,Ly ZQj,ZM0 g hk hB]
   ·by_cases hl:h.last k=k
    ·have hc:Dk (Eo 0 (.fl (tab h.n λi=>(h.last i:Int)))) (Bq 2 (An (gV 0) (An (gV 1) Bs))) U8 Z1 (Bd 2 [2] [some (.ref G.length),some (.fl (tab h.n λi=>(h.last i:Int))),some (.int k),some (.int (k:Int))]) h.n 0 (csH G h.n h.enc (.tup (tab h.n lv)) yt s)=.ok (Bg (h.mem k)) (csH G h.n h.enc (.tup (tab h.n lv)) yt s):=ZRC rfl _;simp [Kr,Eg,Hs.Fj hk,Pr,hB,hl,Ly ZMa,Iv,Lk,lenOf,hc,Be,hml,Yo,ZQQ g hk hl hs.1 (by lia)]
    ·have hl':¬((h.last k:Int)=(k:Int)):=by lia
     simp [Kr,Eg,Hs.Fj hk,Pr,hB,hl,hl']
  rw [e0,Et];simp only [Tv,V3,Ux,Es,R.J7,R.El,q9,hb,Ew,zP,jF,Nat.reduceAdd,if_true];exact ih
theorem ZJt (g:GoodH h) (hs:s.NN h.n) (hre:s.rea= []):Yk [.ref G.length] (csH G h.n h.enc (.tup (tab h.n lv)) yt s)=.ok .non (csH G h.n h.enc (.tup (tab h.n lv)) yt (h.goF yt lv h.n 0 s)):=by
 obtain ⟨x',y',hL⟩:=ZHv (G:=G) (yt:=yt) (lv:=lv) g h.n 0 s none none (by lia) hs (by rw [hre];simp);rw [xV] at hL;unfold Yk ZGD;rw [By];have hz:∀S G',Ef (Eo 0 (.fl (tab h.n λi=>(h.last i:Int)))) (Bq 2 (An (gV 2) (An (gV 3) Bs))) Pa h.n 0 S G'=Bx (Bq 2 (An (gV 2) (An (gV 3) Bs))) Pa (Dz (tab h.n λi=>(h.last i:Int))) S G':=λS G'=>T7 Z4 (by rw [Ko];simp)
 simp [Kr,ZRP g,Yo,Iv,Lk,lenOf,hz,hL,Mt]
end
noncomputable def Dw (n:Nat) (co:Nat->Nat->Int):List D:=(zX n).map λk=>D.tup (tab 5 (co k))
noncomputable def stD (n:Nat) (lv:Nat->Int) (co:Nat->Nat->Int):D:=.tup [.tup (tab n lv),.tup (Dw n co)]
@[simp] theorem ZTB {n:Nat} :bels m (Dw n co)=true:=Ft λk _=>by simp [Oi]
@[simp] theorem ZL7 {n:Nat} :bels m (Cw n pg)=true:=Ft λk _=>ZLu
@[simp] theorem ZTG {n:Nat} :(Dw n co).length=n:=by simp [Dw]
noncomputable def Hu (co:Nat->Nat->Int):Nat->Nat->Int:=λk j=>if j < 4 then co k (j + 1) else 0
noncomputable def cs0 (co:Nat->Nat->Int) (fl:Nat->Int):Cs:=⟨λk=>fl k + co k 0,Hu co,λ_=> [],[]⟩
theorem tab5:tab 5 F= [.int (F 0),.int (F 1),.int (F 2),.int (F 3),.int (F 4)]:=rfl
theorem Nb {c f:Str} {fs:List (Str×D)} {d:D} (hl:fs.length < 1000):Qg c f (.ref G.length) d S (G++ .ins c fs::L)=.nx S (G++ .ins c (Hr f d fs)::L):=by
 rw [ZPJ (fs:=fs) (by rw [Dr];rfl) hl,Fg]
 rfl
theorem ZQm {n:Nat} (G:DH):Dk (Gf [.tup (tab n fl),.tup (Dw n co)]) (Bq 2 (An (gV 0) (An (gV 1) Bs))) Bj Vp (Bd 2 [] S) n 0 G=.ok (tab n λk=>fl k + co k 0) G:=by
 have he:Nj (tab n fl) (Dw n co)=(zX n).map λ(i:Nat)=>D.tup [.int (fl i),.tup (tab 5 (co i))]:=by refine qK (by simp [Nj]) λi h1 h2=>by simp [Nj,tab,Dw]
 rw [Wr (F:=λd=>match d with | .tup [.int c,.tup (.int a::_)]=>some (.int (c + a)) | _=>none) (λj=>ZDL (R8 (xs:=tab n fl)) (R8 (xs:=Dw n co)) j) (λx hx=> ?_) (by rw [he];simp)]
 ·congr 1
  rw [he,qZ];show (zX n).filterMap (λi=>some (D.int (fl i + co i 0)))=_;rw [qY]
  rfl
 ·rw [he] at hx;obtain ⟨i,_,rfl⟩:=zF.mp hx;refine ⟨[some (.int (fl i)),some (.tup (tab 5 (co i)))],by simp [Bd],.inr ⟨rfl,.int (fl i + co i 0),?_,by simp [tab5]⟩⟩;unfold Vp;simp [tab5]
theorem ZNN (G:DH):Tj [some (.tup (tab 5 (co k)))] G=.ok (.ref G.length) (G++ [.lst (tab 5 (Hu co k))]):=by
 have hcut:cutD (tab 5 (co k)) (some 1) none= [.int (co k 1),.int (co k 2),.int (co k 3),.int (co k 4)]:=rfl;have h1:Li [.tup [.int (co k 1),.int (co k 2),.int (co k 3),.int (co k 4)]] G=.ok (.ref G.length) (G++ [.lst [.int (co k 1),.int (co k 2),.int (co k 3),.int (co k 4)]]):=rfl;have h2:Av (.fl [.int (co k 1),.int (co k 2),.int (co k 3),.int (co k 4)]) (.fl [.int 0]) G=.ok (.ref G.length) (G++ [.lst (tab 5 (Hu co k))]):=rfl
 have hf:∀ds:List D,bels G.length ds=true->freeze G (.ok (.ref G.length) (G++ [.lst ds]))=.ok (.fl ds) G:=λds hb=>Do hb
 unfold Tj;simp [My,K9,hcut,ZBh,h1,hf,Be,h2,Fe]
theorem ZJP {n:Nat} {co:Nat->Nat->Int}:∀(m k:Nat) (G:DH),k + m=n->Cp (gV 0) Bj Tj [none] ((Dw n co).drop k) G=.ok ((zX m).map λj=>D.ref (G.length + j)) (G++(zX m).map λj=>DO.lst (tab 5 (Hu co (k + j))))
 | 0,k,G,e=>by rw [zR (by simp;lia)];simp [Cp]
 | m + 1,k,G,e=>by
  have e0:(Dw n co).drop k=.tup (tab 5 (co k))::(Dw n co).drop (k + 1):=by rw [zN (by simp;lia)];simp [Dw]
  have ih:=ZJP (n:=n) (co:=co) m (k + 1) (G++ [.lst (tab 5 (Hu co k))]) (by lia);rw [e0,Jd];simp only [Es,R.J7,q9,ZNY,if_true,ZNN,ih]
  congr 1
  ·rw [qO,zW,zS]
   congr 1
   refine qJ λj _=> ?_
   simp only [Function.comp,qQ,j6]
   congr 1
   lia
  ·rw [qO,zW,zS,qx]
   congr 1
   show _::_=_::_
   congr 1
   refine qJ λj _=> ?_
   simp only [Function.comp]
   congr 3
   lia
theorem ZPP (g:GoodH h) {at_:Int}:
  S8 [.ref G.length,h.enc,stD h.n lv co,.int at_,.tup (tab h.n fl)] (G++ [.ins "Course" []])=.ok .non (csH G h.n h.enc (.tup (tab h.n lv)) (at_ % h.yr) (cs0 co fl)):=by
 have hn:=g.len;have hyr:=g.yr;have hnl:h.n<=1000000:=by lia
 have p1:∀a:D,Hr "house" a (cfl [])=cfl [a]:=λ_=>rfl
 have p2:∀a b:D,Hr "levels" b (cfl [a])=cfl [a,b]:=λ_ _=>rfl
 have p3:∀a b c:D,Hr "year_turn" c (cfl [a,b])=cfl [a,b,c]:=λ_ _ _=>rfl
 have p4:∀a b c d:D,Hr "came" d (cfl [a,b,c])=cfl [a,b,c,d]:=λ_ _ _ _=>rfl
 have p5:∀a b c d e:D,Hr "coming" e (cfl [a,b,c,d])=cfl [a,b,c,d,e]:=λ_ _ _ _ _=>rfl
 have p6:∀a b c d e f:D,Hr "page" f (cfl [a,b,c,d,e])=cfl [a,b,c,d,e,f]:=λ_ _ _ _ _ _=>rfl
 have p7:∀a b c d e f q:D,Hr "reaches" q (cfl [a,b,c,d,e,f])=cfl [a,b,c,d,e,f,q]:=λ_ _ _ _ _ _ _=>rfl
 have hl:∀ds,(cfl ds).length < 1000:=λds=>by unfold cfl;rw [List.length_zip];have:(["house","levels","year_turn","came","coming","page","reaches"]:List Str).length=7:=rfl;lia
 have hz:∀G',Hz 2 [.tup (tab h.n fl),.tup (Dw h.n co)] G'=.ok (.fn h.n (Gf [.tup (tab h.n fl),.tup (Dw h.n co)])) G':=λG'=>by rw [ZDB R8 R8];simp
 have hcc:=λG'=>ZJP (n:=h.n) (co:=co) h.n 0 G' (by lia)
 simp only [xV,Nat.zero_add] at hcc;have hcs:∀S:DSt,Bd 1 [] S= [none]:=λ_=>rfl
 have epg:zC h.n D.non=Cw h.n λ_=> []:=by unfold Cw;refine qK (by simp) λi h1 h2=>by simp [I9]
 let S:DSt:= [some (.ref G.length),some h.enc,some (stD h.n lv co),some (.int at_),some (.tup (tab h.n fl)),some (.tup (tab h.n lv)),some (.tup (Dw h.n co))];have hS:S= [some (.ref G.length),some h.enc,some (stD h.n lv co),some (.int at_),some (.tup (tab h.n fl)),some (.tup (tab h.n lv)),some (.tup (Dw h.n co))]:=rfl;let R5:DH:=(zX h.n).map λk=>DO.lst (tab 5 (Hu co k))
 have hR5:R5.length=h.n:=by simp [R5]
 have q1:H9 "Course" (dV 0) (dV 1) "house" S (G++ .ins "Course" (cfl []):: [])=.nx S (G++ .ins "Course" (cfl [h.enc]):: []):=by rw [Nk,hS];simp only [ZCf,jG,j2,R.El,Nb (hl _),p1]
 have q2:H9 "Course" (dV 0) (dV 5) "levels" S (G++ .ins "Course" (cfl [h.enc]):: [])=.nx S (G++ .ins "Course" (cfl [h.enc,.tup (tab h.n lv)]):: []):=by rw [Nk,hS];simp only [ZCf,jG,j2,R.El,Nb (hl _),p2]
 have q3:H9 "Course" (dV 0) (dOp Bm (dV 3) (dOp Ah (dV 1) (dC (.int 0)))) "year_turn" S (G++ .ins "Course" (cfl [h.enc,.tup (tab h.n lv)]):: [])=.nx S (G++ .ins "Course" (cfl [h.enc,.tup (tab h.n lv),.int (at_ % h.yr)]):: []):=by rw [Nk,hS];simp [ZKa,hyr,Nb (hl _),p3]
 have q4:H9 "Course" (dV 0) (De (Dh (Hz 2) (Ab (dV 4) (Ab (dV 6) Ae))) 2 [] (Bq 2 (An (gV 0) (An (gV 1) Bs))) Bj Vp) "came" S (G++ .ins "Course" (cfl [h.enc,.tup (tab h.n lv),.int (at_ % h.yr)]):: [])=
   .nx S (G++ .ins "Course" (cfl [h.enc,.tup (tab h.n lv),.int (at_ % h.yr),.ref (G.length + 1)]):: .lst (tab h.n λk=>fl k + co k 0):: []):=by
  rw [Nk,hS];simp [hz,ZQm,Be,hnl,Nb (hl _),p4]
 have q5:H9 "Course" (dV 0) (De (Di (dV 6)) 1 [] (gV 0) Bj Tj) "coming" S (G++ .ins "Course" (cfl [h.enc,.tup (tab h.n lv),.int (at_ % h.yr),.ref (G.length + 1)]):: .lst (tab h.n λk=>fl k + co k 0):: [])=
   .nx S (G++ .ins "Course" (cfl [h.enc,.tup (tab h.n lv),.int (at_ % h.yr),.ref (G.length + 1),.ref (G.length + (2 + h.n))]):: .lst (tab h.n λk=>fl k + co k 0)::(R5++ [.lst (Ec G.length h.n)])):=by
  have hi:G8 (.tup (Dw h.n co)) (G++ .ins "Course" (cfl [h.enc,.tup (tab h.n lv),.int (at_ % h.yr),.ref (G.length + 1)]):: .lst (tab h.n λk=>fl k + co k 0):: [])=.ok (.pure (Dw h.n co)) (G++ .ins "Course" (cfl [h.enc,.tup (tab h.n lv),.int (at_ % h.yr),.ref (G.length + 1)]):: .lst (tab h.n λk=>fl k + co k 0):: []):=rfl;have er:∀L:DH,L.length=2->(zX h.n).map (λj=>D.ref ((G++L).length + j))=Ec G.length h.n:=λL e=>by
   unfold Ec;refine qJ λj _=> ?_
   rw [qQ,e,Nat.add_assoc]
  have hc2:=hcc (G++ .ins "Course" (cfl [h.enc,.tup (tab h.n lv),.int (at_ % h.yr),.ref (G.length + 1)]):: .lst (tab h.n λk=>fl k + co k 0):: []);rw [er _ rfl] at hc2;have hml:∀G',Be (Ec G.length h.n) G'=.ok (.ref G'.length) (G'++ [.lst (Ec G.length h.n)]):=λG'=>by simp [Be,Ec,hnl]
  rw [Nk,hS];simp only [ZL6,ZRy,ZCf,jG,j2,R.J7,hi,hcs,hc2,hml,R.El];have e2:(G++DO.ins "Course" (cfl [h.enc,.tup (tab h.n lv),.int (at_ % h.yr),.ref (G.length + 1)]):: .lst (tab h.n λk=>fl k + co k 0):: []++(zX h.n).map λj=>DO.lst (tab 5 (Hu co j))).length=G.length + (2 + h.n):=by simp;lia
  rw [e2];simp only [qx,List.cons_append,qN];rw [Nb (hl _),p5]
 have q6:H9 "Course" (dV 0) (Ep (dOp Lg (dFn Be (Ab (dC .non) Ae)) (dFn Gr (Ab (dV 5) Ae)))) "page" S (G++ .ins "Course" (cfl [h.enc,.tup (tab h.n lv),.int (at_ % h.yr),.ref (G.length + 1),.ref (G.length + (2 + h.n))]):: .lst (tab h.n λk=>fl k + co k 0)::(R5++ [.lst (Ec G.length h.n)]))=
   .nx S (G++ .ins "Course" (cfl [h.enc,.tup (tab h.n lv),.int (at_ % h.yr),.ref (G.length + 1),.ref (G.length + (2 + h.n)),.ref (G.length + (3 + h.n))]):: .lst (tab h.n λk=>fl k + co k 0)::(R5++ [.lst (Ec G.length h.n),.lst (Cw h.n λ_=> [])])):=by
  rw [Nk,hS];generalize hQ:G++DO.ins "Course" (cfl [h.enc,.tup (tab h.n lv),.int (at_ % h.yr),.ref (G.length + 1),.ref (G.length + (2 + h.n))]):: .lst (tab h.n λk=>fl k + co k 0)::(R5++ [.lst (Ec G.length h.n)])=Q;have eQ:Q.length=G.length + (3 + h.n):=by rw [<-hQ];simp [hR5];lia
  have hrep:Lg (.ref Q.length) (.int (h.n:Int)) (Q++ [.lst [.non]])=.ok (.ref (Q.length + 1)) (Q++ [.lst [.non],.lst (Cw h.n λ_=> [])]):=by rw [ZI6 (d:=.non) (by rw [Dr];rfl) (by lia),epg];simp
  have ht:tidy Q (.ok (.ref (Q.length + 1)) (Q++ [.lst [.non],.lst (Cw h.n λ_=> [])]))=.ok (.ref Q.length) (Q++ [.lst (Cw h.n λ_=> [])]):=Vq _ (k:=1) rfl ZL7;have hst:Qg "Course" "page" (.ref G.length) (.ref Q.length) S (Q++ [.lst (Cw h.n λ_=> [])])=.nx S (G++ .ins "Course" (cfl [h.enc,.tup (tab h.n lv),.int (at_ % h.yr),.ref (G.length + 1),.ref (G.length + (2 + h.n)),.ref (G.length + (3 + h.n))]):: .lst (tab h.n λk=>fl k + co k 0)::(R5++ [.lst (Ec G.length h.n),.lst (Cw h.n λ_=> [])])):=by rw [eQ,<-hQ];simp only [qx,List.cons_append,qN];rw [Nb (hl _),p6]
  rw [hS] at hst;simp [Be,hrep,ht,hst]
 have q7:H9 "Course" (dV 0) (Ep (dFn Be Ae)) "reaches" S (G++ .ins "Course" (cfl [h.enc,.tup (tab h.n lv),.int (at_ % h.yr),.ref (G.length + 1),.ref (G.length + (2 + h.n)),.ref (G.length + (3 + h.n))]):: .lst (tab h.n λk=>fl k + co k 0)::(R5++ [.lst (Ec G.length h.n),.lst (Cw h.n λ_=> [])]))=
   .nx S (G++ .ins "Course" (cfl [h.enc,.tup (tab h.n lv),.int (at_ % h.yr),.ref (G.length + 1),.ref (G.length + (2 + h.n)),.ref (G.length + (3 + h.n)),.ref (G.length + (4 + h.n))]):: .lst (tab h.n λk=>fl k + co k 0)::(R5++ [.lst (Ec G.length h.n),.lst (Cw h.n λ_=> []),.lst []])):=by
  rw [Nk,hS];generalize hQ:G++DO.ins "Course" (cfl [h.enc,.tup (tab h.n lv),.int (at_ % h.yr),.ref (G.length + 1),.ref (G.length + (2 + h.n)),.ref (G.length + (3 + h.n))]):: .lst (tab h.n λk=>fl k + co k 0)::(R5++ [.lst (Ec G.length h.n),.lst (Cw h.n λ_=> [])])=Q;have eQ:Q.length=G.length + (4 + h.n):=by rw [<-hQ];simp [hR5];lia
  have ht:tidy Q (.ok (.ref Q.length) (Q++ [.lst []]))=.ok (.ref Q.length) (Q++ [.lst []]):=Fe rfl;have hst:Qg "Course" "reaches" (.ref G.length) (.ref Q.length) S (Q++ [.lst []])=.nx S (G++ .ins "Course" (cfl [h.enc,.tup (tab h.n lv),.int (at_ % h.yr),.ref (G.length + 1),.ref (G.length + (2 + h.n)),.ref (G.length + (3 + h.n)),.ref (G.length + (4 + h.n))]):: .lst (tab h.n λk=>fl k + co k 0)::(R5++ [.lst (Ec G.length h.n),.lst (Cw h.n λ_=> []),.lst []])):=by rw [eQ,<-hQ];simp only [qx,List.cons_append,qN];rw [Nb (hl _),p7]
  rw [hS] at hst;simp [Be,ht,hst]
 have htd:tidy (G++ [.ins "Course" []]) (.ok .non (csH G h.n h.enc (.tup (tab h.n lv)) (at_ % h.yr) (cs0 co fl)))=.ok .non (csH G h.n h.enc (.tup (tab h.n lv)) (at_ % h.yr) (cs0 co fl)):=ZQ4 λz=>by
  have h1:=congrArg (λl:DH=>l[G.length]?) z;simp only [qQ,j6] at h1;rw [jk (by lia),Kz] at h1;have h2:(G++ [DO.ins "Course" []])[G.length]? =some (.ins "Course" []):=by rw [Dr];rfl
  rw [h2] at h1;simp [cflds,cfl] at h1
 have hfin:G++DO.ins "Course" (cfl [h.enc,.tup (tab h.n lv),.int (at_ % h.yr),.ref (G.length + 1),.ref (G.length + (2 + h.n)),.ref (G.length + (3 + h.n)),.ref (G.length + (4 + h.n))]):: .lst (tab h.n λk=>fl k + co k 0)::(R5++ [.lst (Ec G.length h.n),.lst (Cw h.n λ_=> []),.lst []])=csH G h.n h.enc (.tup (tab h.n lv)) (at_ % h.yr) (cs0 co fl):=rfl;have q0:sAs (dV 2) (Bq 2 (An (gV 5) (An (gV 6) Bs))) [some (.ref G.length),some h.enc,some (stD h.n lv co),some (.int at_),some (.tup (tab h.n fl)),none,none] (G++ [.ins "Course" []])=.nx S (G++ .ins "Course" (cfl []):: []):=by
  simp [stD,hS]
  rfl
 unfold S8 ZFY;rw [By];have h5: [D.ref G.length,h.enc,stD h.n lv co,.int at_,.tup (tab h.n fl)].length=5:=rfl;rw [if_pos h5];have hd:([D.ref G.length,h.enc,stD h.n lv co,.int at_,.tup (tab h.n fl)].map some++zC 2 none)= [some (.ref G.length),some h.enc,some (stD h.n lv co),some (.int at_),some (.tup (tab h.n fl)),none,none]:=rfl;rw [hd];simp only [ZK0,q0,ZPp,q1,q2,q3,q4,q5,q6,q7,hfin,ZOq]
 exact htd
section
variable {h:Hs} {yt:Int} {lv:Nat->Int}
theorem ZCr (g:GoodH h):∀(m k:Nat),h.n<=m + k->h.last k=k∨(h.pl (h.last k)).kd.isB=false
 | 0,k,e=>.inl (Ji g (Q0 (by lia)))
 | m + 1,k,e=>by
  cases hd:h.dir k with
  | none=>exact .inl (Ji g hd)
  | some d=>
   have hl:=M3 g hd;rw [Kc g hd];rcases ZCr g m d (by lia) with z | z
   ·refine .inr ?_;rw [z];unfold Hs.dir at hd;cases h1:h.dn k with
    | none=>rw [h1] at hd;cases hd
    | some d'=>
     rw [h1] at hd;simp only at hd;split at hd
     ·cases hd
     ·rename_i hn;cases hd;cases e2:(h.pl d).kd.isB with
      | false=>rfl
      | true=>exact absurd (.inr (.inr e2)) hn
   ·exact .inr z
theorem ZBR (g:GoodH h):∀(m k:Nat),h.n<=m + k->h.last (h.last k)=h.last k
 | 0,k,e=>by have h1:=Ji g (h:=h) (k:=k) (Q0 (by lia));rw [h1,h1]
 | m + 1,k,e=>by
  cases hd:h.dir k with
  | none=>rw [Ji g hd,Ji g hd]
  | some d=>
   have hl:=M3 g hd;rw [Kc g hd];exact ZBR g m d (by lia)
noncomputable def Hs.done (h:Hs) (j k:Nat):Prop:=if (h.pl k).kd.isB=true then k < j else h.last k < j
theorem ZLd (g:GoodH h) (hk:k < h.n) (hf:∀i,i < h.n->h.done k i->(s.page i).length=6):∀i,i < h.n->h.done (k + 1) i->((h.step yt lv s k).page i).length=6:=λi hi hd=>by
 unfold Hs.step;split
 ·rename_i hB;by_cases e:i=k
  ·subst e;exact (ZBg hB).1
  ·rw [(ZBg hB).2 i e];refine hf i hi ?_;unfold Hs.done at hd ⊢;by_cases hiB:(h.pl i).kd.isB=true
   ·rw [if_pos hiB] at hd ⊢;lia
   ·rw [if_neg hiB] at hd ⊢;rcases jK (h.last i) k with z | z
    ·exact z
    ·have e2:h.last i=k:=by lia
     rcases ZCr g h.n i (by lia) with z2 | z2
     ·rw [z2] at e2;exact absurd e2 e
     ·rw [e2,hB] at z2;cases z2
 ·rename_i hB;split
  ·rename_i hl;rw [ZEL];split
   ·rfl
   ·rename_i hm;refine hf i hi ?_;unfold Hs.done at hd ⊢;by_cases hiB:(h.pl i).kd.isB=true
    ·rw [if_pos hiB] at hd ⊢;rcases jK i k with z | z
     ·exact z
     ·have e2:i=k:=by lia
      rw [e2] at hiB;exact absurd hiB hB
    ·rw [if_neg hiB] at hd ⊢;rcases jK (h.last i) k with z | z
     ·exact z
     ·exact absurd (mem_iff.mpr ⟨hi,by lia⟩) hm
  ·rename_i hl;refine hf i hi ?_;unfold Hs.done at hd ⊢;by_cases hiB:(h.pl i).kd.isB=true
   ·rw [if_pos hiB] at hd ⊢;rcases jK i k with z | z
    ·exact z
    ·have e2:i=k:=by lia
     rw [e2] at hiB;exact absurd hiB hB
   ·rw [if_neg hiB] at hd ⊢;rcases jK (h.last i) k with z | z
    ·exact z
    ·have e2:h.last i=k:=by lia
     have:=ZBR g h.n i (by lia);rw [e2] at this;exact absurd this hl
theorem ZIx (g:GoodH h):∀(m k:Nat) (s:Cs),k + m=h.n->(∀i,i < h.n->h.done k i->(s.page i).length=6)->∀i,i < h.n->((h.goF yt lv m k s).page i).length=6
 | 0,k,s,e,hf,i,hi=>hf i hi (by
   unfold Hs.done;split
   ·lia
   ·have:=(Jp g i).2 hi;lia)
 | m + 1,k,s,e,hf,i,hi=>ZIx g m (k + 1) _ (by lia) (ZLd g (by lia) hf) i hi
theorem ZH8 (g:GoodH h):∀(m k:Nat) (s:Cs),k + m=h.n->s.NN h.n->(h.goF yt lv m k s).NN h.n
 | 0,k,s,e,hs=>hs
 | m + 1,k,s,e,hs=>ZH8 g m (k + 1) _ (by lia) (ZIA g (by lia) hs)
end
def lies (pg:Nat->List Int):Nat->Int:=λk=>(pg k).getD 5 0
theorem row6 {l:List Int} (h:l.length=6):∃a b c d e f,l= [a,b,c,d,e,f]:=by
 match l,h with
 | [a,b,c,d,e,f],_=>exact ⟨a,b,c,d,e,f,rfl⟩
section
variable {G:DH} {h:Hs} {LV:D} {yt:Int} {s:Cs}
theorem ZOS (hf:∀k,k < h.n->(s.page k).length=6):Gx (G.length + (3 + h.n)) (gV 0) Bj Yn (Bd 1 [] S) h.n 0 (csH G h.n h.enc LV yt s)=.ok (tab h.n (lies s.page)) (csH G h.n h.enc LV yt s):=by
 have hx:=ZC7 (i:=G.length + (3 + h.n)) (g:=gV 0) (c:=Bj) (te:=Yn) (S:=Bd 1 [] S) (G:=csH G h.n h.enc LV yt s) (F:=λd=>match d with | .tup [_,_,_,_,_,x]=>some x | _=>none) Mm (λx hx=>by obtain ⟨k,hk,rfl⟩:=zF.mp hx;obtain ⟨a,b,c,d,e,f,el⟩:=row6 (hf k (qX.mp hk));rw [el];refine ⟨[some (I9 [a,b,c,d,e,f])],by simp [Bd],.inr ⟨rfl,.int f,?_,rfl⟩⟩;unfold Yn;simp [I9])
 rw [ZIO] at hx;rw [hx]
 congr 1
 unfold Cw;rw [qZ];unfold tab;rw [<-qY];refine Wo λk hk=> ?_
 obtain ⟨a,b,c,d,e,f,el⟩:=row6 (hf k (qX.mp hk));simp [Function.comp,el,I9,lies]
theorem ZPx:Gx (G.length + (2 + h.n)) (gV 0) Bj Xz (Bd 1 [] S) h.n 0 (csH G h.n h.enc LV yt s)=.ok (Dw h.n s.coming) (csH G h.n h.enc LV yt s):=by
 have hlen:(Ec G.length h.n).length=h.n:=by simp [Ec]
 have hx:=ZC7 (i:=G.length + (2 + h.n)) (g:=gV 0) (c:=Bj) (te:=Xz) (S:=Bd 1 [] S) (G:=csH G h.n h.enc LV yt s) (F:=λd=>match d with | .ref j=>some (.tup (tab 5 (s.coming (j - (G.length + 2))))) | _=>none) Vn (λx hx=>by
  obtain ⟨k,hk,rfl⟩:=zF.mp hx;refine ⟨[some (.ref (G.length + (2 + k)))],by simp [Bd],.inr ⟨rfl,.tup (tab 5 (s.coming k)),?_,?_⟩⟩
  ·unfold Xz;simp [ZCd (qX.mp hk)]
  ·have e:G.length + (2 + k) - (G.length + 2)=k:=by lia
   simp only [e])
 rw [hlen] at hx;rw [hx]
 congr 1
 unfold Ec;rw [qZ];unfold Dw;rw [<-qY];refine Wo λk hk=> ?_
 have e:G.length + (2 + k) - (G.length + 2)=k:=by lia
 simp only [Function.comp,e]
theorem ZOL (g:GoodH h) (hf:∀k,k < h.n->(s.page k).length=6):Yy [.ref G.length] (csH G h.n h.enc LV yt s)=.ok (stD h.n (lies s.page) s.coming) (csH G h.n h.enc LV yt s):=by
 have hn:=g.len;have hnl:h.n<=1000000:=by lia
 have hl2:(Ec G.length h.n).length=h.n:=by simp [Ec]
 have hb:bel (csH G h.n h.enc LV yt s).length (stD h.n (lies s.page) s.coming)=true:=by simp [stD]
 unfold Yy ZJd;rw [By];unfold stD at hb ⊢;have i1:G8 (.ref (G.length + (3 + h.n))) (csH G h.n h.enc LV yt s)=.ok (.mt (G.length + (3 + h.n))) (csH G h.n h.enc LV yt s):=by simp [G8,Mm]
 have i2:G8 (.ref (G.length + (2 + h.n))) (csH G h.n h.enc LV yt s)=.ok (.mt (G.length + (2 + h.n))) (csH G h.n h.enc LV yt s):=by simp [G8,Vn]
 simp [i1,i2,Qa,Mm,ZOS hf,Be,hnl,Yo,Cg,ZFn,Vn,hl2,ZPx,Cy]
noncomputable def Hs.cs (h:Hs) (lv:Nat->Int) (co:Nat->Nat->Int) (at_:Int) (fl:Nat->Int):Cs:=h.goF (at_ % h.yr) lv h.n 0 (cs0 co fl)
theorem ZF5 {n:Nat} (hc:∀k j,k < n->j < 5->0<=co k j) (hf:∀k,k < n->0<=fl k):(cs0 co fl).NN n:=by
 refine ⟨λk hk=> ?_,λk j hk hj=> ?_⟩
 ·have:=hc k 0 hk (by lia);have:=hf k hk;show 0<=fl k + co k 0;lia
 ·show 0<=if j < 4 then co k (j + 1) else 0
  split
  ·exact hc k (j + 1) hk (by lia)
  ·exact qV _
theorem ZN5 (g:GoodH h) {at_:Int}:∀k,k < h.n->((h.cs lv co at_ fl).page k).length=6:=ZIx g h.n 0 _ (by lia) λi hi hd=>by
 unfold Hs.done at hd
 split at hd <;> lia
theorem ZQR (g:GoodH h) {at_:Int} (hc:∀k j,k < h.n->j < 5->0<=co k j) (hf:∀k,k < h.n->0<=fl k) (G:DH):
  Wh [h.enc,stD h.n lv co,.int at_,.tup (tab h.n fl)] G=.ok (.tup [.tup (Cw h.n (h.cs lv co at_ fl).page),stD h.n (lies (h.cs lv co at_ fl).page) (h.cs lv co at_ fl).coming]) G:=by
 have hgo:=ZJt (G:=G) (lv:=lv) (yt:=at_ % h.yr) g (ZF5 (fl:=fl) hc hf) rfl;have hst:=ZOL (G:=G) (LV:=.tup (tab h.n lv)) (yt:=at_ % h.yr) g (ZN5 g (lv:=lv) (fl:=fl) (co:=co) (at_:=at_));have hmk:ZDv S8 "Course" [h.enc,stD h.n lv co,.int at_,.tup (tab h.n fl)] G=.ok (.ref G.length) (csH G h.n h.enc (.tup (tab h.n lv)) (at_ % h.yr) (cs0 co fl)):=by
  unfold ZDv;rw [ZPP g]
  rfl
 have egs:h.goF (at_ % h.yr) lv h.n 0 (cs0 co fl)=h.cs lv co at_ fl:=rfl;rw [egs] at hgo;have hcH:∀s,csH G h.n h.enc (.tup (tab h.n lv)) (at_ % h.yr) s=G++csT G.length h.n h.enc (.tup (tab h.n lv)) (at_ % h.yr) s:=λ_=>rfl
 have hbl:bel G.length (.tup [.tup (Cw h.n (h.cs lv co at_ fl).page),stD h.n (lies (h.cs lv co at_ fl).page) (h.cs lv co at_ fl).coming])=true:=by simp [stD]
 unfold Wh ZFV;rw [By];simp [hmk,Ly ZKp,hgo,Qa,Mm,Ly ZK8,hst,Cg];rw [hcH];exact Xr hbl
end
def Cm (n:Nat) (fls:List (Nat->Int)):List D:=fls.map λfl=>.tup (tab n fl)
@[simp] theorem ZJT {n:Nat} :bels m (Cm n fls)=true:=Ft λ_ _=>by simp
abbrev St2:=(Nat->Int)×(Nat->Nat->Int)
noncomputable def Hs.nxt (h:Hs) (s:St2) (a:Int) (fl:Nat->Int):St2:=(lies (h.cs s.1 s.2 a fl).page,(h.cs s.1 s.2 a fl).coming)
noncomputable def Hs.Az (h:Hs):List (Nat->Int)->St2->Int->St2
 | [],s,_=>s
 | fl::r,s,a=>h.Az r (h.nxt s a fl) (a + 1)
noncomputable def Hs.Br (h:Hs):List (Nat->Int)->St2->Int->List (Nat->List Int)
 | [],_,_=> []
 | fl::r,s,a=>(h.cs s.1 s.2 a fl).page::h.Br r (h.nxt s a fl) (a + 1)
theorem ZHK:∀{fls:List (Nat->Int)} {s:St2} {a:Int},(h.Br fls s a).length=fls.length
 | [],_,_=>rfl
 | fl::r,s,a=>by show (h.Br r (h.nxt s a fl) (a + 1)).length + 1=r.length + 1;rw [ZHK]
def pgD (n:Nat) (pg:Nat->List Int):D:=.tup (Cw n pg)
@[simp] theorem ZK2 {n:Nat} :bel m (pgD n pg)=true:=by simp [pgD]
@[simp] theorem ZG3 {n:Nat} {pgs:List (Nat->List Int)}:bels m (pgs.map (pgD n))=true:=Ft λ_ _=>ZK2
@[simp] theorem ZFQ {n:Nat} :bel m (stD n lv co)=true:=by simp [stD]
theorem ZDs (g:GoodH h) (hc:∀k j,k < h.n->j < 5->0<=co k j) (hf:∀k,k < h.n->0<=fl k):(h.cs lv co a fl).NN h.n:=ZH8 g h.n 0 _ (by lia) (ZF5 hc hf)
noncomputable def enS:Int->List D->List D
 | _,[]=> []
 | a,x::r=>.tup [.int a,x]::enS (a + 1) r
theorem ZHS:∀(xs:List D) (a:Int) (j:Nat),(enS a xs)[j]? =xs[j]?.map λx=>.tup [.int (a + j),x]
 | [],a,j=>by simp [enS]
 | x::r,a,0=>by simp [enS]
 | x::r,a,j + 1=>by
  show (enS (a + 1) r)[j]? =r[j]?.map _;rw [ZHS r (a + 1) j];have e:a + 1 + (j:Int)=a + ((j + 1:Nat):Int):=by lia
  rw [e]
theorem ZEx:∀(xs:List D) (a:Int),(enS a xs).length=xs.length
 | [],a=>rfl
 | x::r,a=>by show (enS (a + 1) r).length + 1=r.length + 1;rw [ZEx]
theorem ZOK {g:DG} {b:DS} {xs:List D} :Ef (Eo a (.fl xs)) g b xs.length 0 S G=Bx g b (enS a xs) S G:=T7 (λj G=>by show some (xs[j]?.map _)=_;rw [ZHS]) (ZEx xs a).symm
theorem ZEW (g:GoodH h) {s2 s3:Option D} {G:DH}:∀(fls:List (Nat->Int)) (s:St2) (a:Int) (acc:List D) (x5 x6 x7:Option D),acc.length + fls.length<=1000->(∀k j,k < h.n->j < 5->0<=s.2 k j)->(∀fl∈fls,∀k,k < h.n->0<=fl k)->∃y5 y6 y7,
  Bx (Bq 2 (An (gV 5) (An (gV 6) Bs))) Uj (enS a (Cm h.n fls)) [some h.enc,some (stD h.n s.1 s.2),s2,s3,some (.ref G.length),x5,x6,x7] (G++ [.lst acc])=
   .nx [some h.enc,some (stD h.n (h.Az fls s a).1 (h.Az fls s a).2),s2,s3,some (.ref G.length),y5,y6,y7] (G++ [.lst (acc++(h.Br fls s a).map (pgD h.n))])
 | [],s,a,acc,x5,x6,x7,_,_,_=>⟨x5,x6,x7,by show Bx _ _ [] _ _=_;rw [Fy];simp [Hs.Az,Hs.Br]⟩
 | fl::r,s,a,acc,x5,x6,x7,hl,hc,hf=>by
  have hf1:=hf fl (by simp);have nn:=ZDs g (lv:=s.1) (fl:=fl) (co:=s.2) (a:=a) hc hf1;simp only [zP] at hl;obtain ⟨y5,y6,y7,ih⟩:=ZEW g (s2:=s2) (s3:=s3) (G:=G) r (h.nxt s a fl) (a + 1) (acc++ [pgD h.n (h.cs s.1 s.2 a fl).page]) (some (.int a)) (some (.tup (tab h.n fl))) (some (pgD h.n (h.cs s.1 s.2 a fl).page)) (by simp;lia) nn.2 (λf' hf'=>hf f' (zZ _ hf'));refine ⟨y5,y6,y7,?_⟩
  have ct:=ZQR g (lv:=s.1) (fl:=fl) (co:=s.2) (at_:=a) hc hf1;have hal:acc.length < 1000000:=by lia
  have hb:Uj [some h.enc,some (stD h.n s.1 s.2),s2,s3,some (.ref G.length),some (.int a),some (.tup (tab h.n fl)),x7] (G++ [.lst acc])=.nx [some h.enc,some (stD h.n (h.nxt s a fl).1 (h.nxt s a fl).2),s2,s3,some (.ref G.length),some (.int a),some (.tup (tab h.n fl)),some (pgD h.n (h.cs s.1 s.2 a fl).page)] (G++ [.lst (acc++ [pgD h.n (h.cs s.1 s.2 a fl).page])]):=by unfold Uj;simp [ct,Dr,Fg,hal,pgD,Hs.nxt]
  show Bx _ _ (.tup [.int a,.tup (tab h.n fl)]::enS (a + 1) (Cm h.n r)) _ _=_;rw [Et];simp only [Tv,V3,Ux,Es,R.J7,R.El,q9,hb,Ew,zP,jF,Nat.reduceAdd,if_true];rw [ih];simp [Hs.Az,Hs.Br]
theorem ZAi {n:Nat} :(Cm n fls).length=fls.length:=by simp [Cm]
theorem ZK9 {G':DH} (h:bels G.length ds=false):tidy G (.ok (.tup ds) G')=.ok (.tup ds) G':=by unfold tidy;simp [h]
theorem ZJQ {e:D} (h1:bels G.length ds=true) (h2:bel G.length e=true):freeze G (.ok (.tup [.ref G.length,e]) (G++ [.lst ds]))=.ok (.tup [.fl ds,e]) G:=by
 unfold freeze;have m:Ga (G++ [.lst ds]) G.length 9 (.tup [.ref G.length,e])=some (.tup [.fl ds,e]):=by
  unfold Ga;have m1:Ga (G++ [.lst ds]) G.length 8 (.ref G.length)=some (.fl ds):=by unfold Ga;simp [ZBT h1]
  have m2:Ga (G++ [.lst ds]) G.length 8 e=some e:=by unfold Ga;simp [h2]
  simp [Kl,m1,m2]
 simp [m]
theorem ZBo (g:GoodH h) {s:St2} (hl:fls.length<=1000) (hc:∀k j,k < h.n->j < 5->0<=s.2 k j) (hf:∀fl∈fls,∀k,k < h.n->0<=fl k) (G:DH):
  Pz [h.enc,stD h.n s.1 s.2,.int a,.fl (Cm h.n fls)] G=.ok (.tup [.ref G.length,stD h.n (h.Az fls s a).1 (h.Az fls s a).2]) (G++ [.lst ((h.Br fls s a).map (pgD h.n))]):=by
 obtain ⟨y5,y6,y7,hL⟩:=ZEW g (s2:=some (.int a)) (s3:=some (.fl (Cm h.n fls))) (G:=G) fls s a [] none none none (by simp;lia) hc hf;have hL':Ef (Eo a (.fl (Cm h.n fls))) (Bq 2 (An (gV 5) (An (gV 6) Bs))) Uj (Cm h.n fls).length 0 [some h.enc,some (stD h.n s.1 s.2),some (.int a),some (.fl (Cm h.n fls)),some (.ref G.length),none,none,none] (G++ [.lst []])=
   .nx [some h.enc,some (stD h.n (h.Az fls s a).1 (h.Az fls s a).2),some (.int a),some (.fl (Cm h.n fls)),some (.ref G.length),y5,y6,y7] (G++ [.lst ((h.Br fls s a).map (pgD h.n))]):=by
  rw [ZOK];exact hL
 have tt:∀e:D,tidy G (.ok (.tup [.ref G.length,e]) (G++ [.lst ((h.Br fls s a).map (pgD h.n))]))=.ok (.tup [.ref G.length,e]) (G++ [.lst ((h.Br fls s a).map (pgD h.n))]):=λe=>ZK9 (by simp)
 unfold Pz ZE4;rw [By];simp [Be,Fe,ZBu,hL',Cg,tt]
def Ak:Nat->(Nat->Int)->Int
 | 0,_=>0
 | n + 1,F=>Ak n F + F n
theorem Fx:∀{n:Nat} {F F':Nat->Int},(∀i,i < n->F i=F' i)->Ak n F=Ak n F'
 | 0,_,_,_=>rfl
 | n + 1,F,F',h=>by show Ak n F + F n=Ak n F' + F' n;rw [Fx λi hi=>h i (by lia),h n (by lia)]
theorem Gi:∀{n:Nat} {F F':Nat->Int},Ak n (λi=>F i + F' i)=Ak n F + Ak n F'
 | 0,_,_=>rfl
 | n + 1,F,F'=>by show Ak n (λi=>F i + F' i) + (F n + F' n)=(Ak n F + F n) + (Ak n F' + F' n);rw [Gi];lia
theorem Oo:∀{n:Nat} {F:Nat->Int},(∀i,i < n->F i=0)->Ak n F=0
 | 0,_,_=>rfl
 | n + 1,F,h=>by show Ak n F + F n=0;rw [Oo λi hi=>h i (by lia),h n (by lia)];rfl
def Bl (pg:Nat->List Int) (j:Nat):Int:=(pg j).getD 2 0 + (pg j).getD 3 0
def Er (pg:Nat->List Int) (j:Nat):Int:=(pg j).getD 4 0
noncomputable def Hs.pmp (h:Hs) (k:Nat):Option (Nat×Nat):=match (h.pl k).kd with
 | .basin _ _ (some (to,dl,_))=>some (to,dl)
 | _=>none
noncomputable def Hs.c1 (h:Hs) (pg:Nat->List Int) (i j:Nat):Int:=if h.dir j=none/\h.dn j=some i/\(h.pl j).dl=0 then Bl pg j else 0
noncomputable def Hs.o1 (h:Hs) (pg:Nat->List Int) (i a j:Nat):Int:=(if h.dn j=some i/\(h.pl j).dl=a + 1 then Bl pg j else 0) + (if h.pmp j=some (i,a + 1) then Er pg j else 0)
noncomputable def Hs.brow (h:Hs) (yt:Int) (lv:Nat->Int) (k:Nat) (c:Int):List Int:=match (h.pl k).kd with
 | .basin brim rule _=>
  let w:=lv k + c;let st:=held yt rule [];let stays:=w - rv w st - pm w st
  [c,0,stays - min stays brim,rv w st,pm w st,min stays brim]
 | _=> []
def Hs.Hv (h:Hs) (ca:Nat->Int) (m:Nat):Nat->Int:=shr (h.rows (h.mem m) ca)
noncomputable def Hs.Gn (h:Hs) (ca:Nat->Int) (m:Nat):Nat->Int:=gath (h.rows (h.mem m) ca) λi=>col Row.water (h.rows (h.mem m) ca) i - h.Hv ca m i
theorem ZLG {ca':Nat->Int} (e:∀k∈ms,ca k=ca' k):h.rows ms ca=h.rows ms ca':=by
 unfold Hs.rows;refine qJ λk hk=> ?_
 unfold Hs.row;rw [e k hk]
theorem ZJW:(s.send to dl c).came i=s.came i + (if to=i/\dl=0 then c else 0):=by
 unfold Cs.send;by_cases h0:dl=0
 ·simp only [h0,if_true,and_true,fset];by_cases e:i=to
  ·subst e;simp
  ·rw [if_neg e,if_neg (λz=>e z.symm)];lia
 ·simp [h0]
theorem ZEU {a:Nat}:(s.send to dl c).coming i a=s.coming i a + (if to=i/\dl=a + 1 then c else 0):=by
 unfold Cs.send;by_cases h0:dl=0
 ·simp [h0]
 ·simp only [h0,if_false,upd2];by_cases e:i=to
  ·subst e;simp only [if_true,fset,true_and];by_cases ea:a=dl - 1
   ·have e2:dl=a + 1:=by lia
    rw [if_pos ea,if_pos e2,ea]
   ·have e2:¬dl=a + 1:=by lia
    rw [if_neg ea,if_neg e2];lia
  ·rw [if_neg e,if_neg (λz=>e z.1.symm)];lia
theorem ZBn:(h.Fp s k c).came i=s.came i + (if h.dn k=some i/\(h.pl k).dl=0 then c else 0):=by
 unfold Hs.Fp;cases e:h.dn k with
 | none=>simp
 | some d=>simp only [ZJW,Option.some.injEq]
theorem ZB2 {a:Nat}:(h.Fp s k c).coming i a=s.coming i a + (if h.dn k=some i/\(h.pl k).dl=a + 1 then c else 0):=by
 unfold Hs.Fp;cases e:h.dn k with
 | none=>simp
 | some d=>simp only [ZEU,Option.some.injEq]
theorem ZEc (hB:(h.pl k).kd.isB=true):h.dir k=none:=by
 unfold Hs.dir;cases h.dn k with
 | none=>rfl
 | some d=>simp [hB]
theorem Xi (e:h.dir k=some d):h.dn k=some d/\(h.pl k).dl=0/\(h.pl k).kd.isB=false/\(h.pl d).kd.isB=false:=by
 unfold Hs.dir at e;cases hd:h.dn k with
 | none=>rw [hd] at e;cases e
 | some d'=>
  rw [hd] at e;simp only at e;split at e
  ·cases e
  ·rename_i hc;cases e;refine ⟨rfl,by lia,?_,?_⟩
   ·cases z:(h.pl k).kd.isB with
    | false=>rfl
    | true=>exact absurd (.inr (.inl z)) hc
   ·cases z:(h.pl d).kd.isB with
    | false=>rfl
    | true=>exact absurd (.inr (.inr z)) hc
theorem ZBN (hB:(h.pl k).kd.isB=false):h.pmp k=none:=by
 unfold Hs.pmp;cases e:(h.pl k).kd with
 | basin a b c=>rw [e] at hB;cases hB
 | town _ _=>rfl
 | mill _=>rfl
theorem ZOt (g:GoodH h) (e:h.last k=k):h.dir k=none:=by
 cases hd:h.dir k with
 | none=>rfl
 | some d=>
  have h1:=M3 g hd;have h2:=Kc g hd;have h3:=(Jp g d).1;lia
theorem ZPY (g:GoodH h) (hm:m < h.n) (e:h.last m=m):(h.mem m).idxOf m=(h.mem m).length - 1:=by
 have hl:=ZI1 g hm e;have hpos:0 < (h.mem m).length:=j4 (mem_iff.mpr ⟨hm,e⟩);have nd:(h.mem m).Nodup:=(Ua (h:=h) (m:=m)).imp λhab=>zD hab
 rw [jx,zQ (by lia)] at hl;have h2:=ZBk nd (i:=(h.mem m).length - 1) (by lia);rw [Option.some.inj hl] at h2;exact h2
structure TI (h:Hs) (yt:Int) (lv:Nat->Int) (co:Nat->Nat->Int) (fl:Nat->Int) (k:Nat) (s:Cs):Prop where
 came:∀i,i < h.n->s.came i=fl i + co i 0 + Ak k (h.c1 s.page i)
 coming:∀i a,i < h.n->a < 5->s.coming i a=Hu co i a + Ak k (h.o1 s.page i a)
 basin:∀i,i < k->i < h.n->(h.pl i).kd.isB=true->s.page i=h.brow yt lv i (s.came i)
 reach:∀i,i < h.n->(h.pl i).kd.isB=false->h.last i < k->s.page i=rrow (h.Hv s.came (h.last i)) (h.Gn s.came (h.last i)) ((h.mem (h.last i)).idxOf i)
section
variable {h:Hs} {yt:Int} {lv:Nat->Int} {co:Nat->Nat->Int} {fl:Nat->Int}
theorem ZBG {ca':Nat->Int} (e:∀k∈h.mem m,ca k=ca' k):h.Hv ca m=h.Hv ca' m/\h.Gn ca m=h.Gn ca' m:=by
 have e1:=ZLG (h:=h) e;have e2:h.Hv ca m=h.Hv ca' m:=by unfold Hs.Hv;rw [e1]
 refine ⟨e2,?_⟩;unfold Hs.Gn;rw [e1,e2]
theorem ZEG (g:GoodH h) (hk:k∈h.mem m):k<=m:=by have h1:=mem_iff.mp hk;have h2:=(Jp g k).1;lia
theorem ZOw (g:GoodH h) (hk:k < h.n) (t:TI h yt lv co fl k s):TI h yt lv co fl (k + 1) (h.step yt lv s k):=by
 by_cases hB:(h.pl k).kd.isB=true
 ·
  have e:h.step yt lv s k=h.basin yt lv s k:=by unfold Hs.step;rw [if_pos hB]
  rw [e];have hdir:=ZEc hB;have hpg:=(ZBg (yt:=yt) (lv:=lv) (s:=s) hB).2;obtain ⟨brim,rule,pump,ek⟩:∃a b c,(h.pl k).kd=.basin a b c:=by
   cases e:(h.pl k).kd with
   | basin a b c=>exact ⟨a,b,c,rfl⟩
   | town _ _=>rw [e] at hB;cases hB
   | mill _=>rw [e] at hB;cases hB
  have hpk:(h.basin yt lv s k).page k=h.brow yt lv k (s.came k):=by
   unfold Hs.basin Hs.brow;rw [ek];simp only;cases pump with
   | none=>simp only;rw [M7.2];simp
   | some q=>obtain ⟨to,dl,m⟩:=q;simp only;rw [Xq.2,M7.2];simp
  have hout:Bl (h.basin yt lv s k).page k=rv (lv k + s.came k) (held yt rule []) + (lv k + s.came k - rv (lv k + s.came k) (held yt rule []) - pm (lv k + s.came k) (held yt rule []) - min (lv k + s.came k - rv (lv k + s.came k) (held yt rule []) - pm (lv k + s.came k) (held yt rule [])) brim):=by unfold Bl;rw [hpk];unfold Hs.brow;rw [ek];simp [List.getD];lia
  have hpmp:Er (h.basin yt lv s k).page k=pm (lv k + s.came k) (held yt rule []):=by
   unfold Er;rw [hpk];unfold Hs.brow;rw [ek]
   rfl
  have hcame:∀i,(h.basin yt lv s k).came i=s.came i + (if h.dn k=some i/\(h.pl k).dl=0 then Bl (h.basin yt lv s k).page k else 0):=λi=>by
   rw [hout];unfold Hs.basin;rw [ek];simp only;cases hp:pump with
   | none=>simp only [ZBn]
   | some q=>
    obtain ⟨to,dl,m⟩:=q;have hd:=g.pump k brim rule to dl m hk (by rw [ek,hp]);simp only [ZJW,ZBn];rw [if_neg (show¬(to=i/\dl=0) by lia)];lia
  have hcom:∀i a,(h.basin yt lv s k).coming i a=s.coming i a + h.o1 (h.basin yt lv s k).page i a k:=λi a=>by
   unfold Hs.o1;rw [hout,hpmp];unfold Hs.basin Hs.pmp;rw [ek];simp only;cases hp:pump with
   | none=>simp [ZB2]
   | some q=>
    obtain ⟨to,dl,m⟩:=q;simp only [ZEU,ZB2,Option.some.injEq,Prod.mk.injEq];lia
  have hlow:∀i,i<=k->(h.basin yt lv s k).came i=s.came i:=λi hi=>by
   rw [hcame,if_neg]
   ·lia
   ·intro z;have:=g.dn k i hk z.1;lia
  refine ⟨λi hi=> ?_,λi a hi ha=> ?_,λi hik hi hBi=> ?_,λi hi hBi hl=> ?_⟩
  ·show _=_ + (Ak k (h.c1 (h.basin yt lv s k).page i) + h.c1 (h.basin yt lv s k).page i k);rw [hcame,t.came i hi];have e1:Ak k (h.c1 (h.basin yt lv s k).page i)=Ak k (h.c1 s.page i):=Fx λj hj=>by unfold Hs.c1 Bl;rw [hpg j (by lia)]
   rw [e1];unfold Hs.c1;simp only [hdir,true_and];lia
  ·show _=_ + (Ak k (h.o1 (h.basin yt lv s k).page i a) + h.o1 (h.basin yt lv s k).page i a k);rw [hcom,t.coming i a hi ha];have e1:Ak k (h.o1 (h.basin yt lv s k).page i a)=Ak k (h.o1 s.page i a):=Fx λj hj=>by unfold Hs.o1 Bl Er;rw [hpg j (by lia)]
   rw [e1];lia
  ·by_cases e2:i=k
   ·subst e2;rw [hpk,hlow i (zK _)]
   ·rw [hpg i e2,hlow i (by lia)];exact t.basin i (by lia) hi hBi
  ·have hl2:h.last i < k:=by
    rcases jK (h.last i) k with z | z
    ·exact z
    ·have e2:h.last i=k:=by lia
     rcases ZCr g h.n i (by lia) with z2 | z2
     ·rw [<-e2,z2,hBi] at hB;cases hB
     ·rw [e2,hB] at z2;cases z2
   have hle:=(Jp g i).1;rw [hpg i (by lia),t.reach i hi hBi hl2];have:=ZBG (h:=h) (m:=h.last i) (ca:=s.came) (ca':=(h.basin yt lv s k).came) λj hj=>(hlow j (by have:=ZEG g hj;lia)).symm
   rw [this.1,this.2]
 ·have hB':(h.pl k).kd.isB=false:=by
   cases z:(h.pl k).kd.isB with
   | false=>rfl
   | true=>exact absurd z hB
  by_cases hl:h.last k=k
  ·
   have e:h.step yt lv s k=h.reach s k:=by unfold Hs.step;rw [if_neg hB,if_pos hl]
   rw [e];have hdir:=ZOt g hl;have hmem:k∈h.mem k:=mem_iff.mpr ⟨hk,hl⟩;have hpg:∀j,j ∉ h.mem k->(h.reach s k).page j=s.page j:=λj hj=>by rw [ZEL,if_neg hj]
   have hpm:∀j,j∈h.mem k->(h.reach s k).page j=rrow (h.Ik s k) (h.Hb s k) ((h.mem k).idxOf j):=λj hj=>by rw [ZEL,if_pos hj]
   have hout:Bl (h.reach s k).page k=h.Hb s k ((h.mem k).length - 1):=by unfold Bl;rw [hpm k hmem,ZPY g hk hl];show (0:Int) + _=_;simp [rrow]
   have hcame:∀i,(h.reach s k).came i=s.came i + (if h.dn k=some i/\(h.pl k).dl=0 then Bl (h.reach s k).page k else 0):=λi=>by rw [hout];unfold Hs.reach;simp only [ZBn]
   have hcom:∀i a,(h.reach s k).coming i a=s.coming i a + (if h.dn k=some i/\(h.pl k).dl=a + 1 then Bl (h.reach s k).page k else 0):=λi a=>by rw [hout];unfold Hs.reach;simp only [ZB2]
   have hlow:∀i,i<=k->(h.reach s k).came i=s.came i:=λi hi=>by
    rw [hcame,if_neg]
    ·lia
    ·intro z;have:=g.dn k i hk z.1;lia
   have hin:∀j,j∈h.mem k->j < k->∃d,h.dir j=some d:=λj hj hjk=>by
    cases hd:h.dir j with
    | some d=>exact ⟨d,rfl⟩
    | none=>
     have h1:=Ji g hd;have h2:=(mem_iff.mp hj).2;lia
   refine ⟨λi hi=> ?_,λi a hi ha=> ?_,λi hik hi hBi=> ?_,λi hi hBi hli=> ?_⟩
   ·show _=_ + (Ak k (h.c1 (h.reach s k).page i) + h.c1 (h.reach s k).page i k);rw [hcame,t.came i hi];have e1:Ak k (h.c1 (h.reach s k).page i)=Ak k (h.c1 s.page i):=Fx λj hj=>by
     by_cases hm:j∈h.mem k
     ·obtain ⟨d,hd⟩:=hin j hm hj;unfold Hs.c1;simp [hd]
     ·unfold Hs.c1 Bl;rw [hpg j hm]
    rw [e1];unfold Hs.c1;simp only [hdir,true_and];lia
   ·show _=_ + (Ak k (h.o1 (h.reach s k).page i a) + h.o1 (h.reach s k).page i a k);rw [hcom,t.coming i a hi ha];have e1:Ak k (h.o1 (h.reach s k).page i a)=Ak k (h.o1 s.page i a):=Fx λj hj=>by
     by_cases hm:j∈h.mem k
     ·obtain ⟨d,hd⟩:=hin j hm hj;have hs:=Xi hd;unfold Hs.o1;simp [hs.2.1,ZBN hs.2.2.1]
     ·unfold Hs.o1 Bl Er;rw [hpg j hm]
    rw [e1];unfold Hs.o1;rw [ZBN hB'];simp;lia
   ·have hik2:i < k:=by
     rcases jK i k with z | z
     ·exact z
     ·have e2:i=k:=by lia
      rw [e2,hB'] at hBi;cases hBi
    have hm:i ∉ h.mem k:=λz=>by have h1:=(mem_iff.mp z).2;have h2:=Ji g (ZEc hBi);lia
    rw [hpg i hm,hlow i (by lia)];exact t.basin i hik2 hi hBi
   ·by_cases e2:h.last i=k
    ·have hm:i∈h.mem k:=mem_iff.mpr ⟨hi,e2⟩;rw [hpm i hm,e2];have:=ZBG (h:=h) (m:=k) (ca:=s.came) (ca':=(h.reach s k).came) λj hj=>(hlow j (ZEG g hj)).symm
     rw [<-this.1,<-this.2]
     rfl
    ·have hm:i ∉ h.mem k:=λz=>e2 (mem_iff.mp z).2
     rw [hpg i hm,t.reach i hi hBi (by lia)];have:=ZBG (h:=h) (m:=h.last i) (ca:=s.came) (ca':=(h.reach s k).came) λj hj=>(hlow j (by have:=ZEG g hj;lia)).symm
     rw [this.1,this.2]
  ·
   have e:h.step yt lv s k=s:=by unfold Hs.step;rw [if_neg hB,if_neg hl]
   rw [e];obtain ⟨d,hd⟩:∃d,h.dir k=some d:=by
    cases hd:h.dir k with
    | some d=>exact ⟨d,rfl⟩
    | none=>exact absurd (Ji g hd) hl
   have hs:=Xi hd;refine ⟨λi hi=> ?_,λi a hi ha=> ?_,λi hik hi hBi=> ?_,λi hi hBi hli=> ?_⟩
   ·show _=_ + (Ak k (h.c1 s.page i) + h.c1 s.page i k);rw [t.came i hi];unfold Hs.c1;simp [hd]
   ·show _=_ + (Ak k (h.o1 s.page i a) + h.o1 s.page i a k);rw [t.coming i a hi ha];unfold Hs.o1;simp [hs.2.1,ZBN hs.2.2.1]
   ·refine t.basin i ?_ hi hBi;rcases jK i k with z | z
    ·exact z
    ·have e2:i=k:=by lia
     rw [e2,hB'] at hBi;cases hBi
   ·refine t.reach i hi hBi ?_;rcases jK (h.last i) k with z | z
    ·exact z
    ·have e2:h.last i=k:=by lia
     have:=ZBR g h.n i (by lia);rw [e2] at this;exact absurd this hl
theorem ZHT (g:GoodH h):∀(m k:Nat) (s:Cs),k + m=h.n->TI h yt lv co fl k s->TI h yt lv co fl h.n (h.goF yt lv m k s)
 | 0,k,s,e,t=>by
  have e1:k=h.n:=by lia
  rw [e1] at t;exact t
 | m + 1,k,s,e,t=>ZHT g m (k + 1) _ (by lia) (ZOw g (by lia) t)
theorem ZFo (g:GoodH h) {at_:Int}:TI h (at_ % h.yr) lv co fl h.n (h.cs lv co at_ fl):=by
 refine ZHT g h.n 0 _ (by lia) ⟨λi hi=> ?_,λi a hi ha=> ?_,(λi hi=>absurd hi (by lia)),(λi _ _ hi=>absurd hi (by lia))⟩
 ·show fl i + co i 0=fl i + co i 0 + 0;lia
 ·show Hu co i a=Hu co i a + 0;lia
end
theorem ZBq:∀{m:Nat} {F:Nat->Int},Ak (m + 1) F=F 0 + Ak m λj=>F (j + 1)
 | 0,F=>by show (0:Int) + F 0=F 0 + 0;lia
 | m + 1,F=>by show Ak (m + 1) F + F (m + 1)=F 0 + (Ak m (λj=>F (j + 1)) + F (m + 1));rw [ZBq];lia
theorem ZDJ:∀{n:Nat} {F:Nat->Int},Ak n F=((zX n).map F).sum
 | 0,F=>rfl
 | n + 1,F=>by show Ak n F + F n=_;rw [List.range_succ,ZDJ];simp
theorem sum_filter {p:Nat->Bool} :∀{l:List Nat},((l.filter p).map F).sum=(l.map λi=>if p i=true then F i else 0).sum
 | []=>rfl
 | a::l=>by
  rw [List.filter_cons];by_cases h:p a=true
  ·rw [if_pos h,zW,jz,sum_filter];simp [h]
  ·rw [if_neg h,sum_filter];simp [h]
theorem ZGG:∀{l:List Nat},Ak l.length (λj=>F (l.getD j 0))=(l.map F).sum
 | []=>rfl
 | a::l=>by
  show Ak (l.length + 1) _=_;rw [ZBq,zW,jz,<-ZGG]
  rfl
theorem ZH1 (hR:Reach rs):∀(m k:Nat) (F:Nat->Int) (i:Nat),gat rs m k F i=F i + Ak m λj=>if Bp rs (k + j)=some i then gat rs m k F (k + j) else 0
 | 0,k,F,i=>by show F i=F i + 0;lia
 | m + 1,k,F,i=>by
  have ih:=ZH1 hR m (k + 1) (gstep F k (Bp rs k));show gat rs m (k + 1) (gstep F k (Bp rs k)) i=F i + Ak (m + 1) λj=>if Bp rs (k + j)=some i then gat rs m (k + 1) (gstep F k (Bp rs k)) (k + j) else 0
  rw [ZBq];have hk:gat rs m (k + 1) (gstep F k (Bp rs k)) k=F k:=by
   rw [ih k,Oo]
   ·unfold gstep;cases hd:Bp rs k with
    | none=>simp
    | some d=>
     have:=Ip hR hd;simp [fset,show¬k=d by lia]
   ·intro j hj;rw [if_neg];intro z;have:=Ip hR z;lia
  have e1:(λj=>if Bp rs (k + (j + 1))=some i then gat rs m (k + 1) (gstep F k (Bp rs k)) (k + (j + 1)) else 0)=λj=>if Bp rs (k + 1 + j)=some i then gat rs m (k + 1) (gstep F k (Bp rs k)) (k + 1 + j) else 0:=by funext j;rw [show k + (j + 1)=k + 1 + j by lia]
  rw [e1];show _=F i + ((if Bp rs k=some i then gat rs m (k + 1) (gstep F k (Bp rs k)) k else 0) + _);rw [hk,ih i];generalize Ak m _=X;unfold gstep;cases hd:Bp rs k with
  | none=>simp
  | some d=>
   simp only [fset,Option.some.injEq];by_cases e:i=d
   ·subst e;simp;lia
   ·rw [if_neg e,if_neg (λz=>e z.symm)];lia
theorem ZLo (hR:Reach rs) (F:Nat->Int) (i:Nat):gath rs F i=F i + Ak rs.length λj=>if Bp rs j=some i then gath rs F j else 0:=by have:=ZH1 hR rs.length 0 F i;simpa using this
section
variable {h:Hs} {yt:Int} {lv:Nat->Int} {co:Nat->Nat->Int} {fl:Nat->Int}
theorem ZND:(h.mem m).Nodup:=(Ua (h:=h) (m:=m)).imp λhab=>zD hab
theorem ZJs (hi:i < ms.length):(h.rows ms ca)[i]? =some (h.row ms ca ms[i]):=by
 unfold Hs.rows;rw [zk,zQ hi]
 rfl
theorem ZFF {q:Row->Int} (hk:k∈ms):col q (h.rows ms ca) (ms.idxOf k)=q (h.row ms ca k):=by have hl:=qq hk;unfold col;rw [ZJs hl,j3 hl]
theorem ZJB (g:GoodH h) (hi:i < (h.mem m).length) (hk:k∈h.mem m):(Bp (h.rows (h.mem m) ca) i=some ((h.mem m).idxOf k))↔h.dir (h.mem m)[i]=some k:=by
 unfold Bp;rw [ZJs hi];show (h.dir (h.mem m)[i]).map _=_↔_;cases hd:h.dir (h.mem m)[i] with
 | none=>simp
 | some d=>
  have h1:=mem_iff.mp (zM hi);have h2:=M3 g hd;have hdm:d∈h.mem m:=mem_iff.mpr ⟨h2.2.1,by rw [<-Kc g hd];exact h1.2⟩;simp only [xJ,Option.some.injEq];constructor
  ·intro z;have l1:=qq hdm;have l2:=qq hk;have e1:=j3 l1;have e2:=j3 l2;rw [<-e1,<-e2];simp only [z]
  ·intro z;rw [z]
theorem ZPe (g:GoodH h) (hc:∀k,k < h.n->0<=ca k) (hk:k∈h.mem m):h.Gn ca m ((h.mem m).idxOf k)=ca k - h.Hv ca m ((h.mem m).idxOf k) + Ak h.n λj=>if h.dir j=some k then h.Gn ca m ((h.mem m).idxOf j) else 0:=by
 have hR:=Tt g (m:=m) hc;have e:=ZLo hR (λi=>col Row.water (h.rows (h.mem m) ca) i - h.Hv ca m i) ((h.mem m).idxOf k);have e2:(λi=>gath (h.rows (h.mem m) ca) (λi=>col Row.water (h.rows (h.mem m) ca) i - h.Hv ca m i) i)=h.Gn ca m:=rfl;show gath (h.rows (h.mem m) ca) (λi=>col Row.water (h.rows (h.mem m) ca) i - h.Hv ca m i) ((h.mem m).idxOf k)=_;rw [e];show col Row.water (h.rows (h.mem m) ca) ((h.mem m).idxOf k) - h.Hv ca m ((h.mem m).idxOf k) + Ak _ (λj=>if Bp (h.rows (h.mem m) ca) j=some ((h.mem m).idxOf k) then h.Gn ca m j else 0)=_
 rw [ZFF hk];show ca k - _ + _=_
 congr 1
 rw [Rv];have e3:Ak (h.mem m).length (λj=>if Bp (h.rows (h.mem m) ca) j=some ((h.mem m).idxOf k) then h.Gn ca m j else 0)=Ak (h.mem m).length λj=>(λi=>if h.dir i=some k then h.Gn ca m ((h.mem m).idxOf i) else 0) ((h.mem m).getD j 0):=Fx λj hj=>by
  have e4:(h.mem m).getD j 0=(h.mem m)[j]:=by simp [zj,zQ hj]
  show _=(if h.dir ((h.mem m).getD j 0)=some k then _ else _);rw [e4,ZBk ZND hj];by_cases hd:h.dir (h.mem m)[j]=some k
  ·rw [if_pos hd,if_pos ((ZJB g hj hk).mpr hd)]
  ·rw [if_neg hd,if_neg λz=>hd ((ZJB g hj hk).mp z)]
 have e5:=ZGG (F:=λi=>if h.dir i=some k then h.Gn ca m ((h.mem m).idxOf i) else 0) (l:=h.mem m);rw [e3,e5,ZDJ];have e6:((h.mem m).map λi=>if h.dir i=some k then h.Gn ca m ((h.mem m).idxOf i) else 0).sum=((zX h.n).map λi=>if decide (h.last i=m)=true then (if h.dir i=some k then h.Gn ca m ((h.mem m).idxOf i) else 0) else 0).sum:=sum_filter (p:=λk=>decide (h.last k=m)) (l:=zX h.n);rw [e6]
 congr 1
 refine qJ λi hi=> ?_
 by_cases hd:h.dir i=some k
 ·have h1:=(mem_iff.mp hk).2;have h2:=Kc g hd;rw [if_pos (by simp;lia)]
 ·simp [hd]
theorem ZLy (g:GoodH h) (t:TI h yt lv co fl h.n s) (nn:s.NN h.n) (hk:k < h.n):(s.page k).getD 0 0=fl k + co k 0 + Ak h.n λj=>if h.dn j=some k/\(h.pl j).dl=0 then Bl s.page j else 0:=by
 cases hB:(h.pl k).kd.isB with
 | true=>
  rw [t.basin k hk hk hB];have e1:(h.brow yt lv k (s.came k)).getD 0 0=s.came k:=by
   unfold Hs.brow;cases e:(h.pl k).kd with
   | basin a b c=>rfl
   | town _ _=>rw [e] at hB;cases hB
   | mill _=>rw [e] at hB;cases hB
  rw [e1,t.came k hk]
  congr 1
  refine Fx λj hj=> ?_
  unfold Hs.c1;by_cases hc:h.dn j=some k/\(h.pl j).dl=0
  ·have:h.dir j=none:=by
    cases hd:h.dir j with
    | none=>rfl
    | some d=>
     have hs:=Xi hd;rw [hc.1] at hs;have:=Option.some.inj hs.1;rw [<-this,hB] at hs;cases hs.2.2.2
   rw [if_pos ⟨this,hc⟩,if_pos hc]
  ·rw [if_neg hc,if_neg λz=>hc z.2]
 | false=>
  have hl:=(Jp g k).2 hk;have hm:k∈h.mem (h.last k):=mem_iff.mpr ⟨hk,rfl⟩;have hp:=t.reach k hk hB hl;have e1:(s.page k).getD 0 0=h.Hv s.came (h.last k) ((h.mem (h.last k)).idxOf k) + h.Gn s.came (h.last k) ((h.mem (h.last k)).idxOf k):=by rw [hp];rfl
  rw [e1,ZPe g nn.1 hm,t.came k hk];have e2:(Ak h.n λj=>if h.dn j=some k/\(h.pl j).dl=0 then Bl s.page j else 0)=Ak h.n (h.c1 s.page k) + Ak h.n λj=>if h.dir j=some k then h.Gn s.came (h.last k) ((h.mem (h.last k)).idxOf j) else 0:=by
   rw [<-Gi];refine Fx λj hj=> ?_
   unfold Hs.c1;cases hd:h.dir j with
   | none=>simp
   | some d=>
    have hs:=Xi hd;have hlj:=(Jp g j).2 hj;have hpj:=t.reach j hj hs.2.2.1 hlj;by_cases e:d=k
    ·subst e;have ho:Bl s.page j=h.Gn s.came (h.last d) ((h.mem (h.last d)).idxOf j):=by unfold Bl;rw [hpj,Kc g hd];show (0:Int) + _=_;simp [rrow]
     rw [if_pos ⟨hs.1,hs.2.1⟩,if_neg (λz=>nomatch z.1),if_pos rfl,ho]
     lia
    ·have n1:¬(h.dn j=some k/\(h.pl j).dl=0):=λz=>by rw [hs.1] at z;exact e (Option.some.inj z.1)
     rw [if_neg n1,if_neg (λz=>nomatch z.1),if_neg (λz=>e (Option.some.inj z))]
     lia
  rw [e2];lia
end
theorem ZCK:∀{n m:Nat} {X:Nat->Nat->Int},Ak n (λk=>Ak m (X k))=Ak m λj=>Ak n λk=>X k j
 | 0,m,X=>(Oo λ_ _=>rfl).symm
 | n + 1,m,X=>by
  show Ak n (λk=>Ak m (X k)) + Ak m (X n)=Ak m λj=>Ak n (λk=>X k j) + X n j
  rw [ZCK,<-Gi]
theorem Wz:∀{n:Nat},Ak n (λk=>if d=k then x else 0)=if d < n then x else 0
 | 0=>rfl
 | n + 1=>by
  show Ak n _ + (if d=n then x else 0)=_;rw [Wz];by_cases h:d=n
  ·rw [if_neg (show¬d < n by lia),if_pos h,if_pos (show d < n + 1 by lia)];lia
  ·rw [if_neg h];by_cases h2:d < n
   ·rw [if_pos h2,if_pos (show d < n + 1 by lia)];lia
   ·rw [if_neg h2,if_neg (show¬d < n + 1 by lia)];lia
def sum5 (F:Nat->Int):Int:=F 0 + F 1 + F 2 + F 3 + F 4
noncomputable def Du (n:Nat) (lv:Nat->Int) (co:Nat->Nat->Int):Int:=Ak n lv + Ak n λk=>sum5 (co k)
noncomputable def Oe (h:Hs) (pg:Nat->List Int) (k:Nat):Int:=(pg k).getD 1 0 + (if h.dn k=none then Bl pg k else 0)
noncomputable def NoPump (h:Hs):Prop:=∀k b r,k < h.n->(h.pl k).kd=.basin b r none->∀s∈r,∀t∈s.2,t.r=true
theorem ZEn:∀{st:List Stp},(∀t∈st,t.r=true)->pm w st=0
 | [],_=>rfl
 | t::st,h=>by show (if t.r then 0 else cub w t) + pm w st=0;rw [if_pos (h t (by simp)),ZEn λx hx=>h x (zZ _ hx)];rfl
theorem ZA6 {t:Int}:∀{r:List Ssn} {x:List Stp},held t r x=x∨∃s∈r,held t r x=s.2
 | [],x=>.inl rfl
 | s::r,x=>by
  show held t r (if s.1<=t then s.2 else x)=x∨_;rcases ZA6 (t:=t) (r:=r) (x:=if s.1<=t then s.2 else x) with z | ⟨s',hs,z⟩
  ·by_cases hc:s.1<=t
   ·rw [if_pos hc] at z;exact .inr ⟨s,by simp,by show held t r (if s.1<=t then s.2 else x)=_;rw [if_pos hc];exact z⟩
   ·rw [if_neg hc] at z;exact .inl (by rw [if_neg hc];exact z)
  ·exact .inr ⟨s',zZ _ hs,z⟩
theorem add10 {d a' b' c' d' e':Int}:(a + a') + (b + b') + (c + c') + (d + d') + (e + e')=(a + b + c + d + e) + (a' + b' + c' + d' + e'):=by lia
section
variable {h:Hs} {yt:Int} {lv:Nat->Int} {co:Nat->Nat->Int} {fl:Nat->Int}
theorem nopump (hp:NoPump h) (hk:k < h.n) (e:(h.pl k).kd=.basin b r none) :pm w (held yt r [])=0:=by
 refine ZEn λt ht=> ?_
 rcases ZA6 (t:=yt) (r:=r) (x:= []) with z | ⟨s,hs,z⟩
 ·rw [z] at ht;cases ht
 ·rw [z] at ht;exact hp k b r hk e s hs t ht
theorem ZFq (g:GoodH h) (hp:NoPump h) (t:TI h yt lv co fl h.n s) (hlv:∀k,k < h.n->(h.pl k).kd.isB=false->lv k=0) (hk:k < h.n):
  lv k + (s.page k).getD 0 0=(s.page k).getD 1 0 + Bl s.page k + Er s.page k + lies s.page k/\(h.pmp k=none->Er s.page k=0):=by
 cases hB:(h.pl k).kd.isB with
 | true=>
  unfold Bl Er lies;rw [t.basin k hk hk hB];unfold Hs.brow Hs.pmp;cases e:(h.pl k).kd with
  | basin a b c=>
   refine ⟨by simp [List.getD];lia,λz=> ?_⟩;cases c with
   | some q=>obtain ⟨x,y,w⟩:=q;cases z
   | none=>exact nopump hp hk e
  | town _ _=>rw [e] at hB;cases hB
  | mill _=>rw [e] at hB;cases hB
 | false=>
  have hl:=(Jp g k).2 hk;unfold Bl Er lies;rw [t.reach k hk hB hl,hlv k hk hB];refine ⟨?_,λ_=>rfl⟩;simp [rrow,List.getD]
theorem ZPU (g:GoodH h) (hj:j < h.n):Ak h.n (λk=>sum5 λa=>h.o1 pg k a j)=(if h.dn j≠none/\0 < (h.pl j).dl then Bl pg j else 0) + (if h.pmp j≠none then Er pg j else 0):=by
 have e1:∀k,sum5 (λa=>h.o1 pg k a j)=(if h.dn j=some k then (if 0 < (h.pl j).dl then Bl pg j else 0) else 0) + (match h.pmp j with | some (to,_)=>if to=k then Er pg j else 0 | none=>0):=λk=>by
  have hd:=g.dl j hj;unfold sum5 Hs.o1;have a1:((if h.dn j=some k/\(h.pl j).dl=0 + 1 then Bl pg j else 0) + (if h.dn j=some k/\(h.pl j).dl=1 + 1 then Bl pg j else 0) + (if h.dn j=some k/\(h.pl j).dl=2 + 1 then Bl pg j else 0) + (if h.dn j=some k/\(h.pl j).dl=3 + 1 then Bl pg j else 0) + (if h.dn j=some k/\(h.pl j).dl=4 + 1 then Bl pg j else 0))=if h.dn j=some k then (if 0 < (h.pl j).dl then Bl pg j else 0) else 0:=by
   by_cases hc:h.dn j=some k
   ·simp only [hc,true_and,if_true]
    rcases (by lia:(h.pl j).dl=0∨(h.pl j).dl=1∨(h.pl j).dl=2∨(h.pl j).dl=3∨(h.pl j).dl=4∨(h.pl j).dl=5) with z | z | z | z | z | z <;> simp [z]
   ·simp [hc]
  have a2:((if h.pmp j=some (k,0 + 1) then Er pg j else 0) + (if h.pmp j=some (k,1 + 1) then Er pg j else 0) + (if h.pmp j=some (k,2 + 1) then Er pg j else 0) + (if h.pmp j=some (k,3 + 1) then Er pg j else 0) + (if h.pmp j=some (k,4 + 1) then Er pg j else 0))=match h.pmp j with | some (to,_)=>if to=k then Er pg j else 0 | none=>0:=by
   cases hq:h.pmp j with
   | none=>simp
   | some q=>
    obtain ⟨to,dl⟩:=q;have hdl:1<=dl/\dl<=5:=by
     unfold Hs.pmp at hq;cases e:(h.pl j).kd with
     | basin b r p=>
      rw [e] at hq;cases p with
      | none=>cases hq
      | some p=>
       obtain ⟨x,y,w⟩:=p;cases hq;exact (g.pump j b r to dl w hj e).2
     | town _ _=>rw [e] at hq;cases hq
     | mill _=>rw [e] at hq;cases hq
    simp only [Option.some.injEq,Prod.mk.injEq];by_cases hc:to=k
    ·simp only [hc,true_and,if_true]
     rcases (by lia:dl=1∨dl=2∨dl=3∨dl=4∨dl=5) with z | z | z | z | z <;> simp [z]
    ·simp [hc]
  rw [<-a1,<-a2];exact add10
 rw [Fx (λk _=>e1 k),Gi]
 congr 1
 ·cases hd:h.dn j with
  | none=>simp;exact Oo λ_ _=>rfl
  | some d=>
   have hl:=g.dn j d hj hd;have e2:Ak h.n (λk=>if some d=some k then (if 0 < (h.pl j).dl then Bl pg j else 0) else 0)=Ak h.n (λk=>if d=k then (if 0 < (h.pl j).dl then Bl pg j else 0) else 0):=Fx λk _=>by simp only [Option.some.injEq]
   rw [e2,Wz,if_pos hl.2];simp
 ·cases hq:h.pmp j with
  | none=>simp;exact Oo λ_ _=>rfl
  | some q=>
   obtain ⟨to,dl⟩:=q;have hto:to < h.n:=by
    unfold Hs.pmp at hq;cases e:(h.pl j).kd with
    | basin b r p=>
     rw [e] at hq;cases p with
     | none=>cases hq
     | some p=>
      obtain ⟨x,y,w⟩:=p;cases hq;exact (g.pump j b r to dl w hj e).1
    | town _ _=>rw [e] at hq;cases hq
    | mill _=>rw [e] at hq;cases hq
   simp only;rw [Wz,if_pos hto];simp
theorem ZQX (g:GoodH h) (hp:NoPump h) (t:TI h yt lv co fl h.n s) (nn:s.NN h.n) (hlv:∀k,k < h.n->(h.pl k).kd.isB=false->lv k=0):
  Du h.n (lies s.page) s.coming=Du h.n lv co + Ak h.n fl - Ak h.n (Oe h s.page):=by
 have a0:Ak h.n (λk=>(s.page k).getD 0 0)=Ak h.n fl + Ak h.n (λk=>co k 0) + Ak h.n λj=>if h.dn j≠none/\(h.pl j).dl=0 then Bl s.page j else 0:=by
  rw [Fx (λk hk=>ZLy g t nn hk),Gi,Gi,ZCK]
  congr 1
  refine Fx λj hj=> ?_
  cases hd:h.dn j with
  | none=>simp;exact Oo λ_ _=>rfl
  | some d=>
   have hl:=g.dn j d hj hd;by_cases hc:(h.pl j).dl=0
   ·have e2:Ak h.n (λk=>if some d=some k/\(h.pl j).dl=0 then Bl s.page j else 0)=Ak h.n (λk=>if d=k then Bl s.page j else 0):=Fx λk _=>by simp [hc]
    rw [e2,Wz,if_pos hl.2];simp [hc]
   ·rw [Oo λk _=>by simp [hc]];simp [hc]
 have a1:Ak h.n (λk=>sum5 (s.coming k))=Ak h.n (λk=>sum5 (Hu co k)) + Ak h.n λj=>(if h.dn j≠none/\0 < (h.pl j).dl then Bl s.page j else 0) + (if h.pmp j≠none then Er s.page j else 0):=by
  have e1:∀k,k < h.n->sum5 (s.coming k)=sum5 (Hu co k) + Ak h.n λj=>sum5 λa=>h.o1 s.page k a j:=λk hk=>by unfold sum5;rw [t.coming k 0 hk (by lia),t.coming k 1 hk (by lia),t.coming k 2 hk (by lia),t.coming k 3 hk (by lia),t.coming k 4 hk (by lia)];rw [Gi,Gi,Gi,Gi];show _=_ + (Ak h.n (h.o1 s.page k 0) + Ak h.n (h.o1 s.page k 1) + Ak h.n (h.o1 s.page k 2) + Ak h.n (h.o1 s.page k 3) + Ak h.n (h.o1 s.page k 4));lia
  rw [Fx e1,Gi,ZCK]
  congr 1
  exact Fx λj hj=>ZPU g hj
 have a2:Ak h.n (λk=>lv k + (s.page k).getD 0 0)=Ak h.n (λk=>(s.page k).getD 1 0 + Bl s.page k + Er s.page k + lies s.page k):=Fx λk hk=>(ZFq g hp t hlv hk).1
 have a3:Ak h.n (λk=>sum5 (Hu co k)) + Ak h.n (λk=>co k 0)=Ak h.n λk=>sum5 (co k):=by
  rw [<-Gi];refine Fx λk _=> ?_
  unfold sum5 Hu;simp;lia
 have a4:Ak h.n (Oe h s.page) + (Ak h.n (λj=>if h.dn j≠none/\(h.pl j).dl=0 then Bl s.page j else 0) + Ak h.n λj=>(if h.dn j≠none/\0 < (h.pl j).dl then Bl s.page j else 0) + (if h.pmp j≠none then Er s.page j else 0))=Ak h.n λk=>(s.page k).getD 1 0 + Bl s.page k + Er s.page k:=by
  rw [<-Gi,<-Gi];refine Fx λk hk=> ?_
  have hz:=(ZFq g hp t hlv hk).2;unfold Oe;have b1:(if h.pmp k≠none then Er s.page k else 0)=Er s.page k:=by
   by_cases hc:h.pmp k=none
   ·rw [hz hc];simp
   ·rw [if_pos hc]
  have b2:(if h.dn k=none then Bl s.page k else 0) + ((if h.dn k≠none/\(h.pl k).dl=0 then Bl s.page k else 0) + (if h.dn k≠none/\0 < (h.pl k).dl then Bl s.page k else 0))=Bl s.page k:=by
   by_cases hc:h.dn k=none
   ·simp [hc]
   ·by_cases h0:(h.pl k).dl=0
    ·simp [hc,h0]
    ·simp [hc,h0]
     try lia
  lia
 rw [Gi,Gi] at a2;unfold Du;have a5:Ak h.n (lies s.page)=Ak h.n λk=>lies s.page k:=rfl
 have a6:Ak h.n lv=Ak h.n λk=>lv k:=rfl
 lia
end
theorem ZGx {w:Int}:∀{st:List Stp} {t:Int},Good t st->rv w st + pm w st<=max 0 (w - t)
 | [],t,_=>by show (0:Int) + 0<=_;lia
 | s::st,t,hg=>by
  obtain ⟨h1,h2,h3⟩:=hg;have ih:=ZGx (w:=w) h3;have e:rv w (s::st) + pm w (s::st)=cub w s + (rv w st + pm w st):=by
   show (if s.r then cub w s else 0) + rv w st + ((if s.r then 0 else cub w s) + pm w st)=_
   split <;> lia
  rw [e];unfold cub;lia
section
variable {h:Hs} {yt:Int} {lv lv':Nat->Int} {co co':Nat->Nat->Int} {fl fl':Nat->Int}
theorem ZOI (g:GoodH h) (hk:k < h.n) {q:Option (Nat×Nat×Int)} (e:(h.pl k).kd=.basin b r q):Good 0 (held yt r []):=by
 rcases ZA6 (t:=yt) (r:=r) (x:= []) with z | ⟨s,hs,z⟩
 ·rw [z];trivial
 ·rw [z];exact (g.brim k b r q hk e).2 s hs
end
structure PageOk (h:Hs) (pg:Nat->List Int):Prop where
 row:∀k,k < h.n->∃a b c d e f,pg k= [a,b,c,d,e,f]/\0<=a/\0<=b/\0<=c/\0<=d/\0<=e/\0<=f
 brim:∀k b r q,k < h.n->(h.pl k).kd=.basin b r q->(pg k).getD 5 0<=b/\(0 < (pg k).getD 2 0->(pg k).getD 5 0=b)
 town:∀k a b,k < h.n->(h.pl k).kd=.town a b->(pg k).getD 1 0<=a
 idleB:∀k,k < h.n->(h.pl k).kd.isB=true->(pg k).getD 1 0=0
 ZM6:∀k,k < h.n->(h.pl k).kd.isB=false->(pg k).getD 2 0=0/\(pg k).getD 4 0=0/\(pg k).getD 5 0=0
structure StOk (h:Hs) (lv:Nat->Int) (co:Nat->Nat->Int):Prop where
 lv0:∀k,k < h.n->0<=lv k
 lvR:∀k,k < h.n->(h.pl k).kd.isB=false->lv k=0
 co0:∀k a,k < h.n->a < 5->0<=co k a
section
variable {h:Hs} {yt:Int} {lv:Nat->Int} {co:Nat->Nat->Int} {fl:Nat->Int}
theorem ZJY (g:GoodH h) (t:TI h yt lv co fl h.n s) (nn:s.NN h.n) (h0:∀k,k < h.n->0<=lv k):PageOk h s.page:=by
 refine ⟨λk hk=> ?_,λk b r q hk e=> ?_,λk a b hk e=> ?_,λk hk hB=> ?_,λk hk hB=> ?_⟩
 ·cases hB:(h.pl k).kd.isB with
  | true=>
   rw [t.basin k hk hk hB];unfold Hs.brow;cases e:(h.pl k).kd with
   | basin b r q=>
    have a0:=h0 k hk;have a1:=nn.1 k hk;have a2:=ZD2 (w:=lv k + s.came k) (st:=held yt r []);have a3:=ZDY (w:=lv k + s.came k) (st:=held yt r []);have a4:=ZGx (w:=lv k + s.came k) (ZOI (yt:=yt) g hk e);have a5:=(g.brim k b r q hk e).1;exact ⟨_,_,_,_,_,_,rfl,a1,qV _,by lia,a2,a3,by lia⟩
   | town _ _=>rw [e] at hB;cases hB
   | mill _=>rw [e] at hB;cases hB
  | false=>
   have hl:=(Jp g k).2 hk;rw [t.reach k hk hB hl];have hR:=Tt g (m:=h.last k) nn.1;have hm:k∈h.mem (h.last k):=mem_iff.mpr ⟨hk,rfl⟩;have hsi:=ZCq hR;have t0:0<=h.Hv s.came (h.last k) ((h.mem (h.last k)).idxOf k):=hsi.t0 _;have l0:0<=h.Gn s.came (h.last k) ((h.mem (h.last k)).idxOf k):=by have:=hsi.p0 ((h.mem (h.last k)).idxOf k) (by rw [Rv];exact qq hm);rw [hsi.pg] at this;exact this
   exact ⟨_,_,_,_,_,_,rfl,by lia,t0,qV _,l0,qV _,qV _⟩
 ·have hB:(h.pl k).kd.isB=true:=by rw [e];rfl
  rw [t.basin k hk hk hB];unfold Hs.brow;rw [e];simp only [List.getD_cons_succ,List.getD_cons_zero];lia
 ·have hB:(h.pl k).kd.isB=false:=by rw [e];rfl
  have hl:=(Jp g k).2 hk;rw [t.reach k hk hB hl];have hR:=Tt g (m:=h.last k) nn.1;have hm:k∈h.mem (h.last k):=mem_iff.mpr ⟨hk,rfl⟩;have hn:=(ZCq hR).tn ((h.mem (h.last k)).idxOf k);rw [ZFF hm] at hn;have e2:(h.row (h.mem (h.last k)) s.came k).need=a:=by show h.need k=a;unfold Hs.need;rw [e]
  rw [e2] at hn;exact hn
 ·rw [t.basin k hk hk hB];unfold Hs.brow
  cases e:(h.pl k).kd <;> rfl
 ·have hl:=(Jp g k).2 hk;rw [t.reach k hk hB hl];exact ⟨rfl,rfl,rfl⟩
theorem ZJf (g:GoodH h) (t:TI h yt lv co fl h.n s) (nn:s.NN h.n) (h0:∀k,k < h.n->0<=lv k):StOk h (lies s.page) s.coming:=by have po:=ZJY g t nn h0;refine ⟨λk hk=> ?_,λk hk hB=>(po.ZM6 k hk hB).2.2,nn.2⟩;obtain ⟨a,b,c,d,e,f,e1,h1⟩:=po.row k hk;unfold lies;rw [e1];exact h1.2.2.2.2.2
end
section
variable {h:Hs}
theorem Xw (g:GoodH h):∀(fls:List (Nat->Int)) (s:St2) (a:Int),StOk h s.1 s.2->(∀fl∈fls,∀k,k < h.n->0<=fl k)->(∀pg∈h.Br fls s a,PageOk h pg)/\StOk h (h.Az fls s a).1 (h.Az fls s a).2
 | [],s,a,hs,_=>⟨(λpg hp=>nomatch hp),hs⟩
 | fl::r,s,a,hs,hf=>by
  have hf1:=hf fl (by simp);have t:=ZFo (lv:=s.1) (co:=s.2) (fl:=fl) g (at_:=a);have nn:=ZDs g (lv:=s.1) (fl:=fl) (co:=s.2) (a:=a) hs.co0 hf1;have ih:=Xw g r (h.nxt s a fl) (a + 1) (ZJf g t nn hs.lv0) λf' hf'=>hf f' (zZ _ hf')
  refine ⟨λpg hp=> ?_,ih.2⟩;rcases zx.mp hp with rfl | hp
  ·exact ZJY g t nn hs.lv0
  ·exact ih.1 pg hp
theorem ZEf (g:GoodH h) (hp:NoPump h):∀(fls:List (Nat->Int)) (s:St2) (a:Int),StOk h s.1 s.2->(∀fl∈fls,∀k,k < h.n->0<=fl k)->
  Du h.n (h.Az fls s a).1 (h.Az fls s a).2=Du h.n s.1 s.2 + (fls.map (Ak h.n)).sum - ((h.Br fls s a).map λpg=>Ak h.n (Oe h pg)).sum
 | [],s,a,hs,_=>by show Du h.n s.1 s.2=Du h.n s.1 s.2 + 0 - 0;lia
 | fl::r,s,a,hs,hf=>by
  have hf1:=hf fl (by simp);have t:=ZFo (lv:=s.1) (co:=s.2) (fl:=fl) g (at_:=a);have nn:=ZDs g (lv:=s.1) (fl:=fl) (co:=s.2) (a:=a) hs.co0 hf1;have ih:=ZEf g hp r (h.nxt s a fl) (a + 1) (ZJf g t nn hs.lv0) λf' hf'=>hf f' (zZ _ hf')
  have e:=ZQX g hp t nn hs.lvR;show Du h.n (h.Az r (h.nxt s a fl) (a + 1)).1 (h.Az r (h.nxt s a fl) (a + 1)).2=_;rw [ih];show Du h.n (lies (h.cs s.1 s.2 a fl).page) (h.cs s.1 s.2 a fl).coming + _ - _=_;rw [e];show _=Du h.n s.1 s.2 + ((fl::r).map (Ak h.n)).sum - (((h.cs s.1 s.2 a fl).page::h.Br r (h.nxt s a fl) (a + 1)).map λpg=>Ak h.n (Oe h pg)).sum;rw [zW,jz,zW,jz]
  lia
end
theorem ZFT:∀{n:Nat} {j num left:Int},∀x∈strm n j num left,x < 10 ^ 42
 | 0,_,_,_,x,h=>by cases h
 | n + 1,j,num,left,x,h=>by
  simp only [strm,zx] at h;rcases h with rfl | h
  ·split
   ·exact qT _ (by decide)
   ·have:=qT (num * num + 48271 * j + 11) (show (0:Int) < 2147483647 by decide);exact Int.lt_trans this (by decide)
  ·exact ZFT x h
theorem ZKo (h0:0<=x) (h1:x < 10 ^ 42):Bts (x / 3 + 2):=Bts.ZJq (m:=200) (by
 have h2:x / 3 + 2 < 10 ^ 42 + 3:=by lia
 have h3:(10:Int) ^ 42 + 3 < 2 ^ 200:=by decide
 have h4:0<=x / 3 + 2:=by lia
 have h5:((x / 3 + 2).natAbs:Int) < ((2 ^ 200:Nat):Int):=by rw [Int.natAbs_of_nonneg h4];exact Int.lt_trans h2 h3
 exact Int.ofNat_lt.mp h5) (by decide) (by decide)
theorem ZL3 {n:Nat} (h:c.natAbs < 2 ^ n):(c + 1).natAbs < 2 ^ (n + 1):=by have h3:2 ^ (n + 1)=2 ^ n * 2:=Nat.pow_succ ..;have h4:0 < 2 ^ n:=Nat.pow_pos (by decide);lia
theorem ZM2 (h:c.natAbs.log2 < 1048576):Bts (c + 1):=Bts.ZJq (m:=1048576 + 1) (ZL3 (Bts.lt h)) (by decide) (by decide)
def rwD (r:List Int):D:=.tup (r.map D.int)
@[simp] theorem ZPF {n:Nat} {r:List Int}:bel n (rwD r)=true:=by unfold rwD;simp [Gp]
theorem ZQI {n:Nat} {l:List (List Int)}:bels n (l.map rwD)=true:=Ft λ_ _=>ZPF
noncomputable def cmF (cell x:Int):Int:=if x % 3=0 then 0 else if x % 3=1 then x / 3 % 30 else (cell + 1) * (x / 3 + 2) % 10 ^ 37
theorem ZHf (hc:Bts (cell + 1)) (G:DH):∀xs:List Int,(∀x∈xs,0<=x/\x < 10 ^ 42)->Cp (gV 0) Bj Yc [none,some (.int cell)] (xs.map D.int) G=.ok ((xs.map (cmF cell)).map D.int) G
 | [],_=>rfl
 | x::xs,h=>by
  have ih:=ZHf hc G xs λy hy=>h y (zZ _ hy)
  have hx:=h x (by simp);have he:Yc [some (.int x),some (.int cell)] G=.ok (.int (cmF cell x)) G:=by
   have mm:∀G,Dm (.int (cell + 1)) (.int (x / 3 + 2)) G=.ok (.int ((cell + 1) * (x / 3 + 2))) G:=λG=>ZKr (.inr ⟨hc,ZKo hx.1 hx.2⟩)
   have fz:∀a b c:Int,freeze G (.ok (.ref G.length) (G++ [.lst [.int a,.int b,.int c]]))=.ok (.fl [.int a,.int b,.int c]) G:=λa b c=>Do rfl
   have e37:(10000000000000000000000000000000000000:Int)=10 ^ 37:=by decide
   unfold Yc cmF;rcases (by lia:x % 3=0∨x % 3=1∨x % 3=2) with z | z | z
   ·simp [mm,fz,z]
   ·simp [mm,fz,z]
   ·simp [mm,fz,z]
  rw [zW,Jd];simp [he,ih]
theorem ZLa (g:GoodH h) (hk:k < h.n) (hc:Bts (cell + 1)) (hxl:xs.length=8 * h.n) (hx:∀x∈xs,0<=x/\x < 10 ^ 42):∃(v:Int) (r:List Int),(0<=v/\((h.pl k).kd.isB=false->v=0))/\(r.length=5/\∀x∈r,0<=x)/\∀(G:DH) (lv:List Int) (co:List (List Int)) (x6 x7 x8:Option D),lv.length<=100->co.length<=100->∃y6 y7 y8,
  Rq [some h.enc,some (.int cell),some (.ref G.length),some (.ref (G.length + 1)),some (.fl (xs.map D.int)),some (.int k),x6,x7,x8] (G++ [.lst (lv.map D.int),.lst (co.map rwD)])=
   .nx [some h.enc,some (.int cell),some (.ref G.length),some (.ref (G.length + 1)),some (.fl (xs.map D.int)),some (.int k),y6,y7,y8] (G++ [.lst ((lv++ [v]).map D.int),.lst ((co++ [r]).map rwD)]):=by
 have ap:=Hs.Fj hk;have hn:=g.len;have m8:∀G,Dm (.int 8) (.int (k:Int)) G=.ok (.int (8 * (k:Int))) G:=λG=>M6 (by lia) (by lia)
 have cu:cutD (xs.map D.int) (some (8 * (k:Int))) (some (8 * (k:Int) + 8))=((xs.drop (8 * k)).take 8).map D.int:=by have:=Sd (xs:=xs) (a:=8 * k) (b:=8 * k + 8) (by lia) (by lia);rwa [show ((8 * k:Nat):Int)=8 * (k:Int) by lia,show ((8 * k + 8:Nat):Int)=8 * (k:Int) + 8 by lia,show 8 * k + 8 - 8 * k=8 by lia] at this
 have hz:∀x∈(xs.drop (8 * k)).take 8,0<=x/\x < 10 ^ 42:=λx h=>hx x (qF (qG h))
 have hzl:((xs.drop (8 * k)).take 8).length=8:=by simp;lia
 generalize (xs.drop (8 * k)).take 8=zs at *;have a0:atI (zs.map D.int) 0=some (.int (gx zs 0)):=Ex (i:=0) (by lia);have a1:atI (zs.map D.int) 1=some (.int (gx zs 1)):=Ex (i:=1) (by lia);have a2:atI (zs.map D.int) 2=some (.int (gx zs 2)):=Ex (i:=2) (by lia);have cu2:cutD (zs.map D.int) (some 3) (some 8)=((zs.drop 3).take (8 - 3)).map D.int:=Sd (xs:=zs) (a:=3) (b:=8) (by lia) (by lia);have cc:=λG=>ZHf hc G ((zs.drop 3).take (8 - 3)) λx h=>hz x (qF (qG h))
 have lr5:((zs.drop 3).take (8 - 3)).length=5:=by simp;lia
 have lr:((zs.drop 3).take (8 - 3)).length<=1000:=by lia
 have hz5:∀x∈(zs.drop 3).take (8 - 3),0<=x:=λx h=>(hz x (qF (qG h))).1
 generalize (zs.drop 3).take (8 - 3)=ws at *;obtain ⟨v,hv0,hv⟩:∃v:Int,(0<=v/\((h.pl k).kd.isB=false->v=0))/\∀(s0 s2 s3 s4 s5 x8:Option D) (G:DH),Lj [s0,some (.int cell),s2,s3,s4,s5,some (h.encP (h.pl k)),some (.fl (zs.map D.int)),some (.int 0)] G=ZA3 [s0,some (.int cell),s2,s3,s4,s5,some (h.encP (h.pl k)),some (.fl (zs.map D.int)),some (.int v)] G:=by
  cases ek:(h.pl k).kd with
  | mill a=>
   have h1:¬(("mill":Str)="basin"):=by decide
   exact ⟨0,⟨qV _,λ_=>rfl⟩,λs0 s2 s3 s4 s5 x8 G=>by unfold Hs.encP Lj;rw [ek];simp [h1]⟩
  | town a b=>
   have h1:¬(("town":Str)="basin"):=by decide
   exact ⟨0,⟨qV _,λ_=>rfl⟩,λs0 s2 s3 s4 s5 x8 G=>by unfold Hs.encP Lj;rw [ek];simp [h1]⟩
  | basin a r q=>
   have ha:=(g.brim k a r q hk ek).1;have g0:=Qn (λx h=>(hz x h).1) (i:=0) (xs:=zs);have fz:∀(a b c:Int) (G:DH),freeze G (.ok (.ref G.length) (G++ [.lst [.int a,.int b,.int c,.int 0]]))=.ok (.fl [.int a,.int b,.int c,.int 0]) G:=λa b c G=>Do rfl
   have nb:∀v:Int,0<=v->0<=v/\((Kd.basin a r q).isB=false->v=0):=λv hv=>⟨hv,λz=>by cases z⟩
   rcases (by lia:gx zs 1 % 4=0∨gx zs 1 % 4=1∨gx zs 1 % 4=2∨gx zs 1 % 4=3) with z | z | z | z
   ·exact ⟨min a (gx zs 0 % 50),nb _ (by lia),λs0 s2 s3 s4 s5 x8 G=>by unfold Hs.encP Lj;rw [ek];simp [a0,a1,a2,fz,z]⟩
   ·exact ⟨min a ((cell + gx zs 2) % 100000000000000000000000000000000000000),nb _ (by lia),λs0 s2 s3 s4 s5 x8 G=>by unfold Hs.encP Lj;rw [ek];simp [a0,a1,a2,fz,z]⟩
   ·exact ⟨min a a,nb _ (by lia),λs0 s2 s3 s4 s5 x8 G=>by unfold Hs.encP Lj;rw [ek];simp [a0,a1,a2,fz,z]⟩
   ·exact ⟨min a 0,nb _ (by lia),λs0 s2 s3 s4 s5 x8 G=>by unfold Hs.encP Lj;rw [ek];simp [a0,a1,a2,fz,z]⟩
 have cm0:∀x∈ws.map (cmF cell),0<=x:=λx hx=>by
  obtain ⟨y,hy,rfl⟩:=zF.mp hx;have:=hz5 y hy;unfold cmF;split
  ·exact qV _
  split
  ·lia
  ·exact qA _ (by decide)
 refine ⟨v,ws.map (cmF cell),hv0,⟨by rw [zG];exact lr5,cm0⟩,λG lv co x6 x7 x8 h1 h2=>⟨some (h.encP (h.pl k)),some (.fl (zs.map D.int)),some (.int v),?_⟩⟩;have fzz:∀(A B:DO) (l:List Int),freeze (G++ [A,B]) (.ok (.ref (G.length + 2)) (G++ [A,B,.lst (l.map D.int)]))=.ok (.fl (l.map D.int)) (G++ [A,B]):=λA B l=>Vl Gp
 have f1:=λA B=>fzz A B zs
 have f2:=λA B=>fzz A B ws
 have f3:=λA B=>fzz A B (ws.map (cmF cell))
 have hl1:(lv.map D.int).length < 1000000:=by simp;lia
 have hl2:(co.map rwD).length < 1000000:=by simp;lia
 have g0:∀a b:DO,(G++ [a,b])[G.length]? =some a:=λa b=>by simp
 have g1:∀a b:DO,(G++ [a,b])[G.length + 1]? =some b:=λa b=>by simp
 have s0:∀a b c:DO,(G++ [a,b]).set G.length c=G++ [c,b]:=λa b c=>by simp
 have s1:∀a b c:DO,(G++ [a,b]).set (G.length + 1) c=G++ [a,c]:=λa b c=>by simp
 have cs:∀a b c d e f' g h i:Option D,Bd 1 [1] [a,b,c,d,e,f',g,h,i]= [none,b]:=λ_ _ _ _ _ _ _ _ _=>rfl
 have lw:((ws.map (cmF cell)).map D.int).length<=1000000:=by simp;lia
 have er:rwD (ws.map (cmF cell))=.tup ((ws.map (cmF cell)).map D.int):=rfl;rw [jY,jY,zW,jJ,zW,jJ,er];generalize (ws.map (cmF cell)).map D.int=W at *;generalize ws.map D.int=W2 at *;generalize zs.map D.int=W3 at *;generalize lv.map D.int=W4 at *;generalize co.map rwD=W5 at *;have st1:∀A B:DO,Rq [some h.enc,some (.int cell),some (.ref G.length),some (.ref (G.length + 1)),some (.fl (xs.map D.int)),some (.int k),x6,x7,x8] (G++ [A,B])=Lj [some h.enc,some (.int cell),some (.ref G.length),some (.ref (G.length + 1)),some (.fl (xs.map D.int)),some (.int k),some (h.encP (h.pl k)),some (.fl W3),some (.int 0)] (G++ [A,B]):=λA B=>by
  unfold Rq ZIr ZGT;simp [Eg,ap,m8,cu,f1]
 rw [st1,hv _ _ _ _ _ none];unfold ZA3 ZHl;simp [g0,g1,s0,s1,hl1,cu2,f2,cs,cc,lw,f3,hl2]
theorem ZIJ (g:GoodH h) (hc:Bts (cell + 1)) (hxl:xs.length=8 * h.n) (hx:∀x∈xs,0<=x/\x < 10 ^ 42):∀(m k:Nat),k + m=h.n->∃(lv:List Int) (co:List (List Int)),lv.length=m/\co.length=m/\(∀j,j < m->0<=lv.getD j 0/\((h.pl (k + j)).kd.isB=false->lv.getD j 0=0))/\(∀r∈co,r.length=5/\∀x∈r,0<=x)/\∀(G:DH) (lv0:List Int) (co0:List (List Int)) (x5 x6 x7 x8:Option D),lv0.length + m<=100->co0.length + m<=100->∃y5 y6 y7 y8,
  Bx (gV 5) Rq (Dc k m) [some h.enc,some (.int cell),some (.ref G.length),some (.ref (G.length + 1)),some (.fl (xs.map D.int)),x5,x6,x7,x8] (G++ [.lst (lv0.map D.int),.lst (co0.map rwD)])=
   .nx [some h.enc,some (.int cell),some (.ref G.length),some (.ref (G.length + 1)),some (.fl (xs.map D.int)),y5,y6,y7,y8] (G++ [.lst ((lv0++lv).map D.int),.lst ((co0++co).map rwD)])
 | 0,k,e=>⟨[],[],rfl,rfl,(λj hj=>absurd hj (xQ _)),(λr hr=>nomatch hr),λG lv0 co0 x5 x6 x7 x8 _ _=>⟨x5,x6,x7,x8,by rw [M5,Fy,q8,q8]⟩⟩
 | m + 1,k,e=>by
  obtain ⟨v,r,hv,hr,hb⟩:=ZLa g (k:=k) (by lia) hc hxl hx;obtain ⟨lv,co,l1,l2,p1,p2,ih⟩:=ZIJ g hc hxl hx m (k + 1) (by lia);refine ⟨v::lv,r::co,by simp [l1],by simp [l2],λj hj=> ?_,λr' hr'=> ?_,λG lv0 co0 x5 x6 x7 x8 h1 h2=> ?_⟩
  ·cases j with
   | zero=>exact hv
   | succ j=>
    have:=p1 j (by lia);rwa [show k + 1 + j=k + (j + 1) by lia] at this
  ·rcases zx.mp hr' with rfl | hr'
   ·exact hr
   ·exact p2 r' hr'
  obtain ⟨z6,z7,z8,hb1⟩:=hb G lv0 co0 x6 x7 x8 (by lia) (by lia);obtain ⟨y5,y6,y7,y8,ih1⟩:=ih G (lv0++ [v]) (co0++ [r]) (some (.int k)) z6 z7 z8 (by simp;lia) (by simp;lia);refine ⟨y5,y6,y7,y8,?_⟩;rw [Ku,Et];simp only [Es,R.El,q9,hb1,Ew];have e1:((k:Int) + 1)=((k + 1:Nat):Int):=by lia
  rw [e1,ih1,qx,qx]
  rfl
theorem ZKK (g:GoodH h) (hc:Bts (cell + 1)):∃(lv:Nat->Int) (co:Nat->Nat->Int),StOk h lv co/\∀G,Z5 [h.enc,.int cell] G=.ok (stD h.n lv co) G:=by
 have hn:=g.len;have hst:=λG=>Zg (cell:=cell) (k:=20) (n:=8 * h.n) (by lia) (by lia) G
 have hxl:(Em cell 20 (8 * h.n)).length=8 * h.n:=ZAJ;have hx:∀x∈Em cell 20 (8 * h.n),0<=x/\x < 10 ^ 42:=λx h=>⟨Zo x h,ZFT x h⟩
 generalize Em cell 20 (8 * h.n)=xs at *;have hst':∀G,freeze G (J0 [.int cell,.int 20,.int (8 * (h.n:Int))] G)=.ok (.fl (xs.map D.int)) G:=λG=>by have:=hst G;rwa [show ((8 * h.n:Nat):Int)=8 * (h.n:Int) by lia] at this
 obtain ⟨lv,co,l1,l2,p1,p2,hh⟩:=ZIJ g hc hxl hx h.n 0 (by lia);have el:tab h.n (λk=>lv.getD k 0)=lv.map D.int:=by
  refine qK (by simp [tab,l1]) λi h1 h2=> ?_
  have hi:i < lv.length:=by simpa using h2
  simp [tab,zj,zQ hi]
 have ec:Dw h.n (λk j=>(co.getD k []).getD j 0)=co.map rwD:=by
  refine qK (by simp [Dw,l2]) λi h1 h2=> ?_
  have hi:i < co.length:=by simpa using h2
  have h5:=(p2 co[i] (zM hi)).1;have e1:co.getD i []=co[i]:=by simp [zj,zQ hi]
  simp only [Dw,jS,List.getElem_range,e1,rwD]
  congr 1
  refine qK (by simp [tab,h5]) λj h3 h4=> ?_
  have hj:j < (co[i]).length:=by simpa using h4
  simp [tab,zj,zQ hj]
 refine ⟨λk=>lv.getD k 0,λk j=>(co.getD k []).getD j 0,⟨λk hk=>(p1 k hk).1,λk hk e=>(p1 k hk).2 (by rwa [Nat.zero_add]),λk j hk hj=> ?_⟩,λG=> ?_⟩
 ·have hi:k < co.length:=by lia
  have e1:co.getD k []=co[k]:=by simp [zj,zQ hi]
  have h5:=p2 co[k] (zM hi);have hj':j < (co[k]).length:=by lia
  show 0<=(co.getD k []).getD j 0;rw [e1,zj,zQ hj'];exact h5.2 _ (zM hj')
 obtain ⟨y5,y6,y7,y8,hL⟩:=hh G [] [] none none none none (by simp;lia) (by simp;lia);have hL':Bx (gV 5) Rq (Dc 0 h.n) [some h.enc,some (.int cell),some (.ref G.length),some (.ref (G.length + 1)),some (.fl (xs.map D.int)),none,none,none,none] (G++ [.lst [],.lst []])=_:=hL;rw [qN,qN] at hL';have m8:∀G,Dm (.int 8) (.int (h.n:Int)) G=.ok (.int (8 * (h.n:Int))) G:=λG=>M6 (by lia) (by lia)
 have hr:inR (h.n:Int):=Gz (by lia) (by lia);have t1:tidy (G++ [.lst []]) (.ok (.ref (G.length + 1)) (G++ [.lst [],.lst []]))=.ok (.ref (G.length + 1)) (G++ [.lst [],.lst []]):=ZCA rfl;have g0:∀a b:DO,(G++ [a,b])[G.length]? =some a:=λa b=>by simp
 have g1:∀a b:DO,(G++ [a,b])[G.length + 1]? =some b:=λa b=>by simp
 have b1:bels G.length (lv.map D.int)=true:=Gp;have b2:bels G.length (co.map rwD)=true:=ZQI;unfold stD;rw [el,ec];clear el ec p1 p2 hh;generalize lv.map D.int=W1 at *;generalize co.map rwD=W2 at *;have td:∀L:DH,tidy G (.ok (.tup [.tup W1,.tup W2]) (G++L))=.ok (.tup [.tup W1,.tup W2]) G:=λL=>Xr (by simp [b1,b2])
 unfold Z5 ZJG;rw [By];simp [Be,Fe,t1,Eg,Hs.Ob,m8,hst',hr,hL',g0,g1,td]
theorem ZHy {cell:Int} (G:DH):∀xs:List Int,(∀x∈xs,0<=x)->Cp (gV 0) Bj Zn [none,some (.int cell)] (xs.map D.int) G=.ok ((xs.map λx=>number x cell).map D.int) G
 | [],_=>rfl
 | x::xs,h=>by
  have ih:=ZHy (cell:=cell) G xs λy hy=>h y (zZ _ hy)
  have he:Zn [some (.int x),some (.int cell)] G=.ok (.int (number x cell)) G:=by unfold Zn;simp [Nh (G:=G) (cell:=cell) (h x (by simp))]
  rw [zW,Jd];simp [he,ih]
noncomputable def flF (ns:List Int) (at_ n j k:Nat):Int:=number (gx (Em (cellAt ns ((at_:Int) + 1 + j)) (40 + (j:Int)) n) k) (cellAt ns ((at_:Int) + 1 + j))
theorem ZMg {n:Nat}:0<=flF ns at_ n j k:=Ou
theorem ZFS {ns:List Int} {at_ n:Nat} (hat:at_<=100) (hn:n<=12) {G:DH}:∀(m j:Nat) (acc:List D) (x4 x5:Option D),j + m<=6->acc.length + m<=100->∃y4 y5,
  Bx (gV 4) Ud (Dc j m) [some (.fl (ns.map D.int)),some (.int at_),some (.int n),some (.ref G.length),x4,x5] (G++ [.lst acc])=
   .nx [some (.fl (ns.map D.int)),some (.int at_),some (.int n),some (.ref G.length),y4,y5] (G++ [.lst (acc++(qH j m).map λj=>.tup (tab n (flF ns at_ n j)))])
 | 0,j,acc,x4,x5,_,_=>⟨x4,x5,by rw [M5,Fy];simp⟩
 | m + 1,j,acc,x4,x5,e,hl=>by
  obtain ⟨y4,y5,ih⟩:=ZFS hat hn (ns:=ns) (at_:=at_) (G:=G) m (j + 1) (acc++ [.tup (tab n (flF ns at_ n j))]) (some (.int j)) (some (.int (cellAt ns ((at_:Int) + 1 + j)))) (by lia) (by simp;lia);refine ⟨y4,y5,?_⟩;have c0:∀G,Ff [.fl (ns.map D.int),.int ((at_:Int) + 1 + j)] G=.ok (.int (cellAt ns ((at_:Int) + 1 + j))) G:=λG=>Ky (by lia)
  have hst:∀G,freeze G (J0 [.int (cellAt ns ((at_:Int) + 1 + j)),.int (40 + (j:Int)),.int n] G)=.ok (.fl ((Em (cellAt ns ((at_:Int) + 1 + j)) (40 + (j:Int)) n).map D.int)) G:=λG=>Zg (by lia) (by lia) G
  have hxl:(Em (cellAt ns ((at_:Int) + 1 + j)) (40 + (j:Int)) n).length=n:=ZAJ;have hx:∀x∈Em (cellAt ns ((at_:Int) + 1 + j)) (40 + (j:Int)) n,0<=x:=Zo;have et:tab n (flF ns at_ n j)=((Em (cellAt ns ((at_:Int) + 1 + j)) (40 + (j:Int)) n).map λx=>number x (cellAt ns ((at_:Int) + 1 + j))).map D.int:=by
   refine qK (by simp [tab,hxl]) λi h1 h2=> ?_
   have hi:i < (Em (cellAt ns ((at_:Int) + 1 + j)) (40 + (j:Int)) n).length:=by simpa using h2
   simp [tab,flF,gx,zj,zQ hi]
  have hb:Ud [some (.fl (ns.map D.int)),some (.int at_),some (.int n),some (.ref G.length),some (.int j),x5] (G++ [.lst acc])=
    .nx [some (.fl (ns.map D.int)),some (.int at_),some (.int n),some (.ref G.length),some (.int j),some (.int (cellAt ns ((at_:Int) + 1 + j)))] (G++ [.lst (acc++ [.tup (tab n (flF ns at_ n j))])]):=by
   rw [et];generalize Em (cellAt ns ((at_:Int) + 1 + j)) (40 + (j:Int)) n=xs at *;generalize cellAt ns ((at_:Int) + 1 + j)=cell at *;have nc:=λG=>ZHy (cell:=cell) G xs hx
   have cs:∀a b c d e f':Option D,Bd 1 [5] [a,b,c,d,e,f']= [none,f']:=λ_ _ _ _ _ _=>rfl
   have l1:((xs.map λx=>number x cell).map D.int).length<=1000000:=by simp;lia
   have fz:freeze (G++ [.lst acc]) (.ok (.ref (G.length + 1)) (G++ [.lst acc,.lst ((xs.map λx=>number x cell).map D.int)]))=.ok (.fl ((xs.map λx=>number x cell).map D.int)) (G++ [.lst acc]):=Xh Gp;have hal:acc.length < 1000000:=by lia
   generalize (xs.map λx=>number x cell).map D.int=W at *;generalize xs.map D.int=W2 at *;unfold Ud;simp [c0,hst,cs,nc,l1,fz,Dr,Fg,hal]
  rw [Ku,Et];simp only [Es,R.El,q9,hb,Ew];have e1:((j:Int) + 1)=((j + 1:Nat):Int):=by lia
  rw [e1,ih,List.range'_succ,zW,qx]
  rfl
theorem ZNV {n:Nat} (hat:at_<=100) (hn:n<=12):∃fls:List (Nat->Int),fls.length<=5/\(∀fl∈fls,∀k,k < n->0<=fl k)/\∀G,freeze G (U6 [.fl (ns.map D.int),.int at_,.int n] G)=.ok (.fl (Cm n fls)) G:=by
 obtain ⟨t,et⟩:∃t:Nat,cellAt ns (at_:Int) % 6=t:=⟨(cellAt ns (at_:Int) % 6).toNat,by lia⟩;refine ⟨(qH 0 t).map (flF ns at_ n),by simp;lia,λfl hf k hk=> ?_,λG=> ?_⟩
 ·obtain ⟨j,_,rfl⟩:=zF.mp hf;exact ZMg
 ·have c0:∀G,Ff [.fl (ns.map D.int),.int (at_:Int)] G=.ok (.int (cellAt ns (at_:Int))) G:=λG=>Ky (by lia)
  obtain ⟨y4,y5,hL⟩:=ZFS hat hn (ns:=ns) (G:=G) t 0 [] none none (by lia) (by simp;lia);have hL':Bx (gV 4) Ud (Dc 0 t) _ _=_:=hL;rw [qN] at hL';have hr:inR (t:Int):=Gz (by lia) (by lia);have ef:Cm n ((qH 0 t).map (flF ns at_ n))=(qH 0 t).map λj=>.tup (tab n (flF ns at_ n j)):=by
   unfold Cm;rw [zS]
   rfl
  have bf:∀m,bels m (Cm n ((qH 0 t).map (flF ns at_ n)))=true:=λm=>ZJT
  rw [<-ef] at hL';generalize Cm n ((qH 0 t).map (flF ns at_ n))=F at *;have td:=Fe (G:=G) (ds:=F) (L:= []) (bf _);have fz:freeze G (.ok (.ref G.length) (G++ [.lst F]))=.ok (.fl F) G:=Do (bf _);unfold U6 ZEw;rw [By];simp [Be,Fe,c0,et,hr,hL',td,fz]
theorem Ml {te:DE} {S:DSt} {E:α->D} {F:α->D} {G:DH}:∀{l:List α},(∀a∈l,te (S.set 0 (some (E a))) G=.ok (F a) G)->Cp (gV 0) Bj te S (l.map E) G=.ok (l.map F) G
 | [],_=>rfl
 | a::l,h=>by
  have h1:=h a (by simp);have ih:=Ml (te:=te) (S:=S) (E:=E) (F:=F) (G:=G) (l:=l) λb hb=>h b (zZ _ hb)
  rw [zW,Jd];simp [h1,ih]
theorem ZOv {tc:DB} {n:Nat} {E1 E2 F:Nat->D} {T:Nat->Bool} {d e:D} (hd:Bu d G=some ((zX n).map E1)) (he:Bu e G=some ((zX n).map E2)) (ht:∀k,k < n->tc [some (E1 k),some (E2 k)] G=.ok (T k) G) (h:∀k,k < n->te [some (E1 k),some (E2 k)] G=.ok (F k) G):
  Dk (Gf [d,e]) (Bq 2 (An (gV 0) (An (gV 1) Bs))) tc te (Bd 2 [] S) n 0 G=.ok (((zX n).filter T).map F) G:=by
 have hf:∀j,Gf [d,e] j G=some ((zX n).map λi=>D.tup [E1 i,E2 i])[j]? :=λj=>by
  rw [ZDL hd he,Nj,List.zip_map',zS]
  rfl
 have hc:Bd 2 [] S= [none,none]:=rfl;rw [hc];have key:∀m j,j + m=n->Dk (Gf [d,e]) (Bq 2 (An (gV 0) (An (gV 1) Bs))) tc te [none,none] m j G=.ok (((qH j m).filter T).map F) G:=by
  intro m
  induction m with
  | zero=>
   intro j hj;unfold Dk;rw [hf,z0 (by simp;lia)]
   rfl
  | succ m ih=>
   intro j hj;have hlt:j < n:=by lia
   unfold Dk;rw [hf,zk,zL hlt];have hg:(Bq 2 (An (gV 0) (An (gV 1) Bs))) (.tup [E1 j,E2 j]) [none,none] G=.ok [some (E1 j),some (E2 j)] G:=by simp
   rw [List.range'_succ,List.filter_cons];simp only [xJ,hg,R.J7,ht j hlt];cases hT:T j
   ·simp only [Bool.false_eq_true,if_false,ih (j + 1) (by lia)]
   ·simp only [if_true,h j hlt,R.J7,ih (j + 1) (by lia),zW]
 have:=key n 0 (by lia);rw [this,List.range_eq_range']
theorem Vi {n:Nat} :tab n F=((zX n).map F).map D.int:=by
 unfold tab;rw [zS]
 rfl
theorem Y5 {n:Nat} :((zX n).map F).sum=Ak n F:=ZDJ.symm
theorem Qi {n:Nat} (G:DH):Dj [.tup (tab n F)] G=.ok (.int (Ak n F)) G:=by rw [Vi,ZKV,Y5]
theorem ZJg (F:Nat->Int):Ak 5 F=sum5 F:=by show ((((0 + F 0) + F 1) + F 2) + F 3) + F 4=_;unfold sum5;lia
theorem ZDA {n:Nat} (hn:n<=12) (G:DH):Nm [stD n lv co] G=.ok (.int (Du n lv co)) G:=by
 have s1:Dj [.tup (tab n lv)] G=.ok (.int (Ak n lv)) G:=Qi G;have c1:Cp (gV 0) Bj ZAx [none] (Dw n co) G=.ok (tab n λk=>sum5 (co k)) G:=Ml (E:=λk=>D.tup (tab 5 (co k))) (F:=λk=>.int (sum5 (co k))) λk _=>by unfold ZAx;simp [Qi,ZJg]
 have fz:freeze G (.ok (.ref G.length) (G++ [.lst (tab n λk=>sum5 (co k))]))=.ok (.fl (tab n λk=>sum5 (co k))) G:=Do Oi;have s2:Dj [.fl (tab n λk=>sum5 (co k))] G=.ok (.int (Ak n λk=>sum5 (co k))) G:=by rw [Vi,La,Y5]
 unfold stD;have hT:(tab n λk=>sum5 (co k)).length<=1000000:=by simp;lia
 generalize (tab n λk=>sum5 (co k))=T at c1 fz s2 hT;generalize tab n lv=A at s1;generalize Dw n co=B at c1;unfold Nm ZIo;rw [By];simp [hT,s1,Bd,c1,fz,s2,Cy,Du]
theorem ZFh {n:Nat} (hn:n<=12) (G:DH):Up [stD n lv co] G=.ok (.int (Du n lv co)) G:=by
 have s1:Dj [.tup (tab n lv)] G=.ok (.int (Ak n lv)) G:=Qi G;have c1:Cp (gV 0) Bj ZD6 [none] (Dw n co) G=.ok (tab n λk=>sum5 (co k)) G:=Ml (E:=λk=>D.tup (tab 5 (co k))) (F:=λk=>.int (sum5 (co k))) λk _=>by unfold ZD6;simp [Qi,ZJg]
 have fz:freeze G (.ok (.ref G.length) (G++ [.lst (tab n λk=>sum5 (co k))]))=.ok (.fl (tab n λk=>sum5 (co k))) G:=Do Oi;have s2:Dj [.fl (tab n λk=>sum5 (co k))] G=.ok (.int (Ak n λk=>sum5 (co k))) G:=by rw [Vi,La,Y5]
 unfold stD;have hT:(tab n λk=>sum5 (co k)).length<=1000000:=by simp;lia
 generalize (tab n λk=>sum5 (co k))=T at c1 fz s2 hT;generalize tab n lv=A at s1;generalize Dw n co=B at c1;unfold Up ZIp;rw [By];simp [hT,s1,Bd,c1,fz,s2,Cy,Du]
noncomputable def gnS (h:Hs) (pg:Nat->List Int):Int:=Ak h.n λk=>if h.dn k=none then Bl pg k else 0
theorem ZIV {T:Nat->Bool} :∀n:Nat,(((zX n).filter T).map F).sum=Ak n λk=>if T k then F k else 0
 | 0=>rfl
 | n + 1=>by
  rw [List.range_succ,List.filter_append,jY,jE,ZIV n];show _=Ak n (λk=>if T k then F k else 0) + (if T n then F n else 0)
  congr 1
  cases h:T n <;> simp [h]
section
variable {h:Hs}
theorem seaP (g:GoodH h) (hk:k < h.n):(h.dnT (h.pl k).dn="sea")=(h.dn k=none):=by
 cases e:(h.pl k).dn with
 | none=>
  have e':h.dn k=none:=e;simp [e',Hs.dnT]
 | some d=>
  have e':h.dn k=some d:=e;have:=g.sea d (g.dn k d hk e).2;simp [e',Hs.dnT,this]
theorem enc2h:Ah (h.encP (h.pl k)) (.int 2) G=.ok (.str (h.dnT (h.pl k).dn)) G:=by
 unfold Hs.encP
 cases (h.pl k).kd <;> simp
theorem ZLW:h.Hf=(zX h.n).map λk=>h.encP (h.pl k):=by
 refine qK (by simp [Hs.Ob]) λi h1 h2=> ?_
 have hi:i < h.n:=by rwa [Hs.Ob] at h1
 have:=Hs.ZCn hi;rw [zQ h1] at this;simpa using this
theorem ZOb (g:GoodH h) (p:PageOk h pg) (G:DH):ZAB [h.enc,pgD h.n pg] G=.ok (.int (gnS h pg)) G:=by
 have hn:=g.len;have h1:Bu (.tup h.Hf) G=some ((zX h.n).map λk=>h.encP (h.pl k)):=by rw [R8,ZLW]
 have h2:Bu (pgD h.n pg) G=some ((zX h.n).map λk=>I9 (pg k)):=by unfold pgD Cw;rw [R8]
 have hc:=ZOv (te:=ZDK) (tc:=ZCl) (S:= [some h.enc,some (pgD h.n pg)]) (n:=h.n) (T:=λk=>decide (h.dn k=none)) (F:=λk=>.int (Bl pg k)) h1 h2 (λk hk=>by
  have e:=seaP g hk;unfold ZCl;simp [enc2h,e]) (λk hk=>by
  obtain ⟨a,b,c,d,e',f,e1,_⟩:=p.row k hk;unfold ZDK Bl I9;rw [e1];simp)
 have hz:=ZDB h1 h2;have lz:((zX h.n).map λk=>h.encP (h.pl k)).length=h.n:=by simp
 rw [lz] at hz;have em:((zX h.n).filter λk=>decide (h.dn k=none)).map (λk=>D.int (Bl pg k))=(((zX h.n).filter λk=>decide (h.dn k=none)).map (Bl pg)).map D.int:=by rw [zS];rfl
 rw [em] at hc;have ll:(((zX h.n).filter λk=>decide (h.dn k=none)).map (Bl pg)).length<=1000000:=by rw [zG];have:=j8 (λk=>decide (h.dn k=none)) (zX h.n);rw [jH] at this;lia
 have sm:Dj [.fl ((((zX h.n).filter λk=>decide (h.dn k=none)).map (Bl pg)).map D.int)] G=.ok (.int (gnS h pg)) G:=by rw [La,ZIV];unfold gnS;simp only [decide_eq_true_eq]
 generalize ((zX h.n).filter λk=>decide (h.dn k=none)).map (Bl pg)=zs at *;have fz:freeze G (.ok (.ref G.length) (G++ [.lst (zs.map D.int)]))=.ok (.fl (zs.map D.int)) G:=Do Gp;have hh:∀G,Ah h.enc (.int 1) G=.ok (.tup h.Hf) G:=λG=>Eg
 generalize h.Hf=PP at *;generalize pgD h.n pg=QQ at *;generalize h.enc=HH at *;unfold ZAB ZG6;rw [By];simp [-La,hh,hz,hc,ll,fz,sm,Cy]
def tkS (h:Hs) (pg:Nat->List Int):Int:=Ak h.n λk=>(pg k).getD 1 0
theorem ZPL (p:PageOk h pg) (G:DH):Cp (gV 0) Bj ZB4 [none] (Cw h.n pg) G=.ok (tab h.n λk=>(pg k).getD 1 0) G:=by
 unfold Cw tab;exact Ml (E:=λk=>I9 (pg k)) (F:=λk=>.int ((pg k).getD 1 0)) λk hk=>by obtain ⟨a,b,c,d,e',f,e1,_⟩:=p.row k (qX.mp hk);unfold ZB4 I9;rw [e1];simp
theorem ZQW (g:GoodH h) {lv':Nat->Int} {co':Nat->Nat->Int} {pgs:List (Nat->List Int)} (hl:fls.length<=1000) (hp:pgs.length<=1000) (po:∀pg∈pgs,PageOk h pg) (G:DH):
  Xy [h.enc,stD h.n lv co,.fl (Cm h.n fls),.fl (pgs.map (pgD h.n)),stD h.n lv' co'] G=.ok (.tup [.int (Du h.n lv co),.int (fls.map (Ak h.n)).sum,.int (pgs.map (tkS h)).sum,.int (pgs.map (gnS h)).sum,.int (Du h.n lv' co')]) G:=by
 have hn:=g.len;have w1:=ZFh hn (lv:=lv) (co:=co) G;have w2:=ZFh hn (lv:=lv') (co:=co') G;have c1:Cp (gV 0) Bj ZAl [none] (Cm h.n fls) G=.ok ((fls.map (Ak h.n)).map D.int) G:=by
  rw [zS];exact Ml (E:=λfl=>D.tup (tab h.n fl)) (F:=λfl=>.int (Ak h.n fl)) λfl _=>by unfold ZAl;simp [Qi]
 have c3:Cp (gV 0) Bj ZBU [none] (pgs.map (pgD h.n)) G=.ok ((pgs.map (tkS h)).map D.int) G:=by
  rw [zS];exact Ml (E:=pgD h.n) (F:=λpg=>.int (tkS h pg)) λpg hm=>by
   have tc:=ZPL (po pg hm) G;have fz:freeze G (.ok (.ref G.length) (G++ [.lst (tab h.n λk=>(pg k).getD 1 0)]))=.ok (.fl (tab h.n λk=>(pg k).getD 1 0)) G:=Do Oi;have sm:Dj [.fl (tab h.n λk=>(pg k).getD 1 0)] G=.ok (.int (tkS h pg)) G:=by rw [Vi,La,Y5];rfl
   have hT:(tab h.n λk=>(pg k).getD 1 0).length<=1000000:=by simp;lia
   unfold pgD;generalize (tab h.n λk=>(pg k).getD 1 0)=T at *;generalize Cw h.n pg=Q at *;unfold ZBU;simp [Bd,tc,hT,fz,sm]
 have c4:Cp (gV 0) Bj ZDa [none,some h.enc] (pgs.map (pgD h.n)) G=.ok ((pgs.map (gnS h)).map D.int) G:=by
  rw [zS];exact Ml (E:=pgD h.n) (F:=λpg=>.int (gnS h pg)) λpg hm=>by have cg:=ZOb g (po pg hm) G;unfold ZDa;simp [cg]
 have fz:∀l:List Int,freeze G (.ok (.ref G.length) (G++ [.lst (l.map D.int)]))=.ok (.fl (l.map D.int)) G:=λl=>Do Gp
 have sm:∀l:List Int,Dj [.fl (l.map D.int)] G=.ok (.int l.sum) G:=λl=>La
 have l1:((fls.map (Ak h.n)).map D.int).length<=1000000:=by simp;lia
 have l3:((pgs.map (tkS h)).map D.int).length<=1000000:=by simp;lia
 have l4:((pgs.map (gnS h)).map D.int).length<=1000000:=by simp;lia
 have f1:=fz (fls.map (Ak h.n));have f3:=fz (pgs.map (tkS h));have f4:=fz (pgs.map (gnS h));have s1:=sm (fls.map (Ak h.n));have s3:=sm (pgs.map (tkS h));have s4:=sm (pgs.map (gnS h));generalize (fls.map (Ak h.n)).map D.int=A1 at *;generalize (pgs.map (tkS h)).map D.int=A3 at *;generalize (pgs.map (gnS h)).map D.int=A4 at *;generalize Cm h.n fls=FL at *;generalize pgs.map (pgD h.n)=PG at *;generalize stD h.n lv co=S1 at *
 generalize stD h.n lv' co'=S2 at *;have cs1:∀S:DSt,Bd 1 [] S= [none]:=λ_=>rfl
 have cs2:∀a b c d e f' k:Option D,Bd 1 [0] [a,b,c,d,e,f',k]= [none,a]:=λ_ _ _ _ _ _ _=>rfl
 unfold Xy ZJm;rw [By];simp [-La,cs1,cs2,c1,c3,c4,l1,l3,l4,f1,f3,f4,s1,s3,s4,w1,w2,Cg,Cy]
end
theorem ZKx {n:Nat} (hk:k < n) {d f:Int} (e1:pg k= [a,b,c,d,e,f]):atI (Cw n pg) (k:Int)=some (.tup [.int a,.int b,.int c,.int d,.int e,.int f]):=Gg rfl (by unfold Cw;rw [zk,zL hk];simp [I9,e1])
section
variable {h:Hs}
noncomputable def bkD (h:Hs) (s:St2) (a:Int) (fls:List (Nat->Int)):D:=
 .tup [.int (Du h.n s.1 s.2),.int (fls.map (Ak h.n)).sum,.int ((h.Br fls s a).map (tkS h)).sum,.int ((h.Br fls s a).map (gnS h)).sum,.int (Du h.n (h.Az fls s a).1 (h.Az fls s a).2)]
theorem ZIm:∀(f1 f2:List (Nat->Int)) (s:St2) (a:Int),h.Az (f1++f2) s a=h.Az f2 (h.Az f1 s a) (a + f1.length)
 | [],f2,s,a=>by show h.Az f2 s a=h.Az f2 s (a + ((0:Nat):Int));rw [show a + ((0:Nat):Int)=a by lia]
 | f::f1,f2,s,a=>by show h.Az (f1++f2) (h.nxt s a f) (a + 1)=h.Az f2 (h.Az f1 (h.nxt s a f) (a + 1)) (a + ((f1.length + 1:Nat):Int));rw [ZIm f1 f2,show a + 1 + (f1.length:Int)=a + ((f1.length + 1:Nat):Int) by lia]
theorem ZJV:∀(f1 f2:List (Nat->Int)) (s:St2) (a:Int),h.Br (f1++f2) s a=h.Br f1 s a++h.Br f2 (h.Az f1 s a) (a + f1.length)
 | [],f2,s,a=>by show h.Br f2 s a=h.Br f2 s (a + ((0:Nat):Int));rw [show a + ((0:Nat):Int)=a by lia]
 | f::f1,f2,s,a=>by show (h.cs s.1 s.2 a f).page::h.Br (f1++f2) (h.nxt s a f) (a + 1)=(h.cs s.1 s.2 a f).page::(h.Br f1 (h.nxt s a f) (a + 1)++h.Br f2 (h.Az f1 (h.nxt s a f) (a + 1)) (a + ((f1.length + 1:Nat):Int)));rw [ZJV f1 f2,show a + 1 + (f1.length:Int)=a + ((f1.length + 1:Nat):Int) by lia]
theorem ZAa (g:GoodH h) {s:St2} (hl:fls.length<=1000) (so:StOk h s.1 s.2) (hf:∀fl∈fls,∀k,k < h.n->0<=fl k) (G:DH):Ot [h.enc,stD h.n s.1 s.2,.int a,.fl (Cm h.n fls)] G=.ok (bkD h s a fls) G:=by
 have cr:=ZBo g (s:=s) (a:=a) (fls:=fls) hl so.co0 hf G;have ro:=Xw g fls s a so hf;have cb:=ZQW g (lv:=s.1) (co:=s.2) (lv':=(h.Az fls s a).1) (co':=(h.Az fls s a).2) (fls:=fls) (pgs:=h.Br fls s a) hl (by rw [ZHK];exact hl) ro.1 G;have bps:bels G.length ((h.Br fls s a).map (pgD h.n))=true:=ZG3;have be:bel G.length (stD h.n (h.Az fls s a).1 (h.Az fls s a).2)=true:=ZFQ;have fr:=ZJQ bps be;unfold bkD
 generalize Du h.n (h.Az fls s a).1 (h.Az fls s a).2=T1 at *;generalize ((h.Br fls s a).map (tkS h)).sum=T2 at *;generalize ((h.Br fls s a).map (gnS h)).sum=T3 at *;generalize (h.Br fls s a).map (pgD h.n)=PG at *;generalize stD h.n (h.Az fls s a).1 (h.Az fls s a).2=S2 at *;generalize stD h.n s.1 s.2=S1 at *;generalize Cm h.n fls=FL at *;generalize Du h.n s.1 s.2=T4 at *;unfold Ot ZJI;rw [By];simp [cr,fr,cb,Cy]
theorem ZJJ (g:GoodH h) (p:PageOk h pg) {s1 s2 s3 s4:Option D} {G:DH}:∀(m k:Nat) (t o:Int) (x:Option D),k + m=h.n->∃x',Bx (gV 8) V2 (Dc k m) [some h.enc,s1,s2,s3,s4,some (.int (t + Ak k λk=>(pg k).getD 1 0)),some (.int (o + Ak k λk=>if h.dn k=none then Bl pg k else 0)),some (pgD h.n pg),x] G=
  .nx [some h.enc,s1,s2,s3,s4,some (.int (t + tkS h pg)),some (.int (o + gnS h pg)),some (pgD h.n pg),x'] G
 | 0,k,t,o,x,e=>by
  have e1:k=h.n:=by lia
  subst e1;exact ⟨x,by rw [M5,Fy];rfl⟩
 | m + 1,k,t,o,x,e=>by
  have hk:k < h.n:=by lia
  obtain ⟨x',ih⟩:=ZJJ g p (s1:=s1) (s2:=s2) (s3:=s3) (s4:=s4) (G:=G) m (k + 1) t o (some (.int k)) (by lia);refine ⟨x',?_⟩;obtain ⟨a,b,c,d,e',f,e1,_⟩:=p.row k hk;have ap:atI h.Hf (k:Int)=some (h.encP (h.pl k)):=Hs.Fj hk;have ar:=ZKx (n:=h.n) hk e1;have es:=seaP g hk;have e2:Ak (k + 1) (λk=>(pg k).getD 1 0)=Ak k (λk=>(pg k).getD 1 0) + b:=by show _ + (pg k).getD 1 0=_;rw [e1];rfl
  have e3:Ak (k + 1) (λk=>if h.dn k=none then Bl pg k else 0)=Ak k (λk=>if h.dn k=none then Bl pg k else 0) + (if h.dn k=none then c + d else 0):=by show _ + (if h.dn k=none then Bl pg k else 0)=_;unfold Bl;rw [e1];rfl
  rw [e2,e3] at ih;generalize Ak k (λk=>(pg k).getD 1 0)=X at *;generalize Ak k (λk=>if h.dn k=none then Bl pg k else 0)=Y at *;have hb:V2 [some h.enc,s1,s2,s3,s4,some (.int (t + X)),some (.int (o + Y)),some (pgD h.n pg),some (.int k)] G=.nx [some h.enc,s1,s2,s3,s4,some (.int (t + (X + b))),some (.int (o + (Y + (if h.dn k=none then c + d else 0)))),some (pgD h.n pg),some (.int k)] G:=by
   unfold pgD;unfold V2;by_cases hd:h.dn k=none
   ·simp [Eg,ar,ap,enc2h,es,hd];lia
   ·simp [Eg,ar,ap,enc2h,es,hd];lia
  rw [Ku,Et];simp only [Es,R.El,q9,hb,Ew];have e4:((k:Int) + 1)=((k + 1:Nat):Int):=by lia
  rw [e4,ih]
theorem ZGq (g:GoodH h) {s1 s2 s3 s4:Option D} {G:DH}:∀(pgs:List (Nat->List Int)) (t o:Int) (x y:Option D),(∀pg∈pgs,PageOk h pg)->∃x' y',Bx (gV 7) W9 (pgs.map (pgD h.n)) [some h.enc,s1,s2,s3,s4,some (.int t),some (.int o),x,y] G=
  .nx [some h.enc,s1,s2,s3,s4,some (.int (t + (pgs.map (tkS h)).sum)),some (.int (o + (pgs.map (gnS h)).sum)),x',y'] G
 | [],t,o,x,y,_=>⟨x,y,by rw [jJ,Fy];simp⟩
 | pg::pgs,t,o,x,y,hp=>by
  obtain ⟨z,hL⟩:=ZJJ g (hp pg (by simp)) (s1:=s1) (s2:=s2) (s3:=s3) (s4:=s4) (G:=G) h.n 0 t o y (by lia);obtain ⟨x',y',ih⟩:=ZGq g (s1:=s1) (s2:=s2) (s3:=s3) (s4:=s4) (G:=G) pgs (t + tkS h pg) (o + gnS h pg) (some (pgD h.n pg)) z λq hq=>hp q (zZ _ hq)
  refine ⟨x',y',?_⟩;have hL':Bx (gV 8) V2 (Dc 0 h.n) [some h.enc,s1,s2,s3,s4,some (.int t),some (.int o),some (pgD h.n pg),y] G=.nx [some h.enc,s1,s2,s3,s4,some (.int (t + tkS h pg)),some (.int (o + gnS h pg)),some (pgD h.n pg),z] G:=by have h0:Ak 0 (λk=>(pg k).getD 1 0)=0:=rfl;have h1:Ak 0 (λk=>if h.dn k=none then Bl pg k else 0)=0:=rfl;have:=hL;rwa [h0,h1,Int.add_zero,Int.add_zero] at this
  have hlen:(Cw h.n pg).length=h.n:=ZIO;have hr:inR (h.n:Int):=Gz (by lia) (by have:=g.len;lia);have hb:W9 [some h.enc,s1,s2,s3,s4,some (.int t),some (.int o),some (pgD h.n pg),y] G=.nx [some h.enc,s1,s2,s3,s4,some (.int (t + tkS h pg)),some (.int (o + gnS h pg)),some (pgD h.n pg),z] G:=by unfold pgD at hL' ⊢;unfold W9;simp [hlen,hr,hL']
  rw [zW,Et];simp only [Es,R.El,q9,hb,Ew];rw [ih,zW,jz,zW,jz,Int.add_assoc,Int.add_assoc]
theorem ZQ3 (g:GoodH h) {s:St2} (hl:fls.length<=1000) (so:StOk h s.1 s.2) (hf:∀fl∈fls,∀k,k < h.n->0<=fl k) (G:DH):
  Yl [h.enc,stD h.n s.1 s.2,.fl ((h.Br fls s a).map (pgD h.n)),.fl (Cm h.n fls),stD h.n (h.Az fls s a).1 (h.Az fls s a).2] G=.ok (bkD h s a fls) G:=by
 have hn:=g.len;have ro:=Xw g fls s a so hf;have w1:=ZDA hn (lv:=s.1) (co:=s.2) G;have w2:=ZDA hn (lv:=(h.Az fls s a).1) (co:=(h.Az fls s a).2) G;have c1:Cp (gV 0) Bj ZC4 [none] (Cm h.n fls) G=.ok ((fls.map (Ak h.n)).map D.int) G:=by
  rw [zS];exact Ml (E:=λfl=>D.tup (tab h.n fl)) (F:=λfl=>.int (Ak h.n fl)) λfl _=>by unfold ZC4;simp [Qi]
 have fz:freeze G (.ok (.ref G.length) (G++ [.lst ((fls.map (Ak h.n)).map D.int)]))=.ok (.fl ((fls.map (Ak h.n)).map D.int)) G:=Do Gp;have sm:Dj [.fl ((fls.map (Ak h.n)).map D.int)] G=.ok (.int (fls.map (Ak h.n)).sum) G:=La;have l1:((fls.map (Ak h.n)).map D.int).length<=1000000:=by simp;lia
 obtain ⟨x',y',hL⟩:=ZGq g (s1:=some (stD h.n s.1 s.2)) (s2:=some (.fl ((h.Br fls s a).map (pgD h.n)))) (s3:=some (.fl (Cm h.n fls))) (s4:=some (stD h.n (h.Az fls s a).1 (h.Az fls s a).2)) (G:=G) (h.Br fls s a) 0 0 none none ro.1;rw [Int.zero_add,Int.zero_add] at hL;unfold bkD;generalize Du h.n (h.Az fls s a).1 (h.Az fls s a).2=T1 at *;generalize ((h.Br fls s a).map (tkS h)).sum=T2 at *;generalize ((h.Br fls s a).map (gnS h)).sum=T3 at *
 generalize (h.Br fls s a).map (pgD h.n)=PG at *;generalize stD h.n (h.Az fls s a).1 (h.Az fls s a).2=S2 at *;generalize stD h.n s.1 s.2=S1 at *;generalize (fls.map (Ak h.n)).map D.int=A1 at *;generalize (fls.map (Ak h.n)).sum=A2 at *;generalize Cm h.n fls=FL at *;generalize Du h.n s.1 s.2=T4 at *;have cs1:∀S:DSt,Bd 1 [] S= [none]:=λ_=>rfl
 unfold Yl ZIL;rw [By];simp [-La,hL,w1,w2,cs1,c1,l1,fz,sm,Cg,Cy]
theorem ZMb {i:Int} (G:DH):ZAC [.int i] G=.ok (.bl true) G:=by unfold ZAC ZFJ;rw [By];simp [Cy]
theorem ZH2 {d:Int} (G:DH):Ra [.tup [.int a,.int b,.int c,.int d,.int e]] G=.ok (.bl true) G:=by
 have he:∀i:Int,T5 [some (.int i)] G=.ok (.bl true) G:=λi=>by unfold T5;simp [ZMb]
 have cp:Cp (gV 0) Bj T5 [none] [.int a,.int b,.int c,.int d,.int e] G=.ok [.bl true,.bl true,.bl true,.bl true,.bl true] G:=by have c0:Cp (gV 0) Bj T5 [none] [] G=.ok [] G:=rfl;simp [Jd,he,c0]
 have bd:Iw [D.bl true,D.bl true,D.bl true,D.bl true,D.bl true]=some [true,true,true,true,true]:=rfl;have fz:freeze G (.ok (.ref G.length) (G++ [.lst [.bl true,.bl true,.bl true,.bl true,.bl true]]))=.ok (.fl [.bl true,.bl true,.bl true,.bl true,.bl true]) G:=Do rfl;unfold Ra ZId;rw [By];simp [Bd,cp,fz,Za,bd,Cy]
theorem nopump3 (hp:∀k,k < h.n->PlG h.n k (h.pl k)):NoPump h:=λk b r hk e=>(hp k hk).nop b r e
theorem ZNU:Ak h.n (Oe h pg)=tkS h pg + gnS h pg:=by
 unfold tkS gnS;rw [<-Gi]
 rfl
theorem ZFG:∀pgs:List (Nat->List Int),(pgs.map λpg=>Ak h.n (Oe h pg)).sum=(pgs.map (tkS h)).sum + (pgs.map (gnS h)).sum
 | []=>rfl
 | pg::pgs=>by simp only [zW,jz];rw [ZFG pgs,ZNU];lia
end
theorem ZNp (hb:∀m∈ns,m.natAbs.log2 < 1048576) (k:Int):(cellAt ns k).natAbs.log2 < 1048576:=by
 unfold cellAt;rw [zj];by_cases h:k.toNat < ns.length
 ·rw [zQ h];exact hb _ (zM h)
 ·rw [z0 (by lia)]
  decide
theorem ZKg {n:Nat} {c:Nat} (hc:c<=fls.length):cutD (Cm n fls) none (some (c:Int))=Cm n (fls.take c):=by rw [Qw (by rw [ZAi];exact hc)];unfold Cm;rw [List.map_take]
theorem ZJw {n:Nat} {c:Nat} (hc:c<=fls.length):cutD (Cm n fls) (some (c:Int)) none=Cm n (fls.drop c):=by rw [Wn (by rw [ZAi];exact hc)];unfold Cm;rw [List.map_drop]
theorem ZMP {n:Nat} :okD 30 (.fl (Cm n fls))=true:=ZKe (n:=29) λd hd=>by
 obtain ⟨fl,_,rfl⟩:=zF.mp hd;refine ZJu (n:=28) λd hd=> ?_
 obtain ⟨k,_,rfl⟩:=zF.mp hd
 rfl
theorem ZQK (hb:∀m∈ns,m.natAbs.log2 < 1048576) (G:DH):Oc [.fl (ns.map D.int)] G=.ok (.bl true) G:=by
 obtain ⟨h,g,hn1,hpg,ch⟩:=ZOs (ns:=ns) (at_:=0) (by lia) G;have hn:=g.len;have c15:∀G,Ff [.fl (ns.map D.int),.int 15] G=.ok (.int (cellAt ns 15)) G:=λG=>Ky (by lia)
 have c22:∀G,Ff [.fl (ns.map D.int),.int 22] G=.ok (.int (cellAt ns 22)) G:=λG=>Ky (by lia)
 have c23:∀G,Ff [.fl (ns.map D.int),.int 23] G=.ok (.int (cellAt ns 23)) G:=λG=>Ky (by lia)
 obtain ⟨fls,fl5,hf,cf⟩:=ZNV (ns:=ns) (at_:=16) (n:=h.n) (by lia) hn;obtain ⟨lv,co,so,cs⟩:=ZKK g (cell:=cellAt ns 22) (ZM2 (ZNp hb 22));obtain ⟨a,ea⟩:∃a:Int,cellAt ns 15 % 1000=a:=⟨_,rfl⟩;obtain ⟨c,ec⟩:∃c:Nat,cellAt ns 23 % ((fls.length:Int) + 1)=c:=⟨(cellAt ns 23 % ((fls.length:Int) + 1)).toNat,by have:=qA (cellAt ns 23) (show ((fls.length:Int) + 1)≠0 by lia);lia⟩
 have hc:c<=fls.length:=by have:=qT (cellAt ns 23) (show (0:Int) < (fls.length:Int) + 1 by lia);lia
 have so2:StOk h (lv,co).1 (lv,co).2:=so;have hf1:∀fl∈fls.take c,∀k,k < h.n->0<=fl k:=λfl hm=>hf fl (qG hm)
 have hf2:∀fl∈fls.drop c,∀k,k < h.n->0<=fl k:=λfl hm=>hf fl (qF hm)
 have l1:(fls.take c).length=c:=by rw [j0];lia
 have ro1:=Xw g (fls.take c) (lv,co) a so2 hf1;have cb0:=λG=>ZAa g (s:=(lv,co)) (a:=a) (fls:=fls) (by lia) so2 hf G
 have cb1:=λG=>ZAa g (s:=(lv,co)) (a:=a) (fls:=fls.take c) (by lia) so2 hf1 G
 have cb2:=λG=>ZAa g (s:=h.Az (fls.take c) (lv,co) a) (a:=a + (c:Int)) (fls:=fls.drop c) (by rw [j1];lia) ro1.2 hf2 G
 have cr0:=λG=>ZBo g (s:=(lv,co)) (a:=a) (fls:=fls) (by lia) so2.co0 hf G
 have cr1:=λG=>ZBo g (s:=(lv,co)) (a:=a) (fls:=fls.take c) (by lia) so2.co0 hf1 G
 have cd:=λG=>ZQ3 g (s:=(lv,co)) (a:=a) (fls:=fls) (by lia) so2 hf G
 have wm:=λG=>ZDA hn (lv:=(h.Az (fls.take c) (lv,co) a).1) (co:=(h.Az (fls.take c) (lv,co) a).2) G
 have eq:=ZEf g (nopump3 hpg) fls (lv,co) a so2 hf;rw [ZFG] at eq;have eS:h.Az fls (lv,co) a=h.Az (fls.drop c) (h.Az (fls.take c) (lv,co) a) (a + c):=by have:=ZIm (h:=h) (fls.take c) (fls.drop c) (lv,co) a;rwa [j9,l1] at this
 have eP:h.Br fls (lv,co) a=h.Br (fls.take c) (lv,co) a++h.Br (fls.drop c) (h.Az (fls.take c) (lv,co) a) (a + c):=by have:=ZJV (h:=h) (fls.take c) (fls.drop c) (lv,co) a;rwa [j9,l1] at this
 have e1:(fls.map (Ak h.n)).sum=((fls.take c).map (Ak h.n)).sum + ((fls.drop c).map (Ak h.n)).sum:=by rw [<-jE,<-jY,j9]
 have e2:((h.Br fls (lv,co) a).map (tkS h)).sum=((h.Br (fls.take c) (lv,co) a).map (tkS h)).sum + ((h.Br (fls.drop c) (h.Az (fls.take c) (lv,co) a) (a + c)).map (tkS h)).sum:=by rw [eP,jY,jE]
 have e3:((h.Br fls (lv,co) a).map (gnS h)).sum=((h.Br (fls.take c) (lv,co) a).map (gnS h)).sum + ((h.Br (fls.drop c) (h.Az (fls.take c) (lv,co) a) (a + c)).map (gnS h)).sum:=by rw [eP,jY,jE]
 have e4:Du h.n (h.Az fls (lv,co) a).1 (h.Az fls (lv,co) a).2=Du h.n (h.Az (fls.drop c) (h.Az (fls.take c) (lv,co) a) (a + c)).1 (h.Az (fls.drop c) (h.Az (fls.take c) (lv,co) a) (a + c)).2:=by rw [<-eS]
 have fr:∀(f:List (Nat->Int)) (G:DH),freeze G (.ok (.tup [.ref G.length,stD h.n (h.Az f (lv,co) a).1 (h.Az f (lv,co) a).2]) (G++ [.lst ((h.Br f (lv,co) a).map (pgD h.n))]))=.ok (.tup [.fl ((h.Br f (lv,co) a).map (pgD h.n)),stD h.n (h.Az f (lv,co) a).1 (h.Az f (lv,co) a).2]) G:=λf G=>ZJQ ZG3 ZFQ
 have fr0:=fr fls;have fr1:=fr (fls.take c);have ct:=ZKg (n:=h.n) hc;have cdp:=ZJw (n:=h.n) hc;have fzf:∀(f:List (Nat->Int)) (G:DH),freeze G (.ok (.ref G.length) (G++ [.lst (Cm h.n f)]))=.ok (.fl (Cm h.n f)) G:=λf G=>Do ZJT
 have fz0:=fzf fls;have fz1:=fzf (fls.take c);have fz2:=fzf (fls.drop c);have lf:(Cm h.n fls).length=fls.length:=ZAi;have hp:(0:Int) < (fls.length:Int) + 1:=by lia
 have neF:∀G:DH,Ge (.fl (Cm h.n fls)) (.fl (Cm h.n fls)) G=.ok (.bl false) G:=λG=>ZIb ZMP
 unfold bkD at cb0 cb1 cb2 cd;dsimp only at *;generalize Du h.n (h.Az fls (lv,co) a).1 (h.Az fls (lv,co) a).2=W1 at *;generalize Du h.n (h.Az (fls.drop c) (h.Az (fls.take c) (lv,co) a) (a + c)).1 (h.Az (fls.drop c) (h.Az (fls.take c) (lv,co) a) (a + c)).2=W2 at *;generalize Du h.n (h.Az (fls.take c) (lv,co) a).1 (h.Az (fls.take c) (lv,co) a).2=WM at *;generalize Du h.n lv co=W0 at *;generalize ((h.Br fls (lv,co) a).map (tkS h)).sum=T0 at *
 generalize ((h.Br (fls.take c) (lv,co) a).map (tkS h)).sum=T1 at *;generalize ((h.Br (fls.drop c) (h.Az (fls.take c) (lv,co) a) (a + c)).map (tkS h)).sum=T2 at *;generalize ((h.Br fls (lv,co) a).map (gnS h)).sum=O0 at *;generalize ((h.Br (fls.take c) (lv,co) a).map (gnS h)).sum=O1 at *;generalize ((h.Br (fls.drop c) (h.Az (fls.take c) (lv,co) a) (a + c)).map (gnS h)).sum=O2 at *;generalize (fls.map (Ak h.n)).sum=C0 at *
 generalize ((fls.take c).map (Ak h.n)).sum=C1 at *;generalize ((fls.drop c).map (Ak h.n)).sum=C2 at *;generalize stD h.n (h.Az fls (lv,co) a).1 (h.Az fls (lv,co) a).2=SE at *;generalize stD h.n (h.Az (fls.take c) (lv,co) a).1 (h.Az (fls.take c) (lv,co) a).2=SM at *;generalize stD h.n lv co=S0 at *;generalize (h.Br fls (lv,co) a).map (pgD h.n)=P0 at *;generalize (h.Br (fls.take c) (lv,co) a).map (pgD h.n)=P1 at *
 generalize Cm h.n fls=F0 at *;generalize Cm h.n (fls.take c)=F1 at *;generalize Cm h.n (fls.drop c)=F2 at *;have ch':R9 [.fl (ns.map D.int),.int 0] G=.ok h.enc G:=ch;have cf':∀G,freeze G (U6 [.fl (ns.map D.int),.int 16,.int (h.n:Int)] G)=.ok (.fl F0) G:=cf;have cmp:∀G,Cp (gV 0) Bj Xg [none,some (.tup [.int W0,.int C1,.int T1,.int O1,.int WM]),some (.tup [.int WM,.int C2,.int T2,.int O2,.int W1])] [.int 1,.int 2,.int 3] G=.ok [.int C0,.int T0,.int O0] G:=λG=>by
  have c0:∀S,Cp (gV 0) Bj Xg S [] G=.ok [] G:=λ_=>rfl
  unfold Xg;simp [Jd,e1,e2,e3]
  rfl
 have ne5:∀(x y z u v:Int) (G:DH),Ge (.tup [.int x,.int y,.int z,.int u,.int v]) (.tup [.int x,.int y,.int z,.int u,.int v]) G=.ok (.bl false) G:=λx y z u v G=>ZIb rfl
 have eq5:∀(x y z u v:Int) (G:DH),Cv (.tup [.int x,.int y,.int z,.int u,.int v]) (.tup [.int x,.int y,.int z,.int u,.int v]) G=.ok (.bl true) G:=λx y z u v G=>by rw [ZEs rfl rfl];simp
 have eq3:∀(x y z:Int) (G:DH),Cv (.fl [.int x,.int y,.int z]) (.fl [.int x,.int y,.int z]) G=.ok (.bl true) G:=λx y z G=>by rw [ZEs rfl rfl];simp
 have ew:W0 + C0=T0 + O0 + W1:=by lia
 have fz3:∀G:DH,freeze G (.ok (.ref G.length) (G++ [.lst [.int C0,.int T0,.int O0]]))=.ok (.fl [.int C0,.int T0,.int O0]) G:=λG=>Do rfl
 have r1:inR 1:=Gz (by lia) (by lia);have r4:inR 4:=Gz (by lia) (by lia);have rg:Dc 1 3= [.int 1,.int 2,.int 3]:=rfl;have cp:∀a b c d e f' g h i j k l m:Option D,Bd 1 [11,12] [a,b,c,d,e,f',g,h,i,j,k,l,m]= [none,l,m]:=λ_ _ _ _ _ _ _ _ _ _ _ _ _=>rfl
 have cu:cutD [D.int W0,D.int C0,D.int T0,D.int O0,D.int W1] (some 1) (some 4)= [D.int C0,D.int T0,D.int O0]:=rfl;have fzt:∀G:DH,freeze G (.ok (.tup [.int C0,.int T0,.int O0]) G)=.ok (.tup [.int C0,.int T0,.int O0]) G:=λG=>ZBh rfl
 unfold Oc ZHk ZGa ZIK ZE5 ZGA ZE8 ZGk ZFX ZIH ZGM;rw [By];simp [ch',c15,ea,Eg,Hs.Ob,cf',c22,cs,fz0,cb0,cr0,fr0,cd,ZH2,ne5,neF,<-e4,ew,c23,lf,hp,ec];unfold ZEl ZHH ZHr ZFy ZE1 ZIn;simp [ct,cdp,fz1,fz2,cr1,fr1,cb1,cb2,cb0,ZH2,wm,<-e4,eq5,eq3,r1,r4,rg,cp,cmp,Be,fz3,fzt,cu,Cy]
theorem holds:Holds:=λns hl hb=>⟨[],ZQK hb []⟩
end Law
namespace Law
open PySem L2 DL
seal QE QT QA QS QSs QG QGs QI QTs QW QO
structure Txt (K:PySem.W.Frag) (mg:Str->Option x9):Prop where
 Dl:FT K mg "_law_cell_at" ZDh ZCh
 Ht:FT K mg "_law_sum" ZAD ZEA
 Qp:FT K mg "_law_due" ZAQ ZBJ
 Qt:FT K mg "_law_whole" ZDO ZBy
 Iu:FT K mg "_law_five" Wq ZCB
 Ek:FT K mg "_law_number" ZBs ZBf
 Hk:FT K mg "_law_stream" ZB3 ZCe
 Qz:FT K mg "_law_floods" Z3 ZAg
 Ql:FT K mg "_law_free_names" Um ZAe
 Rn:FT K mg "_law_names" Nz ZBM
 Rb:FT K mg "_law_more" ZBW ZBQ
 Qj:FT K mg "_law_pumped" Xf ZDN
 Pg:FT K mg "_law_stairs" ZDI ZCS
 Qc:FT K mg "_law_rule" ZC1 ZDg
 Rr:FT K mg "_law_place" ZCG ZC5
 Q8:FT K mg "_law_house" Zc ZDq
 Ru:FT K mg "_law_state" Vo ZCT
 Rt:FT K mg "gone" Vx ZBH
 Lf:FT K mg "water" Y8 ZCF
 Qm:FT K mg "books_of_pages" Qk ZAd
 Uv:MT K "Course" "__init__" "Course.__init__" Uz ZBl
 Ov:MT K "Course" "send" "Course.send" ZDQ ZEQ
 Ld:FT K mg "number_of" ZB9 ZBv
 Kq:FT K mg "down_of" ZAZ ZCb
 Og:MT K "Course" "send_down" "Course.send_down" ZD1 ZC3
 Rc:FT K mg "opened" ZBc ZBX
 Ph:FT K mg "stairs_at" ZBw ZDW
 Uk:MT K "Course" "go_basin" "Course.go_basin" ZBB ZCJ
 Kp:FT K mg "passed" ZAN ZBt
 Lq:FT K mg "down_in_reach" ZAj ZCy
 Ro:FT K mg "reach_rows" ZBb ZAr
 Rp:FT K mg "served" Su ZCW
 Rg:FT K mg "way_down" ZCZ ZBm
 Rm:FT K mg "shares" Zj ZEF
 Sw:MT K "Course" "go_reach" "Course.go_reach" ZDD ZAf
 Rx:FT K mg "lasts_of_reaches" ZDX ZEI
 T9:MT K "Course" "go" "Course.go" Vt ZA4
 Sv:MT K "Course" "state_behind" "Course.state_behind" Ue ZCs
 Pu:FT K mg "turn" ZBP ZBa
 Jc:FT K mg "run" ZDk ZDZ
 Hg:FT K mg "books" ZB8 ZCx
 Tc:FT K mg "law" I8 ZCc
 Bb:CT K mg "Course"
 Rj:NoAttr K (Bo K "Course") "came"
 Uq:NoAttr K (Bo K "Course") "coming"
 Kf:NoAttr K (Bo K "Course") "house"
 Vs:NoAttr K (Bo K "Course") "levels"
 Oh:NoAttr K (Bo K "Course") "page"
 Wx:NoAttr K (Bo K "Course") "reaches"
 Xp:NoAttr K (Bo K "Course") "year_turn"
 ZKZ:mg "all"=none
 ZKA:mg "bool"=none
 Qs:mg "enumerate"=none
 ZB6:mg "int"=none
 ZBr:mg "isinstance"=none
 Jg:mg "len"=none
 Ub:mg "list"=none
 ZBA:mg "max"=none
 Sy:mg "min"=none
 Hw:mg "range"=none
 ZMj:mg "sorted"=none
 Hc:mg "sum"=none
 Iz:mg "tuple"=none
 W6:mg "zip"=none
 ZDG:mg "BRIM"=some (.int 4 (Dq K "BRIM"))
 Zb:mg "DELAY"=some (.int 3 (Dq K "DELAY"))
 Xl:mg "DOWN"=some (.int 2 (Dq K "DOWN"))
 Q7:mg "KIND"=some (.int 0 (Dq K "KIND"))
 ZAb:mg "LET"=some (.int 3 (Dq K "LET"))
 ZBd:mg "LIES"=some (.int 5 (Dq K "LIES"))
 ZDU:mg "NAME"=some (.int 1 (Dq K "NAME"))
 ZBC:mg "NEED"=some (.int 4 (Dq K "NEED"))
 Ja:mg "PLACES"=some (.int 1 (Dq K "PLACES"))
 T8:mg "PUMP"=some (.int 6 (Dq K "PUMP"))
 ZA1:mg "PUMP_DELAY"=some (.int 1 (Dq K "PUMP_DELAY"))
 ZC0:mg "PUMP_TO"=some (.int 0 (Dq K "PUMP_TO"))
 ZEM:mg "RANK"=some (.int 5 (Dq K "RANK"))
 Rw:mg "ROW_DOWN"=some (.int 0 (Dq K "ROW_DOWN"))
 ZDz:mg "ROW_NEED"=some (.int 2 (Dq K "ROW_NEED"))
 ZAW:mg "ROW_RANK"=some (.int 3 (Dq K "ROW_RANK"))
 ZCQ:mg "ROW_WATER"=some (.int 1 (Dq K "ROW_WATER"))
 ZDt:mg "RULE"=some (.int 5 (Dq K "RULE"))
 Zz:mg "SEA"=some (.str "sea" (Dq K "SEA"))
 ZA5:mg "SPILLED"=some (.int 2 (Dq K "SPILLED"))
 ZBK:mg "TOOK"=some (.int 1 (Dq K "TOOK"))
 ZBx:mg "YEAR"=some (.int 0 (Dq K "YEAR"))
section
variable {P:xj} {w:xA} {K:PySem.W.Frag} {mg:Str->Option x9} {base:Heap}
theorem Lb (T:Txt K mg):FnO P w K mg base 1 "_law_cell_at" ZCh Ff:=by
 refine Ci T.Dl.F ZRL λcdv A outer s H E hr=> ?_
 exact (Aj (Cu (Bw ZCU (Aa 1) (Cq Jt rfl T.Jg Jj (Ac (Aa 0) Af)) (nomark _)) (Aq (Bv (Am Al (Aa 0) (Aa 1)))) Dg) (Aq (Bv Ad)))
theorem Zf (T:Txt K mg):FnO P w K mg base 1 "_law_sum" ZEA Nm:=by
 refine Ci T.Ht.F ZQZ λcdv A outer s H E hr=> ?_
 exact (Aq (Bv (Ag Bc (Cq (Hd rfl) rfl T.Hc Hn (Ac (Am Al (Aa 0) Ad) Af)) (Cq (Hd rfl) rfl T.Hc Hn (Ac (Ba (Ed rfl (Dt (dn:=(Aw ZAD).names) (N0:=ZDp) (N:= ["_law_row"]) (nt:=1) (caps:= [])) (Ds (Am Al (Aa 0) Ad)) (λC s₀ H₀ ex=>(Ax 0 (show (["_law_row"]:List Str).Nodup by decide +kernel))) (Cr (by decide)) (λC s₀ H₀ ex=>Eb) (λC s₀ H₀ ex=>(Cq (Hd rfl) rfl T.Hc Hn (Ac (Aa 0) Af))))) Af)))))
theorem ZRj (T:Txt K mg):FnO P w K mg base 2 "_law_due" ZBJ Yl:=by
 refine Ci T.Qp.F Nf λcdv A outer s H E hr=> ?_
 exact (Aj (Ao 5 Nf.nd Ad) (Aj (Ao 6 Nf.nd Ad) (Aj (Eu PassesOwn.never rfl (Ds (Aa 2)) (Ax 7 Nf.nd) (Aq (Eu PassesOwn.never rfl (Ju rfl T.Hw (Ac (Cq Jt rfl T.Jg Jj (Ac (Aa 7) Af)) Af)) (Ax 8 Nf.nd) (Aj (Ao 5 Nf.nd (Ag Bc (Aa 5) (Am Al (Am Al (Aa 7) (Aa 8)) Ad))) (Aq (Cu (Bw (Dp hr.units) (Am Al (Am Al (Am Al (Aa 0) Ad) (Aa 8)) Ad) Ea (nomark _)) (Aq (Ao 6 Nf.nd (Ag Bc (Ag Bc (Aa 6) (Am Al (Am Al (Aa 7) (Aa 8)) Ad)) (Am Al (Am Al (Aa 7) (Aa 8)) Ad)))) Dg)))))) (Aq (Bv (Eh (Ac (Bf (Zf T) (hr.mono (by decide)) rfl T.Ht.m T.Ht.k T.Ht.b pass0 (Ac (Aa 1) Af)) (Ac (Cq (Hd rfl) rfl T.Hc Hn (Ac (Ba (Ed rfl (Dt (dn:=(Aw ZAQ).names) (N0:=ZBF) (N:= ["_law_flood"]) (nt:=1) (caps:= [])) (Ds (Aa 3)) (λC s₀ H₀ ex=>(Ax 0 (show (["_law_flood"]:List Str).Nodup by decide +kernel))) (Cr (by decide)) (λC s₀ H₀ ex=>Eb) (λC s₀ H₀ ex=>(Cq (Hd rfl) rfl T.Hc Hn (Ac (Aa 0) Af))))) Af)) (Ac (Aa 5) (Ac (Aa 6) (Ac (Bf (Zf T) (hr.mono (by decide)) rfl T.Ht.m T.Ht.k T.Ht.b pass0 (Ac (Aa 4) Af)) Af)))))))))))
theorem ZOh (T:Txt K mg):FnO P w K mg base 1 "_law_whole" ZBy ZAC:=by
 refine Ci T.Qt.F ZKl λcdv A outer s H E hr=> ?_
 exact (Aq (Bv (U4 (Cq ZCR rfl T.ZBr ZB1 (Ac (Aa 0) (Ac (ZCX rfl T.ZB6 ZA9) Af))) (Zq (ZMx (Cq ZCR rfl T.ZBr ZB1 (Ac (Aa 0) (Ac (ZCX rfl T.ZKA ZPK) Af))))))))
theorem ZA8 (T:Txt K mg):FnO P w K mg base 2 "_law_five" ZCB Ra:=by
 refine Ci T.Iu.F ZKU λcdv A outer s H E hr=> ?_
 exact (Aq (Bv (U4 (Cq ZCR rfl T.ZBr ZB1 (Ac (Aa 0) (Ac (ZCX rfl T.Iz J6) Af))) (U4 (Nt (Dp hr.units) (Cq Jt rfl T.Jg Jj (Ac (Aa 0) Af)) Ad (nomark _)) (Zq (Cq (ZP0 rfl) rfl T.ZKZ ZQe (Ac (Ba (Ed rfl (Dt (dn:=(Aw Wq).names) (N0:=ZDj) (N:= ["_law_part"]) (nt:=1) (caps:= [])) (Ds (Aa 0)) (λC s₀ H₀ ex=>(Ax 0 (show (["_law_part"]:List Str).Nodup by decide +kernel))) (Cr (by decide)) (λC s₀ H₀ ex=>Eb) (λC s₀ H₀ ex=>(Bf (ZOh T) (hr.mono (by decide)) rfl T.Qt.m T.Qt.k T.Qt.b pass0 (Ac (Aa 0) Af))))) Af)))))))
theorem Ol (T:Txt K mg):FnO P w K mg base 1 "_law_number" ZBf Jv:=by
 refine Ci T.Ek.F ZJ7 λcdv A outer s H E hr=> ?_
 exact (Aj (Cu (Bw (Dp hr.units) (Ag Bt (Aa 0) Ad) Ad (nomark _)) (Aq (Bv Ad)) Dg) (Aj (Cu (Jk (Vf (Bw (Dp hr.units) (Ag Bt (Aa 0) Ad) Ad (nomark _)) (Wj (Bw Kw (Aa 0) Ad (nomark _))))) (Aq (Bv (Ag Bt (Ag Hj (Aa 0) Ad) (Ag Mv Ad Ad)))) Dg) (Aj (Cu (Bw (Dp hr.units) (Ag Bt (Aa 0) Ad) Ad (nomark _)) (Aq (Bv (Ag Bt (Ag G9 (Aa 1) (Ag Bc (Ag Hj (Aa 0) Ad) Ad)) (Ag Mv Ad Ad)))) Dg) (Aq (Bv (Ag Bt (Ag Hj (Aa 0) Ad) Ad))))))
theorem Z9 (T:Txt K mg):FnO P w K mg base 1 "_law_stream" ZCe J0:=by
 refine Ci T.Hk.F Mi λcdv A outer s H E hr=> ?_
 exact (Aj (Ao 3 Mi.nd (Ag Bt (Ag G9 (Ag Bc (Ag Bt (Aa 0) Ad) Ad) (Ag Bc (Ag G9 (Ag G9 Ad (Aa 1)) (Aa 1)) Ad)) Ad)) (Aj (Ao 4 Mi.nd Ad) (Aj (Cu (Jk (Jy (Bw ZCU (Aa 0) Ad (nomark _)) (Nr (Bw o_ge (Aa 0) (Ag Mv Ad Ad) (nomark _))))) (Aq (Ao 4 Mi.nd (Cq (ZGB rfl) rfl T.ZBA ZAc (Ac (Aa 0) (Ac (Ag Jm Ad (Aa 0)) Af))))) Dg) (Aj (Ao 5 Mi.nd (Fv (Fb Af))) (Aj (Eu PassesOwn.never rfl (Ju rfl T.Hw (Ac (Aa 2) Af)) (Ax 6 Mi.nd) (Aj (Ao 3 Mi.nd (Ag Bt (Ag Bc (Ag Bc (Ag G9 (Aa 3) (Aa 3)) (Ag G9 Ad (Aa 6))) Ad) Ad)) (Aj (Fi (Hx PySem.F.slot_list_append PySem.F.type_list_append Ii (Aa 5) (Ac (Am Al (Ba (Fb (Ac (Aa 3) (Ac (Ag Bt (Aa 4) (Ag Mv Ad Ad)) Af)))) (Gj ZFH rfl T.ZB6 ZA9 (Ac (Nt Kw (Aa 4) Ad (nomark _)) Af))) Af))) (Aq (Ao 4 Mi.nd (Ag Hj (Aa 4) (Ag Mv Ad Ad))))))) (Aq (Bv (Aa 5))))))))
theorem ZRY (T:Txt K mg):FnO P w K mg base 2 "_law_floods" ZAg U6:=by
 refine Ci T.Qz.F Zw λcdv A outer s H E hr=> ?_
 exact (Aj (Ao 3 Zw.nd (Fv (Fb Af))) (Aj (Eu PassesOwn.never rfl (Ju rfl T.Hw (Ac (Ag Bt (Bf (Lb T) (hr.mono (by decide)) rfl T.Dl.m T.Dl.k T.Dl.b pass0 (Ac (Aa 0) (Ac (Aa 1) Af))) Ad) Af)) (Ax 4 Zw.nd) (Aj (Ao 5 Zw.nd (Bf (Lb T) (hr.mono (by decide)) rfl T.Dl.m T.Dl.k T.Dl.b pass0 (Ac (Aa 0) (Ac (Ag Bc (Ag Bc (Aa 1) Ad) (Aa 4)) Af)))) (Aq (Fi (Hx PySem.F.slot_list_append PySem.F.type_list_append Ii (Aa 3) (Ac (Gj Je rfl T.Iz J6 (Ac (Ba (Ed rfl (Dt (dn:=(Aw Z3).names) (N0:=ZA0) (N:= ["_law_x","_law_cell"]) (nt:=1) (caps:= [5])) (Ds (Ba (Bf (Z9 T) (hr.mono (by decide)) rfl T.Hk.m T.Hk.k T.Hk.b pass0 (Ac (Aa 5) (Ac (Ag Bc Ad (Aa 4)) (Ac (Aa 2) Af)))))) (λC s₀ H₀ ex=>(Ax 0 (show (["_law_x","_law_cell"]:List Str).Nodup by decide +kernel))) (Cr (by decide)) (λC s₀ H₀ ex=>Eb) (λC s₀ H₀ ex=>(Bf (Ol T) (hr.mono (by decide)) rfl T.Ek.m T.Ek.k T.Ek.b pass0 (Ac (Aa 0) (Ac (Aa 1) Af)))))) Af)) Af)))))) (Aq (Bv (Aa 3)))))
theorem ZKf (T:Txt K mg):FnO P w K mg base 1 "_law_free_names" ZAe Ww:=by
 refine Ci T.Ql.F K6 λcdv A outer s H E hr=> ?_
 exact (Aj (Ao 1 K6.nd Ea) (Aj (Ao 2 K6.nd (Fv (Fb Af))) (Aj (Eu PassesOwn.never rfl (Ds (Aa 0)) (Ax 3 K6.nd) (Aj (Ao 4 K6.nd Ea) (Aj (Ao 5 K6.nd (Ag Hj (Aa 3) Ad)) (Aj (Eu PassesOwn.never rfl (Ju rfl T.Hw (Ac (Ag Bc Ad (Ag Bt (Aa 3) Ad)) Af)) (Ax 6 K6.nd) (Aj (Ao 4 K6.nd (Ag Bc (Aa 4) (Am Al (Aa 1) (Ag Bt (Aa 5) Ad)))) (Aq (Ao 5 K6.nd (Ag Hj (Aa 5) Ad))))) (Aj (Ao 7 K6.nd (Ba (Ag Bc (Ba (Fb (Ac (Aa 4) Af))) (Ba (Ed rfl (Dt (dn:=(Aw Um).names) (N0:=Wv) (N:= ["_law_letter"]) (nt:=1) (caps:= [])) (Ds (Aa 1)) (λC s₀ H₀ ex=>(Ax 0 (show (["_law_letter"]:List Str).Nodup by decide +kernel))) (Cr (by decide)) (λC s₀ H₀ ex=>Eb) (λC s₀ H₀ ex=>(Ag Bc Ea (Aa 0)))))))) (Aq (Fi (Hx PySem.F.slot_list_append PySem.F.type_list_append Ii (Aa 2) (Ac (Am Al (Ba (Ed rfl (Dt (dn:=(Aw Um).names) (N0:=Wv) (N:= ["_law_one","_law_names_here"]) (nt:=1) (caps:= [2])) (Ds (Aa 7)) (λC s₀ H₀ ex=>(Ax 0 (show (["_law_one","_law_names_here"]:List Str).Nodup by decide +kernel))) (Cr (by decide)) (λC s₀ H₀ ex=>(Xo (Jk (Vf (Bw ZMR (Aa 0) (Aa 1) (by with_unfolding_all rfl)) (Wj (Bw (M8 hr.units) (Aa 0) Ea (nomark _))))))) (λC s₀ H₀ ex=>(Aa 0)))) Ad) Af))))))))) (Aq (Bv (Aa 2))))))
theorem ZL8 (T:Txt K mg):FnO P w K mg base 2 "_law_names" ZBM Mz:=by
 refine Ci T.Rn.F Gk λcdv A outer s H E hr=> ?_
 exact (Aj (Ao 1 Gk.nd Ea) (Aj (Ao 2 Gk.nd (Ba (Bf (Z9 T) (hr.mono (by decide)) rfl T.Hk.m T.Hk.k T.Hk.b pass0 (Ac (Aa 0) (Ac Ad (Ac Ad Af)))))) (Aj (Cu (Bw Kw (Am Al (Aa 2) Ad) Ad (nomark _)) (Aq (Bv (Bf (ZKf T) (hr.mono (by decide)) rfl T.Ql.m T.Ql.k T.Ql.b pass0 (Ac (Ba (Fl (Aa 2) (Dy Ad) (Dy Ad))) Af)))) Dg) (Aj (Ao 3 Gk.nd (ZGt PySem.F.slot_str_join PySem.F.type_str_join ZRa Ea (Ac (Ba (Ed rfl (Dt (dn:=(Aw Nz).names) (N0:=Qf) (N:= ["_law_x","_law_letters"]) (nt:=1) (caps:= [1])) (Ds (Ba (Fl (Aa 2) Ih (Dy Ad)))) (λC s₀ H₀ ex=>(Ax 0 (show (["_law_x","_law_letters"]:List Str).Nodup by decide +kernel))) (Cr (by decide)) (λC s₀ H₀ ex=>Eb) (λC s₀ H₀ ex=>(Am Al (Aa 1) (Ag Bt (Aa 0) Ad))))) Af))) (Aj (Cu (Bw (Dp hr.units) (Ag Bt (Ag Hj (Am Al (Aa 2) Ad) Ad) Ad) Ad (nomark _)) (Aq (Ao 3 Gk.nd (Ba (Fl (Ba (Ag Bc (Am Al (Ba (Fb (Ac Ea (Ac Ea Af)))) (Ag Bt (Ag Hj (Am Al (Aa 2) Ad) Ad) Ad)) (Ba (Fl (Aa 3) (Dy Ad) Ih)))) Ih (Dy Ad))))) Dg) (Aj (Cu (Bw (Dp hr.units) (Ag Bt (Am Al (Aa 2) Ad) Ad) Ad (nomark _)) (Aj (Ao 4 Gk.nd (Ag Bt (Ag Bc (Ag Bc (ZGt PySem.F.slot_str_find PySem.F.type_str_find m_find (Aa 1) (Ac (Am Al (Aa 3) Ad) Af)) Ad) (Ag Bt (Am Al (Aa 2) Ad) Ad)) Ad)) (Aj (Ao 5 Gk.nd (Ba (Ag Bc (Am Al (Aa 1) (Aa 4)) (Ba (Fl (Aa 3) (Dy Ad) Ih))))) (Aj (Yw 6 rfl Gk.nd (Dt (dn:=(Aw Nz).names) (N0:=Qf) (N:= ["_law_k","_law_word"]) (nt:=1) (caps:= [3])) (Ju rfl T.Hw (Ac Ad Af)) (λC s₀ H₀ ex=>(Ax 0 (show (["_law_k","_law_word"]:List Str).Nodup by decide +kernel))) (Cr (by decide)) (λC s₀ H₀ ex=>Eb) (λC s₀ H₀ ex=>(Ba (Fl (Aa 1) Ih (Dy (Ag Bc (Aa 0) Ad)))))) (Aj (Ao 6 Gk.nd (Fv (Ag Bc (Aa 6) (Ba (Ed rfl (Dt (dn:=(Aw Nz).names) (N0:=Qf) (N:= ["_law_k","_law_other"]) (nt:=1) (caps:= [5])) (Ju rfl T.Hw (Ac Ad Af)) (λC s₀ H₀ ex=>(Ax 0 (show (["_law_k","_law_other"]:List Str).Nodup by decide +kernel))) (Cr (by decide)) (λC s₀ H₀ ex=>Eb) (λC s₀ H₀ ex=>(Ba (Fl (Aa 1) Ih (Dy (Ag Bc (Aa 0) Ad)))))))))) (Aj (Yw 6 rfl Gk.nd (Dt (dn:=(Aw Nz).names) (N0:=Qf) (N:= ["_law_name"]) (nt:=1) (caps:= [])) (Ds (Aa 6)) (λC s₀ H₀ ex=>(Ax 0 (show (["_law_name"]:List Str).Nodup by decide +kernel))) (Cr (by decide)) (λC s₀ H₀ ex=>Eb) (λC s₀ H₀ ex=>(Am Al (Ba (Fb (Ac (Aa 0) (Ac Ea Af)))) (Gj ZFH rfl T.ZB6 ZA9 (Ac (Nt (Dp hr.units) (Aa 0) Ea (nomark _)) Af))))) (Aq (Bv (Ag Bc (Ba (Fl (Aa 6) (Dy (Ag Bt (Am Al (Aa 2) Ad) Ad)) Ih)) (Ba (Fl (Aa 6) Ih (Dy (Ag Bt (Am Al (Aa 2) Ad) Ad)))))))))))) Dg) (Aj (Ao 9 Gk.nd (Ag Bt (Ag Hj (Am Al (Aa 2) Ad) Ad) Ad)) (Aj (Ao 10 Gk.nd (Ag Bt (Am Al (Aa 2) Ad) (Ag Bc (Aa 9) Ad))) (Aj (Ao 6 Gk.nd (Fv (Fb Af))) (Aj (Eu PassesOwn.never rfl (Ju rfl T.Hw (Ac Ad Af)) (Ax 7 Gk.nd) (Aj (Ao 11 Gk.nd (Am Al (Aa 1) (Ag Bt (Ag Bc (Am Al (Aa 2) Ad) (Ag G9 Ad (Aa 7))) Ad))) (Aj (Ao 8 Gk.nd (Ba (Ag Bc (Ba (Ag Bc (Ba (Fl (Aa 3) Ih (Dy (Aa 10)))) (Aa 11))) (Ba (Fl (Aa 3) (Dy (Aa 10)) (Dy (Aa 9))))))) (Aj (Cu (Bw (Dp hr.units) (Aa 8) Ea (nomark _)) (Aq (Ao 8 Gk.nd Ea)) Dg) (Aq (Fi (Hx PySem.F.slot_list_append PySem.F.type_list_append Ii (Aa 6) (Ac (Aa 8) Af)))))))) (Aq (Bv (Aa 6)))))))))))))
theorem ZLK (T:Txt K mg):FnO P w K mg base 1 "_law_more" ZBQ Uo:=by
 refine Ci T.Rb.F ZOk λcdv A outer s H E hr=> ?_
 exact (Aj (Cu (Bw Kw (Aa 0) Ad (nomark _)) (Aq (Bv (Ag G9 (Ag Bt (Ag Hj (Aa 0) Ad) (Ag Mv Ad Ad)) (Ag Bt (Aa 0) Ad)))) Dg) (Aq (Bv (Ag G9 (Ag Bt (Aa 0) Ad) (Ag Bt (Ag Hj (Aa 0) Ad) Ad)))))
theorem ZRN (T:Txt K mg):FnO P w K mg base 1 "_law_pumped" ZDN Wl:=by
 refine Ci T.Qj.F ZRk λcdv A outer s H E hr=> ?_
 exact (Aq (Bv (Cq (ZQH rfl) rfl T.ZBA ZAc (Ac (Ba (Ed rfl (Dt (dn:=(Aw Xf).names) (N0:=ZA2) (N:= ["_law_begin","_law_stairs_here"]) (nt:=2) (caps:= [])) (Ds (Aa 0)) (λC s₀ H₀ ex=>(Ey rfl (Ce (Ax 0 (show (["_law_begin","_law_stairs_here"]:List Str).Nodup by decide +kernel)) (Ce (Ax 1 (show (["_law_begin","_law_stairs_here"]:List Str).Nodup by decide +kernel)) Fd)))) (N6 (Gm (Cr (by decide)) (Gm (Cr (by decide)) Ms))) (λC s₀ H₀ ex=>Eb) (λC s₀ H₀ ex=>(Cq (Hd rfl) rfl T.Hc Hn (Ac (Ba (Ed rfl (ZHs (N:= ["_law_height","_law_many","_law_way"]) (nt:=3)) (Ds (Aa 1)) (λC s₀ H₀ ex=>(Ey rfl (Ce (Ax 0 (show (["_law_height","_law_many","_law_way"]:List Str).Nodup by decide +kernel)) (Ce (Ax 1 (show (["_law_height","_law_many","_law_way"]:List Str).Nodup by decide +kernel)) (Ce (Ax 2 (show (["_law_height","_law_many","_law_way"]:List Str).Nodup by decide +kernel)) Fd))))) (N6 (Gm (Cr (by decide)) (Gm (Cr (by decide)) (Gm (Cr (by decide)) Ms)))) (λC s₀ H₀ ex=>(Xo (Bw (Dp hr.units) (Aa 2) Ea (nomark _)))) (λC s₀ H₀ ex=>(Aa 1)))) Af))))) Af))))
theorem ZLD (T:Txt K mg):FnO P w K mg base 2 "_law_stairs" ZCS Xv:=by
 refine Ci T.Pg.F Lw λcdv A outer s H E hr=> ?_
 exact (Aj (Ao 3 Lw.nd (Fv (Fb Af))) (Aj (Ao 4 Lw.nd Ad) (Aj (Eu PassesOwn.never rfl (Ju rfl T.Hw (Ac (Ag Bt (Am Al (Aa 0) Ad) Ad) Af)) (Ax 5 Lw.nd) (Aj (Ao 6 Lw.nd (Ag Bc (Aa 4) (Bf (Ol T) (hr.mono (by decide)) rfl T.Ek.m T.Ek.k T.Ek.b pass0 (Ac (Am Al (Aa 0) (Ag Bc Ad (Ag G9 Ad (Aa 5)))) (Ac (Aa 1) Af))))) (Aj (Ao 7 Lw.nd (Ag Bc Ad (Bf (Ol T) (hr.mono (by decide)) rfl T.Ek.m T.Ek.k T.Ek.b pass0 (Ac (Am Al (Aa 0) (Ag Bc Ad (Ag G9 Ad (Aa 5)))) (Ac (Aa 1) Af))))) (Aj (Ao 8 Lw.nd Ea) (Aj (Cu (Jk (Vf (Ui (Aa 2)) (Wj (Bw (Dp hr.units) (Ag Bt (Ag Hj (Am Al (Aa 0) (Ag Bc Ad (Ag G9 Ad (Aa 5)))) Ad) Ad) Ad (nomark _))))) (Aq (Ao 8 Lw.nd Ea)) Dg) (Aj (Fi (Hx PySem.F.slot_list_append PySem.F.type_list_append Ii (Aa 3) (Ac (Eh (Ac (Aa 6) (Ac (Aa 7) (Ac (Aa 8) Af)))) Af))) (Aq (Ao 4 Lw.nd (Ag Bc (Aa 6) (Aa 7)))))))))) (Aq (Bv (Gj Je rfl T.Iz J6 (Ac (Aa 3) Af)))))))
theorem ZRE (T:Txt K mg):FnO P w K mg base 3 "_law_rule" ZDg Vd:=by
 refine Ci T.Qc.F Tw λcdv A outer s H E hr=> ?_
 exact (Aj (Ao 4 Tw.nd (Fv (Fb Af))) (Aj (Ao 5 Tw.nd Ad) (Aj (Eu PassesOwn.never rfl (Ju rfl T.Hw (Ac Ad Af)) (Ax 6 Tw.nd) (Aq (Cu (Jk (Jy (Bw (Dp hr.units) (Aa 6) Ad (nomark _)) (Nr (Jk (Vf (Bw Kw (Ag Bt (Am Al (Aa 0) (Aa 6)) Ad) Ad (nomark _)) (Wj (Bw ZCU (Aa 5) (Aa 2) (nomark _)))))))) (Aj (Fi (Hx PySem.F.slot_list_append PySem.F.type_list_append Ii (Aa 4) (Ac (Eh (Ac (Aa 5) (Ac (Bf (ZLD T) (hr.mono (by decide)) rfl T.Pg.m T.Pg.k T.Pg.b pass0 (Ac (Ba (Fl (Aa 0) (Dy (Ag Bc Ad (Ag G9 Ad (Aa 6)))) (Dy (Ag Bc Ad (Ag G9 Ad (Aa 6)))))) (Ac (Aa 1) (Ac (Aa 3) Af)))) Af))) Af))) (Aq (Ao 5 Tw.nd (Ag Bc (Ag Bc (Aa 5) Ad) (Ag Bt (Ag Hj (Am Al (Aa 0) (Aa 6)) Ad) Ad))))) Dg))) (Aq (Bv (Gj Je rfl T.Iz J6 (Ac (Aa 4) Af)))))))
theorem ZKv (T:Txt K mg):FnO P w K mg base 4 "_law_place" ZC5 Mw:=by
 refine Ci T.Rr.F Ke λcdv A outer s H E hr=> ?_
 exact (Aj (Ao 5 Ke.nd (Ba (Bf (Z9 T) (hr.mono (by decide)) rfl T.Hk.m T.Hk.k T.Hk.b pass0 (Ac (Aa 4) (Ac (Aa 2) (Ac Ad Af)))))) (Aj (Ao 6 Ke.nd Ea) (Aj (Cu (Bw Kw (Ag Bt (Am Al (Aa 5) Ad) (Ag Jm (Aa 1) (Aa 2))) Ad (nomark _)) (Aq (Ao 6 Ke.nd (Am Al (Aa 0) (Ag Bc (Aa 2) (Ag Bt (Am Al (Aa 5) Ad) (Ag Jm (Aa 1) (Aa 2))))))) Dg) (Aj (Ao 7 Ke.nd (Eh (Ac (Am Al (Aa 0) (Aa 2)) (Ac (Aa 6) (Ac (Ag Bt (Am Al (Aa 5) Ad) Ad) Af))))) (Aj (Cu (Bw (Dp hr.units) (Ag Bt (Am Al (Aa 5) Ad) Ad) Ad (nomark _)) (Aq (Bv (Ag Bc (Ag Bc (Eh (Ac Ea Af)) (Aa 7)) (Eh (Ac (Bf (Ol T) (hr.mono (by decide)) rfl T.Ek.m T.Ek.k T.Ek.b pass0 (Ac (Am Al (Aa 5) Ad) (Ac (Aa 4) Af))) Af))))) Dg) (Aj (Cu (Bw (Dp hr.units) (Ag Bt (Am Al (Aa 5) Ad) Ad) Ad (nomark _)) (Aq (Bv (Ag Bc (Ag Bc (Eh (Ac Ea Af)) (Aa 7)) (Eh (Ac (Bf (Ol T) (hr.mono (by decide)) rfl T.Ek.m T.Ek.k T.Ek.b pass0 (Ac (Am Al (Aa 5) Ad) (Ac (Aa 4) Af))) (Ac (Bf (Ol T) (hr.mono (by decide)) rfl T.Ek.m T.Ek.k T.Ek.b pass0 (Ac (Am Al (Aa 5) Ad) (Ac (Aa 4) Af))) Af)))))) Dg) (Aj (Ao 8 Ke.nd (U4 (Nt Kw (Aa 1) Ad (nomark _)) (Zq (Nt Kw (Ag Bt (Am Al (Aa 5) Ad) Ad) Ad (nomark _))))) (Aj (Ao 9 Ke.nd (Bf (ZRE T) (hr.mono (by decide)) rfl T.Qc.m T.Qc.k T.Qc.b pass0 (Ac (Ba (Fl (Aa 5) (Dy Ad) (Dy Ad))) (Ac (Aa 4) (Ac (Aa 3) (Ac (Aa 8) Af)))))) (Aj (Ao 10 Ke.nd Io) (Aj (Cu (Ui (Aa 8)) (Aj (Ao 11 Ke.nd (Ag Bt (Ag Bc (Ag Bc (Aa 2) Ad) (Ag Bt (Am Al (Aa 5) Ad) (Ag Jm (Aa 1) Ad))) (Aa 1))) (Aq (Ao 10 Ke.nd (Eh (Ac (Am Al (Aa 0) (Aa 11)) (Ac (Ag Bc Ad (Ag Bt (Am Al (Aa 5) Ad) Ad)) (Ac (Ag Bc (Bf (ZRN T) (hr.mono (by decide)) rfl T.Qj.m T.Qj.k T.Qj.b pass0 (Ac (Aa 9) Af)) (Bf (ZLK T) (hr.mono (by decide)) rfl T.Rb.m T.Rb.k T.Rb.b pass0 (Ac (Am Al (Aa 5) Ad) Af))) Af))))))) Dg) (Aq (Bv (Ag Bc (Ag Bc (Eh (Ac Ea Af)) (Aa 7)) (Eh (Ac (Bf (Ol T) (hr.mono (by decide)) rfl T.Ek.m T.Ek.k T.Ek.b pass0 (Ac (Am Al (Aa 5) Ad) (Ac (Aa 4) Af))) (Ac (Aa 9) (Ac (Aa 10) Af)))))))))))))))))
theorem ZK6 (T:Txt K mg):FnO P w K mg base 5 "_law_house" ZDq R9:=by
 refine Ci T.Q8.F Tz λcdv A outer s H E hr=> ?_
 exact (Aj (Ao 2 Tz.nd (Ag Bc Ad (Ag Bt (Bf (Lb T) (hr.mono (by decide)) rfl T.Dl.m T.Dl.k T.Dl.b pass0 (Ac (Aa 0) (Ac (Aa 1) Af))) Ad))) (Aj (Ao 3 Tz.nd (Ag Bc Ad (Ag Bt (Bf (Lb T) (hr.mono (by decide)) rfl T.Dl.m T.Dl.k T.Dl.b pass0 (Ac (Aa 0) (Ac (Ag Bc (Aa 1) Ad) Af))) Ad))) (Aj (Ao 4 Tz.nd (Ba (Bf (ZL8 T) (hr.mono (by decide)) rfl T.Rn.m T.Rn.k T.Rn.b pass0 (Ac (Bf (Lb T) (hr.mono (by decide)) rfl T.Dl.m T.Dl.k T.Dl.b pass0 (Ac (Aa 0) (Ac (Ag Bc (Aa 1) Ad) Af))) Af)))) (Aj (ZRD (Yw 5 rfl Tz.nd (Dt (dn:=(Aw Zc).names) (N0:=ZEC) (N:= ["_law_k","_law_script","_law_at","_law_many","_law_year","_law_names_here"]) (nt:=1) (caps:= [0,1,2,3,4])) (Ju rfl T.Hw (Ac (Aa 2) Af)) (λC s₀ H₀ ex=>(Ax 0 (show (["_law_k","_law_script","_law_at","_law_many","_law_year","_law_names_here"]:List Str).Nodup by decide +kernel))) (Cr (by decide)) (λC s₀ H₀ ex=>Eb) (λC s₀ H₀ ex=>(Bf (ZKv T) (hr.mono (by decide)) rfl T.Rr.m T.Rr.k T.Rr.b pass0 (Ac (Aa 5) (Ac (Aa 3) (Ac (Aa 0) (Ac (Aa 4) (Ac (Bf (Lb T) (hr.mono (by decide)) rfl T.Dl.m T.Dl.k T.Dl.b pass0 (Ac (Aa 1) (Ac (Ag Bc (Ag Bc (Aa 2) Ad) (Aa 0)) Af))) Af))))))))) (Aq (Bv (Eh (Ac (Aa 3) (Ac (Gj Je rfl T.Iz J6 (Ac (Aa 5) Af)) Af)))))))))
theorem ZRR (T:Txt K mg):FnO P w K mg base 2 "_law_state" ZCT Z5:=by
 refine Ci T.Ru.F Ln λcdv A outer s H E hr=> ?_
 exact (Aj (Ao 2 Ln.nd (Fv (Fb Af))) (Aj (Ao 3 Ln.nd (Fv (Fb Af))) (Aj (Ao 4 Ln.nd (Ba (Bf (Z9 T) (hr.mono (by decide)) rfl T.Hk.m T.Hk.k T.Hk.b pass0 (Ac (Aa 1) (Ac Ad (Ac (Ag G9 Ad (Cq Jt rfl T.Jg Jj (Ac (Am Al (Aa 0) Ad) Af))) Af)))))) (Aj (Eu PassesOwn.never rfl (Ju rfl T.Hw (Ac (Cq Jt rfl T.Jg Jj (Ac (Am Al (Aa 0) Ad) Af)) Af)) (Ax 5 Ln.nd) (Aj (Ao 6 Ln.nd (Am Al (Am Al (Aa 0) Ad) (Aa 5))) (Aj (Ao 7 Ln.nd (Ba (Fl (Aa 4) (Dy (Ag G9 Ad (Aa 5))) (Dy (Ag Bc (Ag G9 Ad (Aa 5)) Ad))))) (Aj (Ao 8 Ln.nd Ad) (Aj (Cu (Bw (Dp hr.units) (Am Al (Aa 6) Ad) Ea (nomark _)) (Aq (Ao 8 Ln.nd (Cq (Xb rfl) rfl T.Sy U3 (Ac (Am Al (Aa 6) Ad) (Ac (Am Al (Ba (Fb (Ac (Ag Bt (Am Al (Aa 7) Ad) Ad) (Ac (Ag Bt (Ag Bc (Aa 1) (Am Al (Aa 7) Ad)) (Ag Mv Ad Ad)) (Ac (Am Al (Aa 6) Ad) (Ac Ad Af)))))) (Ag Bt (Am Al (Aa 7) Ad) Ad)) Af))))) Dg) (Aj (Fi (Hx PySem.F.slot_list_append PySem.F.type_list_append Ii (Aa 2) (Ac (Aa 8) Af))) (Aq (Fi (Hx PySem.F.slot_list_append PySem.F.type_list_append Ii (Aa 3) (Ac (Gj Je rfl T.Iz J6 (Ac (Ba (Ed rfl (Dt (dn:=(Aw Vo).names) (N0:=ZB7) (N:= ["_law_x","_law_cell"]) (nt:=1) (caps:= [1])) (Ds (Ba (Fl (Aa 7) (Dy Ad) (Dy Ad)))) (λC s₀ H₀ ex=>(Ax 0 (show (["_law_x","_law_cell"]:List Str).Nodup by decide +kernel))) (Cr (by decide)) (λC s₀ H₀ ex=>Eb) (λC s₀ H₀ ex=>(Am Al (Ba (Fb (Ac Ad (Ac (Ag Bt (Ag Hj (Aa 0) Ad) Ad) (Ac (Ag Bt (Ag G9 (Ag Bc (Aa 1) Ad) (Ag Bc (Ag Hj (Aa 0) Ad) Ad)) (Ag Mv Ad Ad)) Af))))) (Ag Bt (Aa 0) Ad))))) Af)) Af)))))))))) (Aq (Bv (Eh (Ac (Gj Je rfl T.Iz J6 (Ac (Aa 2) Af)) (Ac (Gj Je rfl T.Iz J6 (Ac (Aa 3) Af)) Af)))))))))
theorem ZMB (T:Txt K mg):FnO P w K mg base 1 "gone" ZBH ZAB:=by
 refine Ci T.Rt.F ZKh λcdv A outer s H E hr=> ?_
 exact (Aq (Bv (Cq (Hd rfl) rfl T.Hc Hn (Ac (Ba (Ed rfl (Dt (dn:=(Aw Vx).names) (N0:=ZBL) (N:= ["place","row"]) (nt:=2) (caps:= [])) (ZBV rfl T.W6 (Ac (Am Al (Aa 0) (Cj (v:=(.int 1)) rfl T.Ja ⟨_,rfl⟩ (λ_ _=>rfl))) (Ac (Aa 1) Af))) (λC s₀ H₀ ex=>(Ey rfl (Ce (Ax 0 (show (["place","row"]:List Str).Nodup by decide +kernel)) (Ce (Ax 1 (show (["place","row"]:List Str).Nodup by decide +kernel)) Fd)))) (N6 (Gm (Cr (by decide)) (Gm (Cr (by decide)) Ms))) (λC s₀ H₀ ex=>(Xo (Bw (Dp hr.units) (Am Al (Aa 0) (Cj (v:=(.int 2)) rfl T.Xl ⟨_,rfl⟩ (λ_ _=>rfl))) (Cj (v:=(.str "sea")) rfl T.Zz ⟨_,rfl⟩ (λ_ _=>rfl)) (nomark _)))) (λC s₀ H₀ ex=>(Ag Bc (Am Al (Aa 1) (Cj (v:=(.int 2)) rfl T.ZA5 ⟨_,rfl⟩ (λ_ _=>rfl))) (Am Al (Aa 1) (Cj (v:=(.int 3)) rfl T.ZAb ⟨_,rfl⟩ (λ_ _=>rfl))))))) Af))))
theorem ZJe (T:Txt K mg):FnO P w K mg base 1 "water" ZCF Up:=by
 refine Ci T.Lf.F ZDc λcdv A outer s H E hr=> ?_
 exact (Aj (K5 (Aa 0) (Ey rfl (Ce (Ax 1 ZDc.nd) (Ce (Ax 2 ZDc.nd) Fd)))) (Aq (Bv (Ag Bc (Cq (Hd rfl) rfl T.Hc Hn (Ac (Aa 1) Af)) (Cq (Hd rfl) rfl T.Hc Hn (Ac (Ba (Ed rfl (Dt (dn:=(Aw Y8).names) (N0:=ZBI) (N:= ["ahead"]) (nt:=1) (caps:= [])) (Ds (Aa 2)) (λC s₀ H₀ ex=>(Ax 0 (show (["ahead"]:List Str).Nodup by decide +kernel))) (Cr (by decide)) (λC s₀ H₀ ex=>Eb) (λC s₀ H₀ ex=>(Cq (Hd rfl) rfl T.Hc Hn (Ac (Aa 0) Af))))) Af))))))
theorem ZLi (T:Txt K mg):FnO P w K mg base 2 "books_of_pages" ZAd Xy:=by
 refine Ci T.Qm.F ZCC λcdv A outer s H E hr=> ?_
 exact (Aj (Ao 5 ZCC.nd (Cq (Hd rfl) rfl T.Hc Hn (Ac (Ba (Ed rfl (Dt (dn:=(Aw Qk).names) (N0:=Tr) (N:= ["flood"]) (nt:=1) (caps:= [])) (Ds (Aa 2)) (λC s₀ H₀ ex=>(Ax 0 (show (["flood"]:List Str).Nodup by decide +kernel))) (Cr (by decide)) (λC s₀ H₀ ex=>Eb) (λC s₀ H₀ ex=>(Cq (Hd rfl) rfl T.Hc Hn (Ac (Aa 0) Af))))) Af))) (Aj (Ao 6 ZCC.nd (Cq (Hd rfl) rfl T.Hc Hn (Ac (Ba (Ed rfl (Dt (dn:=(Aw Qk).names) (N0:=Tr) (N:= ["page"]) (nt:=1) (caps:= [])) (Ds (Aa 3)) (λC s₀ H₀ ex=>(Ax 0 (show (["page"]:List Str).Nodup by decide +kernel))) (Cr (by decide)) (λC s₀ H₀ ex=>Eb) (λC s₀ H₀ ex=>(Cq (Hd rfl) rfl T.Hc Hn (Ac (Ba (Ed rfl (ZHs (N:= ["row"]) (nt:=1)) (Ds (Aa 0)) (λC s₀ H₀ ex=>(Ax 0 (show (["row"]:List Str).Nodup by decide +kernel))) (Cr (by decide)) (λC s₀ H₀ ex=>Eb) (λC s₀ H₀ ex=>(Am Al (Aa 0) (Cj (v:=(.int 1)) rfl T.ZBK ⟨_,rfl⟩ (λ_ _=>rfl)))))) Af))))) Af))) (Aq (Bv (Eh (Ac (Bf (ZJe T) (hr.mono (by decide)) rfl T.Lf.m T.Lf.k T.Lf.b pass0 (Ac (Aa 1) Af)) (Ac (Aa 5) (Ac (Aa 6) (Ac (Cq (Hd rfl) rfl T.Hc Hn (Ac (Ba (Ed rfl (Dt (dn:=(Aw Qk).names) (N0:=Tr) (N:= ["page","house"]) (nt:=1) (caps:= [0])) (Ds (Aa 3)) (λC s₀ H₀ ex=>(Ax 0 (show (["page","house"]:List Str).Nodup by decide +kernel))) (Cr (by decide)) (λC s₀ H₀ ex=>Eb) (λC s₀ H₀ ex=>(Bf (ZMB T) (hr.mono (by decide)) rfl T.Rt.m T.Rt.k T.Rt.b pass0 (Ac (Aa 1) (Ac (Aa 0) Af)))))) Af)) (Ac (Bf (ZJe T) (hr.mono (by decide)) rfl T.Lf.m T.Lf.k T.Lf.b pass0 (Ac (Aa 4) Af)) Af))))))))))
theorem ZMD (T:Txt K mg):MtO P w K mg base 1 "Course" "__init__" ZBl S8:=by
 refine Ci T.Uv.F ZCD λcdv A outer s H E hr=> ?_
 exact (Aj (K5 (Aa 2) (Ey rfl (Ce (Ax 5 ZCD.nd) (Ce (Ax 6 ZCD.nd) Fd)))) (Aj (Nx T.Bb.N T.Bb.cl T.Kf (Aa 0) (Aa 1)) (Aj (Nx T.Bb.N T.Bb.cl T.Vs (Aa 0) (Aa 5)) (Aj (Nx T.Bb.N T.Bb.cl T.Xp (Aa 0) (Ag Bt (Aa 3) (Am Al (Aa 1) (Cj (v:=(.int 0)) rfl T.ZBx ⟨_,rfl⟩ (λ_ _=>rfl))))) (Aj (Nx T.Bb.N T.Bb.cl T.Rj (Aa 0) (Ed rfl (Dt (dn:=(Aw Uz).names) (N0:=Vc) (N:= ["cubes","ahead"]) (nt:=2) (caps:= [])) (ZBV rfl T.W6 (Ac (Aa 4) (Ac (Aa 6) Af))) (λC s₀ H₀ ex=>(Ey rfl (Ce (Ax 0 (show (["cubes","ahead"]:List Str).Nodup by decide +kernel)) (Ce (Ax 1 (show (["cubes","ahead"]:List Str).Nodup by decide +kernel)) Fd)))) (N6 (Gm (Cr (by decide)) (Gm (Cr (by decide)) Ms))) (λC s₀ H₀ ex=>Eb) (λC s₀ H₀ ex=>(Ag Bc (Aa 0) (Am Al (Aa 1) Ad))))) (Aj (Nx T.Bb.N T.Bb.cl T.Uq (Aa 0) (Ed rfl (Dt (dn:=(Aw Uz).names) (N0:=Vc) (N:= ["ahead"]) (nt:=1) (caps:= [])) (Ds (Aa 6)) (λC s₀ H₀ ex=>(Ax 0 (show (["ahead"]:List Str).Nodup by decide +kernel))) (Cr (by decide)) (λC s₀ H₀ ex=>Eb) (λC s₀ H₀ ex=>(Fv (Ag Bc (Ba (Gj (Z2 rfl) rfl T.Ub U7 (Ac (Ba (Fl (Aa 0) (Dy Ad) Ih)) Af))) (Ba (Fb (Ac Ad Af)))))))) (Aj (Nx T.Bb.N T.Bb.cl T.Oh (Aa 0) (Fv (Ag ZHu (Fb (Ac Io Af)) (Cq Jt rfl T.Jg Jj (Ac (Aa 5) Af))))) (Aq (Nx T.Bb.N T.Bb.cl T.Wx (Aa 0) (Fv (Fb Af)))))))))))
theorem ZHt (T:Txt K mg):MtO P w K mg base 1 "Course" "send" ZEQ V1:=by
 refine Ci T.Ov.F ZN1 λcdv A outer s H E hr=> ?_
 exact (Aq (Cu (Bw (Dp hr.units) (Aa 2) Ad (nomark _)) (Aq (V9 (Fw T.Bb.N T.Bb.cl T.Rj (Aa 0)) (Aa 1) (Aa 3) V4)) (Aq (V9 (Am Al (Fw T.Bb.N T.Bb.cl T.Uq (Aa 0)) (Aa 1)) (Ag Jm (Aa 2) Ad) (Aa 3) V4))))
theorem ZHD (T:Txt K mg):FnO P w K mg base 1 "number_of" ZBv S6:=by
 refine Ci T.Ld.F ZDl λcdv A outer s H E hr=> ?_
 exact (Aj (Eu PassesOwn.never rfl (Ur rfl T.Qs (Ac (Am Al (Aa 0) (Cj (v:=(.int 1)) rfl T.Ja ⟨_,rfl⟩ (λ_ _=>rfl))) Af)) (Ey rfl (Ce (Ax 2 ZDl.nd) (Ce (Ax 3 ZDl.nd) Fd))) (Aq (Cu (Bw (Dp hr.units) (Am Al (Aa 3) (Cj (v:=(.int 1)) rfl T.ZDU ⟨_,rfl⟩ (λ_ _=>rfl))) (Aa 1) (nomark _)) (Aq (Bv (Aa 2))) Dg))) (Aq ZQs))
theorem ZH0 (T:Txt K mg):FnO P w K mg base 2 "down_of" ZCb U5:=by
 refine Ci T.Kq.F ZIl λcdv A outer s H E hr=> ?_
 exact (Aj (Ao 2 ZIl.nd (Am Al (Am Al (Am Al (Aa 0) (Cj (v:=(.int 1)) rfl T.Ja ⟨_,rfl⟩ (λ_ _=>rfl))) (Aa 1)) (Cj (v:=(.int 2)) rfl T.Xl ⟨_,rfl⟩ (λ_ _=>rfl)))) (Aj (Cu (Bw (Dp hr.units) (Aa 2) (Cj (v:=(.str "sea")) rfl T.Zz ⟨_,rfl⟩ (λ_ _=>rfl)) (nomark _)) (Aq (Bv Io)) Dg) (Aq (Bv (Bf (ZHD T) (hr.mono (by decide)) rfl T.Ld.m T.Ld.k T.Ld.b pass0 (Ac (Aa 0) (Ac (Aa 2) Af)))))))
theorem ZFc (T:Txt K mg):MtO P w K mg base 3 "Course" "send_down" ZC3 Us:=by
 refine Ci T.Og.F ZES λcdv A outer s H E hr=> ?_
 exact (Aj (Ao 3 ZES.nd (Bf (ZH0 T) (hr.mono (by decide)) rfl T.Kq.m T.Kq.k T.Kq.b pass0 (Ac (Fw T.Bb.N T.Bb.cl T.Kf (Aa 0)) (Ac (Aa 1) Af)))) (Aq (Cu (Bw U9 (Aa 3) Io (nomark _)) (Aq (Fi (R3 T.Bb.N T.Bb.cl T.Ov.me (ZHt T) (hr.mono (by decide)) T.Ov.b pass0 (Aa 0) (Ac (Aa 3) (Ac (Am Al (Am Al (Am Al (Fw T.Bb.N T.Bb.cl T.Kf (Aa 0)) (Cj (v:=(.int 1)) rfl T.Ja ⟨_,rfl⟩ (λ_ _=>rfl))) (Aa 1)) (Cj (v:=(.int 3)) rfl T.Zb ⟨_,rfl⟩ (λ_ _=>rfl))) (Ac (Aa 2) Af)))))) Dg)))
theorem ZRl (T:Txt K mg):FnO P w K mg base 1 "opened" ZBX Xc:=by
 refine Ci T.Rc.F Lp λcdv A outer s H E hr=> ?_
 exact (Aj (Ao 2 Lp.nd Ad) (Aj (Ao 3 Lp.nd Ad) (Aj (Eu PassesOwn.never rfl (Ds (Aa 0)) (Ey rfl (Ce (Ax 4 Lp.nd) (Ce (Ax 5 Lp.nd) (Ce (Ax 6 Lp.nd) Fd)))) (Aj (Ao 7 Lp.nd (Cq (ZGB rfl) rfl T.ZBA ZAc (Ac Ad (Ac (Cq (Xb rfl) rfl T.Sy U3 (Ac (Aa 5) (Ac (Ag Jm (Aa 1) (Aa 4)) Af))) Af)))) (Aq (Cu (Bw (Dp hr.units) (Aa 6) Ea (nomark _)) (Aq (ZEp 2 Lp.nd (Aa 7) V4)) (Aq (ZEp 3 Lp.nd (Aa 7) V4)))))) (Aq (Bv (Eh (Ac (Aa 2) (Ac (Aa 3) (Ac (Ag Jm (Ag Jm (Aa 1) (Aa 2)) (Aa 3)) Af)))))))))
theorem ZPd (T:Txt K mg):FnO P w K mg base 1 "stairs_at" ZDW ZAE:=by
 refine Ci T.Ph.F Uw λcdv A outer s H E hr=> ?_
 exact (Aj (Ao 2 Uw.nd (Eh Af)) (Aj (Eu PassesOwn.never rfl (Ds (Aa 0)) (Ey rfl (Ce (Ax 3 Uw.nd) (Ce (Ax 4 Uw.nd) Fd))) (Aq (Cu (Bw o_le (Aa 3) (Aa 1) (nomark _)) (Aq (Ao 2 Uw.nd (Aa 4))) Dg))) (Aq (Bv (Aa 2)))))
theorem ZKQ (T:Txt K mg):MtO P w K mg base 4 "Course" "go_basin" ZCJ ZAR:=by
 refine Ci T.Uk.F Mj λcdv A outer s H E hr=> ?_
 exact (Aj (Ao 2 Mj.nd (Am Al (Am Al (Fw T.Bb.N T.Bb.cl T.Kf (Aa 0)) (Cj (v:=(.int 1)) rfl T.Ja ⟨_,rfl⟩ (λ_ _=>rfl))) (Aa 1))) (Aj (Ao 3 Mj.nd (Am Al (Fw T.Bb.N T.Bb.cl T.Rj (Aa 0)) (Aa 1))) (Aj (K5 (Bf (ZRl T) (hr.mono (by decide)) rfl T.Rc.m T.Rc.k T.Rc.b pass0 (Ac (Bf (ZPd T) (hr.mono (by decide)) rfl T.Ph.m T.Ph.k T.Ph.b pass0 (Ac (Am Al (Aa 2) (Cj (v:=(.int 5)) rfl T.ZDt ⟨_,rfl⟩ (λ_ _=>rfl))) (Ac (Fw T.Bb.N T.Bb.cl T.Xp (Aa 0)) Af))) (Ac (Ag Bc (Am Al (Fw T.Bb.N T.Bb.cl T.Vs (Aa 0)) (Aa 1)) (Aa 3)) Af))) (Ey rfl (Ce (Ax 4 Mj.nd) (Ce (Ax 5 Mj.nd) (Ce (Ax 6 Mj.nd) Fd))))) (Aj (Ao 7 Mj.nd (Cq (Xb rfl) rfl T.Sy U3 (Ac (Aa 6) (Ac (Am Al (Aa 2) (Cj (v:=(.int 4)) rfl T.ZDG ⟨_,rfl⟩ (λ_ _=>rfl))) Af)))) (Aj (Ao 8 Mj.nd (Ag Jm (Aa 6) (Aa 7))) (Aj (K5 (Eh (Ac (Aa 3) (Ac Ad (Ac (Aa 8) (Ac (Aa 4) (Ac (Aa 5) (Ac (Aa 7) Af))))))) (W8 (Fw T.Bb.N T.Bb.cl T.Oh (Aa 0)) (Aa 1))) (Aj (Fi (R3 T.Bb.N T.Bb.cl T.Og.me (ZFc T) (hr.mono (by decide)) T.Og.b pass0 (Aa 0) (Ac (Aa 1) (Ac (Ag Bc (Aa 4) (Aa 8)) Af)))) (Aq (Cu (Bw U9 (Am Al (Aa 2) (Cj (v:=(.int 6)) rfl T.T8 ⟨_,rfl⟩ (λ_ _=>rfl))) Io (nomark _)) (Aq (Fi (R3 T.Bb.N T.Bb.cl T.Ov.me (ZHt T) (hr.mono (by decide)) T.Ov.b pass0 (Aa 0) (Ac (Bf (ZHD T) (hr.mono (by decide)) rfl T.Ld.m T.Ld.k T.Ld.b pass0 (Ac (Fw T.Bb.N T.Bb.cl T.Kf (Aa 0)) (Ac (Am Al (Am Al (Aa 2) (Cj (v:=(.int 6)) rfl T.T8 ⟨_,rfl⟩ (λ_ _=>rfl))) (Cj (v:=(.int 0)) rfl T.ZC0 ⟨_,rfl⟩ (λ_ _=>rfl))) Af))) (Ac (Am Al (Am Al (Aa 2) (Cj (v:=(.int 6)) rfl T.T8 ⟨_,rfl⟩ (λ_ _=>rfl))) (Cj (v:=(.int 1)) rfl T.ZA1 ⟨_,rfl⟩ (λ_ _=>rfl))) (Ac (Aa 5) Af)))))) Dg)))))))))
theorem ZHd (T:Txt K mg):FnO P w K mg base 1 "passed" ZBt Pj:=by
 refine Ci T.Kp.F Z6 λcdv A outer s H E hr=> ?_
 exact (Aj (Yw 2 rfl Z6.nd (Dt (dn:=(Aw ZAN).names) (N0:=ZAt) (N:= ["row","take"]) (nt:=2) (caps:= [])) (ZBV rfl T.W6 (Ac (Aa 0) (Ac (Aa 1) Af))) (λC s₀ H₀ ex=>(Ey rfl (Ce (Ax 0 (show (["row","take"]:List Str).Nodup by decide +kernel)) (Ce (Ax 1 (show (["row","take"]:List Str).Nodup by decide +kernel)) Fd)))) (N6 (Gm (Cr (by decide)) (Gm (Cr (by decide)) Ms))) (λC s₀ H₀ ex=>Eb) (λC s₀ H₀ ex=>(Ag Jm (Am Al (Aa 0) (Cj (v:=(.int 1)) rfl T.ZCQ ⟨_,rfl⟩ (λ_ _=>rfl))) (Aa 1)))) (Aj (Eu PassesOwn.never rfl (Ur rfl T.Qs (Ac (Aa 0) Af)) (Ey rfl (Ce (Ax 4 Z6.nd) (Ce (Ax 3 Z6.nd) Fd))) (Aq (Cu (Bw U9 (Am Al (Aa 3) (Cj (v:=(.int 0)) rfl T.Rw ⟨_,rfl⟩ (λ_ _=>rfl))) Io (nomark _)) (Aq (V9 (Aa 2) (Am Al (Aa 3) (Cj (v:=(.int 0)) rfl T.Rw ⟨_,rfl⟩ (λ_ _=>rfl))) (Am Al (Aa 2) (Aa 4)) V4)) Dg))) (Aq (Bv (Aa 2)))))
theorem ZE3 (T:Txt K mg):FnO P w K mg base 3 "down_in_reach" ZCy Rz:=by
 refine Ci T.Lq.F ZEK λcdv A outer s H E hr=> ?_
 exact (Aj (Ao 2 ZEK.nd (Am Al (Aa 0) (Cj (v:=(.int 1)) rfl T.Ja ⟨_,rfl⟩ (λ_ _=>rfl)))) (Aj (Ao 3 ZEK.nd (Bf (ZH0 T) (hr.mono (by decide)) rfl T.Kq.m T.Kq.k T.Kq.b pass0 (Ac (Aa 0) (Ac (Aa 1) Af)))) (Aj (Cu (Jk (Jy (Bw o_is (Aa 3) Io (nomark _)) (Nr (Bw Kw (Am Al (Am Al (Aa 2) (Aa 1)) (Cj (v:=(.int 3)) rfl T.Zb ⟨_,rfl⟩ (λ_ _=>rfl))) Ad (nomark _))))) (Aq (Bv Io)) Dg) (Aj (Cu (Jk (Jy (Bw (Dp hr.units) (Am Al (Am Al (Aa 2) (Aa 1)) (Cj (v:=(.int 0)) rfl T.Q7 ⟨_,rfl⟩ (λ_ _=>rfl))) Ea (nomark _)) (Nr (Bw (Dp hr.units) (Am Al (Am Al (Aa 2) (Aa 3)) (Cj (v:=(.int 0)) rfl T.Q7 ⟨_,rfl⟩ (λ_ _=>rfl))) Ea (nomark _))))) (Aq (Bv Io)) Dg) (Aq (Bv (Aa 3)))))))
theorem ZQf (T:Txt K mg):FnO P w K mg base 4 "reach_rows" ZAr Wm:=by
 refine Ci T.Ro.F Rh λcdv A outer s H E hr=> ?_
 exact (Aj (Ao 3 Rh.nd (Fv (Fb Af))) (Aj (Eu PassesOwn.never rfl (Ds (Aa 1)) (Ax 4 Rh.nd) (Aj (Ao 5 Rh.nd (Am Al (Am Al (Aa 0) (Cj (v:=(.int 1)) rfl T.Ja ⟨_,rfl⟩ (λ_ _=>rfl))) (Aa 4))) (Aj (Ao 6 Rh.nd (Bf (ZE3 T) (hr.mono (by decide)) rfl T.Lq.m T.Lq.k T.Lq.b pass0 (Ac (Aa 0) (Ac (Aa 4) Af)))) (Aj (Ao 7 Rh.nd (ZL1 (Bw o_is (Aa 6) Io (nomark _)) Io (Hx PySem.F.slot_list_index PySem.F.type_list_index ZML (Aa 1) (Ac (Aa 6) Af)))) (Aq (Cu (Bw (Dp hr.units) (Am Al (Aa 5) (Cj (v:=(.int 0)) rfl T.Q7 ⟨_,rfl⟩ (λ_ _=>rfl))) Ea (nomark _)) (Aq (Fi (Hx PySem.F.slot_list_append PySem.F.type_list_append Ii (Aa 3) (Ac (Eh (Ac (Aa 7) (Ac (Am Al (Aa 2) (Aa 4)) (Ac (Am Al (Aa 5) (Cj (v:=(.int 4)) rfl T.ZBC ⟨_,rfl⟩ (λ_ _=>rfl))) (Ac (Am Al (Aa 5) (Cj (v:=(.int 5)) rfl T.ZEM ⟨_,rfl⟩ (λ_ _=>rfl))) Af))))) Af)))) (Aq (Fi (Hx PySem.F.slot_list_append PySem.F.type_list_append Ii (Aa 3) (Ac (Eh (Ac (Aa 7) (Ac (Am Al (Aa 2) (Aa 4)) (Ac Ad (Ac Ad Af))))) Af)))))))))) (Aq (Bv (Aa 3)))))
theorem ZPA (T:Txt K mg):FnO P w K mg base 1 "served" ZCW Xk:=by
 refine Ci T.Rp.F ZEu λcdv A outer s H E hr=> ?_
 exact (Aj (Ao 1 ZEu.nd (Ba (Cq ZOJ rfl T.ZMj ZNF (Ac (Ba (Ed rfl (Dt (dn:=(Aw Su).names) (N0:=Zy) (N:= ["number","row"]) (nt:=2) (caps:= [])) (Ur rfl T.Qs (Ac (Aa 0) Af)) (λC s₀ H₀ ex=>(Ey rfl (Ce (Ax 0 (show (["number","row"]:List Str).Nodup by decide +kernel)) (Ce (Ax 1 (show (["number","row"]:List Str).Nodup by decide +kernel)) Fd)))) (N6 (Gm (Cr (by decide)) (Gm (Cr (by decide)) Ms))) (λC s₀ H₀ ex=>Eb) (λC s₀ H₀ ex=>(Eh (Ac (Am Al (Aa 1) (Cj (v:=(.int 3)) rfl T.ZAW ⟨_,rfl⟩ (λ_ _=>rfl))) (Ac (Aa 0) Af)))))) Af)))) (Aq (Bv (Ed rfl (Dt (dn:=(Aw Su).names) (N0:=Zy) (N:= ["rank","number"]) (nt:=2) (caps:= [])) (Ds (Aa 1)) (λC s₀ H₀ ex=>(Ey rfl (Ce (Ax 0 (show (["rank","number"]:List Str).Nodup by decide +kernel)) (Ce (Ax 1 (show (["rank","number"]:List Str).Nodup by decide +kernel)) Fd)))) (N6 (Gm (Cr (by decide)) (Gm (Cr (by decide)) Ms))) (λC s₀ H₀ ex=>Eb) (λC s₀ H₀ ex=>(Aa 1))))))
theorem ZRf (T:Txt K mg):FnO P w K mg base 1 "way_down" ZBm Ve:=by
 refine Ci T.Rg.F Wg λcdv A outer s H E hr=> ?_
 exact (Aj (Ao 2 Wg.nd (Fv (Fb (Ac (Aa 1) Af)))) (Aj (Ao 3 Wg.nd (Am Al (Am Al (Aa 0) (Aa 1)) (Cj (v:=(.int 0)) rfl T.Rw ⟨_,rfl⟩ (λ_ _=>rfl)))) (Aj (ZJ5 fuel PassesOwn.never (Bw U9 (Aa 3) Io (nomark _)) (Aj (Fi (Hx PySem.F.slot_list_append PySem.F.type_list_append Ii (Aa 2) (Ac (Aa 3) Af))) (Aq (Ao 3 Wg.nd (Am Al (Am Al (Aa 0) (Aa 3)) (Cj (v:=(.int 0)) rfl T.Rw ⟨_,rfl⟩ (λ_ _=>rfl))))))) (Aq (Bv (Aa 2))))))
theorem ZNP (T:Txt K mg):FnO P w K mg base 2 "shares" ZEF ZAU:=by
 refine Ci T.Rm.F O9 λcdv A outer s H E hr=> ?_
 exact (Aj (Ao 1 O9.nd (Fv (Ag ZHu (Fb (Ac Ad Af)) (Cq Jt rfl T.Jg Jj (Ac (Aa 0) Af))))) (Aj (Ao 2 O9.nd (Fv (Bf (ZHd T) (hr.mono (by decide)) rfl T.Kp.m T.Kp.k T.Kp.b pass0 (Ac (Aa 0) (Ac (Aa 1) Af))))) (Aj (Eu PassesOwn.never rfl (Ds (Ba (Bf (ZPA T) (hr.mono (by decide)) rfl T.Rp.m T.Rp.k T.Rp.b pass0 (Ac (Aa 0) Af)))) (Ax 3 O9.nd) (Aj (Ao 4 O9.nd (Ba (Bf (ZRf T) (hr.mono (by decide)) rfl T.Rg.m T.Rg.k T.Rg.b pass0 (Ac (Aa 0) (Ac (Aa 3) Af))))) (Aj (Ao 5 O9.nd (Cq (Xb rfl) rfl T.Sy U3 (Ac (Am Al (Am Al (Aa 0) (Aa 3)) (Cj (v:=(.int 2)) rfl T.ZDz ⟨_,rfl⟩ (λ_ _=>rfl))) (Ac (Cq (ZLk rfl) rfl T.Sy U3 (Ac (Ba (Ed rfl (Dt (dn:=(Aw Zj).names) (N0:=ZC8) (N:= ["below","passing"]) (nt:=1) (caps:= [2])) (Ds (Aa 4)) (λC s₀ H₀ ex=>(Ax 0 (show (["below","passing"]:List Str).Nodup by decide +kernel))) (Cr (by decide)) (λC s₀ H₀ ex=>Eb) (λC s₀ H₀ ex=>(Am Al (Aa 1) (Aa 0))))) Af)) Af)))) (Aj (K5 (Aa 5) (W8 (Aa 1) (Aa 3))) (Aq (Eu PassesOwn.never rfl (Ds (Aa 4)) (Ax 6 O9.nd) (Aq (V9 (Aa 2) (Aa 6) (Aa 5) ZP2)))))))) (Aq (Bv (Aa 1))))))
theorem ZOM (T:Txt K mg):MtO P w K mg base 5 "Course" "go_reach" ZAf W7:=by
 refine Ci T.Sw.F Qu λcdv A outer s H E hr=> ?_
 exact (Aj (Ao 2 Qu.nd (Ba (Bf (ZQf T) (hr.mono (by decide)) rfl T.Ro.m T.Ro.k T.Ro.b pass0 (Ac (Fw T.Bb.N T.Bb.cl T.Kf (Aa 0)) (Ac (Aa 1) (Ac (Fw T.Bb.N T.Bb.cl T.Rj (Aa 0)) Af)))))) (Aj (Ao 3 Qu.nd (Ba (Bf (ZNP T) (hr.mono (by decide)) rfl T.Rm.m T.Rm.k T.Rm.b pass0 (Ac (Aa 2) Af)))) (Aj (Eu PassesOwn.never rfl (ZLM rfl T.W6 (Ac (Aa 1) (Ac (Aa 3) (Ac (Ba (Bf (ZHd T) (hr.mono (by decide)) rfl T.Kp.m T.Kp.k T.Kp.b pass0 (Ac (Aa 2) (Ac (Aa 3) Af)))) Af)))) (Ey rfl (Ce (Ax 4 Qu.nd) (Ce (Ax 5 Qu.nd) (Ce (Ax 6 Qu.nd) Fd)))) (Aj (K5 (Eh (Ac (Ag Bc (Aa 5) (Aa 6)) (Ac (Aa 5) (Ac Ad (Ac (Aa 6) (Ac Ad (Ac Ad Af))))))) (W8 (Fw T.Bb.N T.Bb.cl T.Oh (Aa 0)) (Aa 4))) (Aq (Cu (Bw (Dp hr.units) (Aa 4) (Am Al (Aa 1) (ZDi ZDS Ad)) (nomark _)) (Aq (Fi (R3 T.Bb.N T.Bb.cl T.Og.me (ZFc T) (hr.mono (by decide)) T.Og.b pass0 (Aa 0) (Ac (Aa 4) (Ac (Aa 6) Af))))) Dg)))) (Aq (Fi (Hx PySem.F.slot_list_append PySem.F.type_list_append Ii (Fw T.Bb.N T.Bb.cl T.Wx (Aa 0)) (Ac (Fv (Eh (Ac (Aa 1) (Ac (Aa 2) Af)))) Af)))))))
theorem ZPB (T:Txt K mg):FnO P w K mg base 4 "lasts_of_reaches" ZEI Zh:=by
 refine Ci T.Rx.F Wu λcdv A outer s H E hr=> ?_
 exact (Aj (Ao 1 Wu.nd (Fv (ZQT rfl rfl T.Ub rfl T.Hw (Ac (Cq Jt rfl T.Jg Jj (Ac (Am Al (Aa 0) (Cj (v:=(.int 1)) rfl T.Ja ⟨_,rfl⟩ (λ_ _=>rfl))) Af)) Af)))) (Aj (Eu PassesOwn.never rfl (ZQ1 rfl T.Hw (Ac (Ag Jm (Cq Jt rfl T.Jg Jj (Ac (Am Al (Aa 0) (Cj (v:=(.int 1)) rfl T.Ja ⟨_,rfl⟩ (λ_ _=>rfl))) Af)) Ad) (Ac (ZDi ZDS Ad) (Ac (ZDi ZDS Ad) Af)))) (Ax 2 Wu.nd) (Aj (Ao 3 Wu.nd (Bf (ZE3 T) (hr.mono (by decide)) rfl T.Lq.m T.Lq.k T.Lq.b pass0 (Ac (Aa 0) (Ac (Aa 2) Af)))) (Aq (Cu (Bw U9 (Aa 3) Io (nomark _)) (Aq (K5 (Am Al (Aa 1) (Aa 3)) (W8 (Aa 1) (Aa 2)))) Dg)))) (Aq (Bv (Aa 1)))))
theorem ZOg (T:Txt K mg):MtO P w K mg base 6 "Course" "go" ZA4 Yk:=by
 refine Ci T.T9.F Zr λcdv A outer s H E hr=> ?_
 exact (Aj (Ao 1 Zr.nd (Ba (Bf (ZPB T) (hr.mono (by decide)) rfl T.Rx.m T.Rx.k T.Rx.b pass0 (Ac (Fw T.Bb.N T.Bb.cl T.Kf (Aa 0)) Af)))) (Aq (Eu PassesOwn.never rfl (Ur rfl T.Qs (Ac (Aa 1) Af)) (Ey rfl (Ce (Ax 2 Zr.nd) (Ce (Ax 3 Zr.nd) Fd))) (Aq (Cu (Bw (Dp hr.units) (Am Al (Am Al (Am Al (Fw T.Bb.N T.Bb.cl T.Kf (Aa 0)) (Cj (v:=(.int 1)) rfl T.Ja ⟨_,rfl⟩ (λ_ _=>rfl))) (Aa 2)) (Cj (v:=(.int 0)) rfl T.Q7 ⟨_,rfl⟩ (λ_ _=>rfl))) Ea (nomark _)) (Aq (Fi (R3 T.Bb.N T.Bb.cl T.Uk.me (ZKQ T) (hr.mono (by decide)) T.Uk.b pass0 (Aa 0) (Ac (Aa 2) Af)))) (Aq (Cu (Bw (Dp hr.units) (Aa 3) (Aa 2) (nomark _)) (Aq (Fi (R3 T.Bb.N T.Bb.cl T.Sw.me (ZOM T) (hr.mono (by decide)) T.Sw.b pass0 (Aa 0) (Ac (Ba (Ed rfl (Dt (dn:=(Aw Vt).names) (N0:=ZCE) (N:= ["member","end","number"]) (nt:=2) (caps:= [2])) (Ur rfl T.Qs (Ac (Aa 1) Af)) (λC s₀ H₀ ex=>(Ey rfl (Ce (Ax 0 (show (["member","end","number"]:List Str).Nodup by decide +kernel)) (Ce (Ax 1 (show (["member","end","number"]:List Str).Nodup by decide +kernel)) Fd)))) (N6 (Gm (Cr (by decide)) (Gm (Cr (by decide)) Ms))) (λC s₀ H₀ ex=>(Xo (Bw (Dp hr.units) (Aa 1) (Aa 2) (nomark _)))) (λC s₀ H₀ ex=>(Aa 0)))) Af)))) Dg)))))))
theorem ZRg (T:Txt K mg):MtO P w K mg base 1 "Course" "state_behind" ZCs Yy:=by
 refine Ci T.Sv.F ZLP λcdv A outer s H E hr=> ?_
 exact (Aq (Bv (Eh (Ac (Gj Je rfl T.Iz J6 (Ac (Ba (Ed rfl (Dt (dn:=(Aw Ue).names) (N0:=Yg) (N:= ["row"]) (nt:=1) (caps:= [])) (Ds (Fw T.Bb.N T.Bb.cl T.Oh (Aa 0))) (λC s₀ H₀ ex=>(Ax 0 (show (["row"]:List Str).Nodup by decide +kernel))) (Cr (by decide)) (λC s₀ H₀ ex=>Eb) (λC s₀ H₀ ex=>(Am Al (Aa 0) (Cj (v:=(.int 5)) rfl T.ZBd ⟨_,rfl⟩ (λ_ _=>rfl)))))) Af)) (Ac (Gj Je rfl T.Iz J6 (Ac (Ba (Ed rfl (Dt (dn:=(Aw Ue).names) (N0:=Yg) (N:= ["ahead"]) (nt:=1) (caps:= [])) (Ds (Fw T.Bb.N T.Bb.cl T.Uq (Aa 0))) (λC s₀ H₀ ex=>(Ax 0 (show (["ahead"]:List Str).Nodup by decide +kernel))) (Cr (by decide)) (λC s₀ H₀ ex=>Eb) (λC s₀ H₀ ex=>(Gj Je rfl T.Iz J6 (Ac (Aa 0) Af))))) Af)) Af)))))
theorem ZMs (T:Txt K mg):FnO P w K mg base 7 "turn" ZBa Wh:=by
 refine Ci T.Pu.F ZEt λcdv A outer s H E hr=> ?_
 exact (Aj (Ao 4 ZEt.nd (ZQ0 T.Bb.N T.Bb.mK (ZMD T) (hr.mono (by decide)) rfl T.Bb.g T.Uv.b pass0 (Ac (Aa 0) (Ac (Aa 1) (Ac (Aa 2) (Ac (Aa 3) Af)))))) (Aj (Fi (ZGn T.Bb.N T.Bb.cl T.T9.me (ZOg T) (hr.mono (by decide)) T.T9.b pass0 (Aa 4))) (Aq (Bv (Eh (Ac (Gj Je rfl T.Iz J6 (Ac (Fw T.Bb.N T.Bb.cl T.Oh (Aa 4)) Af)) (Ac (ZGn T.Bb.N T.Bb.cl T.Sv.me (ZRg T) (hr.mono (by decide)) T.Sv.b pass0 (Aa 4)) Af)))))))
theorem ZBY (T:Txt K mg):FnO P w K mg base 8 "run" ZDZ Pz:=by
 refine Ci T.Jc.F R4 λcdv A outer s H E hr=> ?_
 exact (Aj (Ao 4 R4.nd (Fv (Fb Af))) (Aj (Eu PassesOwn.never rfl (ZMI rfl T.Qs (Ac (Aa 3) Af) (Aa 2)) (Ey rfl (Ce (Ax 5 R4.nd) (Ce (Ax 6 R4.nd) Fd))) (Aj (K5 (Bf (ZMs T) (hr.mono (by decide)) rfl T.Pu.m T.Pu.k T.Pu.b pass0 (Ac (Aa 0) (Ac (Aa 1) (Ac (Aa 5) (Ac (Aa 6) Af))))) (Ey rfl (Ce (Ax 7 R4.nd) (Ce (Ax 1 R4.nd) Fd)))) (Aq (Fi (Hx PySem.F.slot_list_append PySem.F.type_list_append Ii (Aa 4) (Ac (Aa 7) Af)))))) (Aq (Bv (Eh (Ac (Aa 4) (Ac (Aa 1) Af)))))))
theorem Vw (T:Txt K mg):FnO P w K mg base 9 "books" ZCx Ot:=by
 refine Ci T.Hg.F ZCO λcdv A outer s H E hr=> ?_
 exact (Aj (K5 (Ba (Bf (ZBY T) (hr.mono (by decide)) rfl T.Jc.m T.Jc.k T.Jc.b pass0 (Ac (Aa 0) (Ac (Aa 1) (Ac (Aa 2) (Ac (Aa 3) Af)))))) (Ey rfl (Ce (Ax 4 ZCO.nd) (Ce (Ax 5 ZCO.nd) Fd)))) (Aq (Bv (Bf (ZLi T) (hr.mono (by decide)) rfl T.Qm.m T.Qm.k T.Qm.b pass0 (Ac (Aa 0) (Ac (Aa 1) (Ac (Aa 3) (Ac (Aa 4) (Ac (Aa 5) Af)))))))))
theorem ZOY (T:Txt K mg):FnO P w K mg base 10 "law" ZCc Oc:=by
 refine Ci T.Tc.F Ie λcdv A outer s H E hr=> ?_
 exact (Aj (Ao 1 Ie.nd (Bf (ZK6 T) (hr.mono (by decide)) rfl T.Q8.m T.Q8.k T.Q8.b pass0 (Ac (Aa 0) (Ac Ad Af)))) (Aj (Ao 2 Ie.nd (Ag Bt (Bf (Lb T) (hr.mono (by decide)) rfl T.Dl.m T.Dl.k T.Dl.b pass0 (Ac (Aa 0) (Ac Ad Af))) Ad)) (Aj (Ao 3 Ie.nd (Ba (Bf (ZRY T) (hr.mono (by decide)) rfl T.Qz.m T.Qz.k T.Qz.b pass0 (Ac (Aa 0) (Ac Ad (Ac (Cq Jt rfl T.Jg Jj (Ac (Am Al (Aa 1) Ad) Af)) Af)))))) (Aj (Ao 4 Ie.nd (Bf (ZRR T) (hr.mono (by decide)) rfl T.Ru.m T.Ru.k T.Ru.b pass0 (Ac (Aa 1) (Ac (Bf (Lb T) (hr.mono (by decide)) rfl T.Dl.m T.Dl.k T.Dl.b pass0 (Ac (Aa 0) (Ac Ad Af))) Af)))) (Aj (Ao 5 Ie.nd (Ba (Gj (Z2 rfl) rfl T.Ub U7 (Ac (Aa 3) Af)))) (Aj (Ao 6 Ie.nd (Bf (Vw T) (hr.mono (by decide)) rfl T.Hg.m T.Hg.k T.Hg.b pass0 (Ac (Aa 1) (Ac (Aa 4) (Ac (Aa 2) (Ac (Aa 5) Af)))))) (Aj (K5 (Ba (Bf (ZBY T) (hr.mono (by decide)) rfl T.Jc.m T.Jc.k T.Jc.b pass0 (Ac (Aa 1) (Ac (Aa 4) (Ac (Aa 2) (Ac (Ba (Gj (Z2 rfl) rfl T.Ub U7 (Ac (Aa 3) Af))) Af)))))) (Ey rfl (Ce (Ax 7 Ie.nd) (Ce (Ax 8 Ie.nd) Fd)))) (Aj (Cu (Jk (Jy (ZCN (Ui (Bf (ZA8 T) (hr.mono (by decide)) rfl T.Iu.m T.Iu.k T.Iu.b pass0 (Ac (Aa 6) Af)))) (Jy (Bw (M8 hr.units) (Aa 6) (Bf (ZRj T) (hr.mono (by decide)) rfl T.Qp.m T.Qp.k T.Qp.b pass0 (Ac (Aa 1) (Ac (Aa 4) (Ac (Aa 7) (Ac (Aa 3) (Ac (Aa 8) Af)))))) (nomark _)) (Nr (Bw (M8 hr.units) (Aa 5) (Aa 3) (nomark _)))))) (Aq (Bv Z7)) Dg) (Aj (Cu (Bw (M8 hr.units) (Ag Bc (Am Al (Aa 6) Ad) (Am Al (Aa 6) Ad)) (Ag Bc (Ag Bc (Am Al (Aa 6) Ad) (Am Al (Aa 6) Ad)) (Am Al (Aa 6) Ad)) (nomark _)) (Aq (Bv Z7)) Dg) (Aj (Ao 9 Ie.nd (Ag Bt (Bf (Lb T) (hr.mono (by decide)) rfl T.Dl.m T.Dl.k T.Dl.b pass0 (Ac (Aa 0) (Ac Ad Af))) (Ag Bc (Cq Jt rfl T.Jg Jj (Ac (Aa 3) Af)) Ad))) (Aj (Ao 10 Ie.nd (Am Al (Ba (Bf (ZBY T) (hr.mono (by decide)) rfl T.Jc.m T.Jc.k T.Jc.b pass0 (Ac (Aa 1) (Ac (Aa 4) (Ac (Aa 2) (Ac (Ba (Fl (Aa 3) Ih (Dy (Aa 9)))) Af)))))) Ad)) (Aj (Ao 11 Ie.nd (Bf (Vw T) (hr.mono (by decide)) rfl T.Hg.m T.Hg.k T.Hg.b pass0 (Ac (Aa 1) (Ac (Aa 4) (Ac (Aa 2) (Ac (Ba (Fl (Aa 3) Ih (Dy (Aa 9)))) Af)))))) (Aj (Ao 12 Ie.nd (Bf (Vw T) (hr.mono (by decide)) rfl T.Hg.m T.Hg.k T.Hg.b pass0 (Ac (Aa 1) (Ac (Aa 10) (Ac (Ag Bc (Aa 2) (Aa 9)) (Ac (Ba (Fl (Aa 3) (Dy (Aa 9)) Ih)) Af)))))) (Aj (Cu (Jk (Jy (ZCN (Ui (Bf (ZA8 T) (hr.mono (by decide)) rfl T.Iu.m T.Iu.k T.Iu.b pass0 (Ac (Aa 11) Af)))) (Jy (ZCN (Ui (Bf (ZA8 T) (hr.mono (by decide)) rfl T.Iu.m T.Iu.k T.Iu.b pass0 (Ac (Aa 12) Af)))) (Jy (Bw (M8 hr.units) (Am Al (Aa 11) Ad) (Am Al (Aa 6) Ad) (nomark _)) (Nr (Bw (M8 hr.units) (Am Al (Aa 12) Ad) (Am Al (Aa 6) Ad) (nomark _))))))) (Aq (Bv Z7)) Dg) (Aj (Cu (Jk (Jy (Bw (M8 hr.units) (Am Al (Aa 11) Ad) (Bf (Zf T) (hr.mono (by decide)) rfl T.Ht.m T.Ht.k T.Ht.b pass0 (Ac (Aa 10) Af)) (nomark _)) (Nr (Bw (M8 hr.units) (Am Al (Aa 12) Ad) (Bf (Zf T) (hr.mono (by decide)) rfl T.Ht.m T.Ht.k T.Ht.b pass0 (Ac (Aa 10) Af)) (nomark _))))) (Aq (Bv Z7)) Dg) (Aq (Bv (U4 (Nt (Dp hr.units) (Ba (Ed rfl (Dt (dn:=(Aw I8).names) (N0:=ZDf) (N:= ["_law_j","_law_one","_law_other"]) (nt:=1) (caps:= [11,12])) (ZNi rfl T.Hw (Ac Ad (Ac Ad Af))) (λC s₀ H₀ ex=>(Ax 0 (show (["_law_j","_law_one","_law_other"]:List Str).Nodup by decide +kernel))) (Cr (by decide)) (λC s₀ H₀ ex=>Eb) (λC s₀ H₀ ex=>(Ag Bc (Am Al (Aa 1) (Aa 0)) (Am Al (Aa 2) (Aa 0)))))) (Ba (Gj (Z2 rfl) rfl T.Ub U7 (Ac (Ba (Fl (Aa 6) (Dy Ad) (Dy Ad))) Af))) (nomark _)) (Zq (Nt (Dp hr.units) (Bf (Vw T) (hr.mono (by decide)) rfl T.Hg.m T.Hg.k T.Hg.b pass0 (Ac (Aa 1) (Ac (Aa 4) (Ac (Aa 2) (Ac (Aa 5) Af))))) (Aa 6) (nomark _)))))))))))))))))))))
end
noncomputable def asks:List Ask:= [.cl "Course",.fn "_law_cell_at" ZDh,.fn "_law_sum" ZAD,.fn "_law_due" ZAQ,.fn "_law_whole" ZDO,.fn "_law_five" Wq,.fn "_law_number" ZBs,.fn "_law_stream" ZB3,.fn "_law_floods" Z3,.fn "_law_free_names" Um,.fn "_law_names" Nz,.fn "_law_more" ZBW,.fn "_law_pumped" Xf,.fn "_law_stairs" ZDI,.fn "_law_rule" ZC1,.fn "_law_place" ZCG,.fn "_law_house" Zc,.fn "_law_state" Vo,.fn "gone" Vx,.fn "water" Y8,.fn "books_of_pages" Qk,.mt "Course" "__init__" "Course.__init__" Uz,.mt "Course" "send" "Course.send" ZDQ,.fn "number_of" ZB9,.fn "down_of" ZAZ,.mt "Course" "send_down" "Course.send_down" ZD1,.fn "opened" ZBc,.fn "stairs_at" ZBw,.mt "Course" "go_basin" "Course.go_basin" ZBB,.fn "passed" ZAN,.fn "down_in_reach" ZAj,.fn "reach_rows" ZBb,.fn "served" Su,.fn "way_down" ZCZ,.fn "shares" Zj,.mt "Course" "go_reach" "Course.go_reach" ZDD,.fn "lasts_of_reaches" ZDX,.mt "Course" "go" "Course.go" Vt,.mt "Course" "state_behind" "Course.state_behind" Ue,.fn "turn" ZBP,.fn "run" ZDk,.fn "books" ZB8,.fn "law" I8,.no "Course" "came",.no "Course" "coming",.no "Course" "house",.no "Course" "levels",.no "Course" "page",.no "Course" "reaches",.no "Course" "year_turn",.z "all",.z "bool",.z "enumerate",.z "int",.z "isinstance",.z "len",.z "list",.z "max",.z "min",.z "range",.z "sorted",.z "sum",.z "tuple",.z "zip",.gi "BRIM" 4,.gi "DELAY" 3,.gi "DOWN" 2,.gi "KIND" 0,.gi "LET" 3,.gi "LIES" 5,.gi "NAME" 1,.gi "NEED" 4,.gi "PLACES" 1,.gi "PUMP" 6,.gi "PUMP_DELAY" 1,.gi "PUMP_TO" 0,.gi "RANK" 5,.gi "ROW_DOWN" 0,.gi "ROW_NEED" 2,.gi "ROW_RANK" 3,.gi "ROW_WATER" 1,.gi "RULE" 5,.gs "SEA" "sea",.gi "SPILLED" 2,.gi "TOOK" 1,.gi "YEAR" 0]
theorem all_mk {l:PySem.W.OpenLaw} {w:xA} {K:PySem.W.Frag} {h:Heap} {mg:Str->Option x9} {fa:xW} (X:K.In h) (G:h.Ns vX mg) (hfa:mg "law"=some (.ref fa)) (S:AllSaid K asks):
  ∃fd:xq,(∀(s:xk) (v:x9),BindsTo s fd ⟨[v],[]⟩ [("_law_script",v)])/\∀base:Heap,K.In base->base.Ns vX mg->FnOk l.prog w K mg base CX0 10 fa fd ["_law_script"] (lF K Oc):=by
 obtain ⟨Bb,Dl,Ht,Qp,Qt,Iu,Ek,Hk,Qz,Ql,Rn,Rb,Qj,Pg,Qc,Rr,Q8,Ru,Rt,Lf,Qm,Uv,Ov,Ld,Kq,Og,Rc,Ph,Uk,Kp,Lq,Ro,Rp,Rg,Rm,Sw,Rx,T9,Sv,Pu,Jc,Hg,Tc,Rj,Uq,Kf,Vs,Oh,Wx,Xp,ZR7,ZR8,ZR9,ZSB,ZSC,ZSD,ZSE,ZSF,ZSG,ZSH,ZSI,ZSJ,ZSK,ZSL,ZDG,Zb,Xl,Q7,ZAb,ZBd,ZDU,ZBC,Ja,T8,ZA1,ZC0,ZEM,Rw,ZDz,ZAW,ZCQ,ZDt,Zz,ZA5,ZBK,ZBx,_⟩:=S
 have T:Txt K mg:=⟨Df X G Dl (λ_ _ _ _ _ _ us hl=>match us,hl with | [_,_],_=>rfl),
  Df X G Ht (λ_ _ _ _ _ _ us hl=>match us,hl with | [_],_=>rfl),
  Df X G Qp (λ_ _ _ _ _ _ us hl=>match us,hl with | [_,_,_,_,_],_=>rfl),
  Df X G Qt (λ_ _ _ _ _ _ us hl=>match us,hl with | [_],_=>rfl),
  Df X G Iu (λ_ _ _ _ _ _ us hl=>match us,hl with | [_],_=>rfl),
  Df X G Ek (λ_ _ _ _ _ _ us hl=>match us,hl with | [_,_],_=>rfl),
  Df X G Hk (λ_ _ _ _ _ _ us hl=>match us,hl with | [_,_,_],_=>rfl),
  Df X G Qz (λ_ _ _ _ _ _ us hl=>match us,hl with | [_,_,_],_=>rfl),
  Df X G Ql (λ_ _ _ _ _ _ us hl=>match us,hl with | [_],_=>rfl),
  Df X G Rn (λ_ _ _ _ _ _ us hl=>match us,hl with | [_],_=>rfl),
  Df X G Rb (λ_ _ _ _ _ _ us hl=>match us,hl with | [_],_=>rfl),
  Df X G Qj (λ_ _ _ _ _ _ us hl=>match us,hl with | [_],_=>rfl),
  Df X G Pg (λ_ _ _ _ _ _ us hl=>match us,hl with | [_,_,_],_=>rfl),
  Df X G Qc (λ_ _ _ _ _ _ us hl=>match us,hl with | [_,_,_,_],_=>rfl),
  Df X G Rr (λ_ _ _ _ _ _ us hl=>match us,hl with | [_,_,_,_,_],_=>rfl),
  Df X G Q8 (λ_ _ _ _ _ _ us hl=>match us,hl with | [_,_],_=>rfl),
  Df X G Ru (λ_ _ _ _ _ _ us hl=>match us,hl with | [_,_],_=>rfl),
  Df X G Rt (λ_ _ _ _ _ _ us hl=>match us,hl with | [_,_],_=>rfl),
  Df X G Lf (λ_ _ _ _ _ _ us hl=>match us,hl with | [_],_=>rfl),
  Df X G Qm (λ_ _ _ _ _ _ us hl=>match us,hl with | [_,_,_,_,_],_=>rfl),
  Ny Uv (λ_ _ _ _ _ _ us hl=>match us,hl with | [_,_,_,_,_],_=>rfl),
  Ny Ov (λ_ _ _ _ _ _ us hl=>match us,hl with | [_,_,_,_],_=>rfl),
  Df X G Ld (λ_ _ _ _ _ _ us hl=>match us,hl with | [_,_],_=>rfl),
  Df X G Kq (λ_ _ _ _ _ _ us hl=>match us,hl with | [_,_],_=>rfl),
  Ny Og (λ_ _ _ _ _ _ us hl=>match us,hl with | [_,_,_],_=>rfl),
  Df X G Rc (λ_ _ _ _ _ _ us hl=>match us,hl with | [_,_],_=>rfl),
  Df X G Ph (λ_ _ _ _ _ _ us hl=>match us,hl with | [_,_],_=>rfl),
  Ny Uk (λ_ _ _ _ _ _ us hl=>match us,hl with | [_,_],_=>rfl),
  Df X G Kp (λ_ _ _ _ _ _ us hl=>match us,hl with | [_,_],_=>rfl),
  Df X G Lq (λ_ _ _ _ _ _ us hl=>match us,hl with | [_,_],_=>rfl),
  Df X G Ro (λ_ _ _ _ _ _ us hl=>match us,hl with | [_,_,_],_=>rfl),
  Df X G Rp (λ_ _ _ _ _ _ us hl=>match us,hl with | [_],_=>rfl),
  Df X G Rg (λ_ _ _ _ _ _ us hl=>match us,hl with | [_,_],_=>rfl),
  Df X G Rm (λ_ _ _ _ _ _ us hl=>match us,hl with | [_],_=>rfl),
  Ny Sw (λ_ _ _ _ _ _ us hl=>match us,hl with | [_,_],_=>rfl),
  Df X G Rx (λ_ _ _ _ _ _ us hl=>match us,hl with | [_],_=>rfl),
  Ny T9 (λ_ _ _ _ _ _ us hl=>match us,hl with | [_],_=>rfl),
  Ny Sv (λ_ _ _ _ _ _ us hl=>match us,hl with | [_],_=>rfl),
  Df X G Pu (λ_ _ _ _ _ _ us hl=>match us,hl with | [_,_,_,_],_=>rfl),
  Df X G Jc (λ_ _ _ _ _ _ us hl=>match us,hl with | [_,_,_,_],_=>rfl),
  Df X G Hg (λ_ _ _ _ _ _ us hl=>match us,hl with | [_,_,_,_],_=>rfl),
  Df X G Tc (λ_ _ _ _ _ _ us hl=>match us,hl with | [_],_=>rfl),
  ZLl X G Bb Uv,
  Rj,
  Uq,
  Kf,
  Vs,
  Oh,
  Wx,
  Xp,
  PySem.W.mg_none_of X G ZR7,
  PySem.W.mg_none_of X G ZR8,
  PySem.W.mg_none_of X G ZR9,
  PySem.W.mg_none_of X G ZSB,
  PySem.W.mg_none_of X G ZSC,
  PySem.W.mg_none_of X G ZSD,
  PySem.W.mg_none_of X G ZSE,
  PySem.W.mg_none_of X G ZSF,
  PySem.W.mg_none_of X G ZSG,
  PySem.W.mg_none_of X G ZSH,
  PySem.W.mg_none_of X G ZSI,
  PySem.W.mg_none_of X G ZSJ,
  PySem.W.mg_none_of X G ZSK,
  PySem.W.mg_none_of X G ZSL,
  PySem.W.mg_of X G ZDG,
  PySem.W.mg_of X G Zb,
  PySem.W.mg_of X G Xl,
  PySem.W.mg_of X G Q7,
  PySem.W.mg_of X G ZAb,
  PySem.W.mg_of X G ZBd,
  PySem.W.mg_of X G ZDU,
  PySem.W.mg_of X G ZBC,
  PySem.W.mg_of X G Ja,
  PySem.W.mg_of X G T8,
  PySem.W.mg_of X G ZA1,
  PySem.W.mg_of X G ZC0,
  PySem.W.mg_of X G ZEM,
  PySem.W.mg_of X G Rw,
  PySem.W.mg_of X G ZDz,
  PySem.W.mg_of X G ZAW,
  PySem.W.mg_of X G ZCQ,
  PySem.W.mg_of X G ZDt,
  PySem.W.mg_of X G Zz,
  PySem.W.mg_of X G ZA5,
  PySem.W.mg_of X G ZBK,
  PySem.W.mg_of X G ZBx⟩
 have eL:mg "law"=some (.ref (Bo K "law")):=PySem.W.mg_of X G Tc.1;obtain rfl:fa=Bo K "law":=by rw [hfa] at eL;cases eL;rfl
 exact ⟨_,λs v=>ZLR (S9 Tc.2),λbase _ _=>ZOY T⟩
theorem walk {l:PySem.W.OpenLaw} {q:xj} {loose:List Str} {XP:(Str->Option x9)->Heap->Prop} {YP:xA->Heap->Prop} {d:DefRec} {K:xA->PySem.W.Frag} (hn:l.most=some 63) (hdf:d.params.defaults= []) (HH:Holds)
  (hY:∀(w:xA) (h:Heap),YP w h->(K w).In h)
  (F:∀(w:xA) (mg:Str->Option x9) (fa:xW) (h:Heap),(K w).In h->h.Ns vX mg->mg d.name=some (.ref fa)->
   ∃fd:xq,(∀(s:xk) (u:x9),BindsTo s fd ⟨[u],[]⟩ [("_law_script",u)])/\∀base:Heap,(K w).In base->base.Ns vX mg->FnOk l.prog w (K w) mg base CX0 10 fa fd ["_law_script"] (lF (K w) Oc)):
  PySem.W.WalkO q loose XP YP l.row.toRowW d [] (λf vs=>PySem.call f vs):=
 ZNS (n:=63) (k:=10) (x:="_law_script") (CX:=λ_=>CX0) (sp:=λw=>lF (K w) Oc) hn (by decide) hdf ⟨rfl,by decide,by decide⟩ hY F
  (λw H a ns hl hbt hO hS=>by
   obtain ⟨G,hG⟩:=HH ns hl hbt;refine ⟨⟨K w,0,λ_=>0,H⟩,[],[.fl (ns.map D.int)],rfl,rfl,⟨rfl,λi j h=>absurd h (xQ _),λi o h=>by simp at h,λi h=>absurd h (xQ _)⟩,Reps.cons ⟨a,ns.map V.int,rfl,?_,Reps.ints ns⟩ Reps.nil,?_⟩
   ·rcases hS with (hS | hS) | hS
    ·rcases hO a with z | ⟨o,xs,z⟩
     ·rw [z] at hS;cases hS
     ·rw [z] at hS;cases hS
    ·exact .inl hS
    ·exact .inr hS
   ·rw [hG];exact λb v _ _ r=>r) λ_ _ _ _ _ z=>z
end Law
set_option maxRecDepth 100000
namespace Law
open PySem PySem.W L2 DL
abbrev rw_:OpenLaw:=PySem.Challenge.rw_sluiceway_k43_whole_books
abbrev pw:xj:=OpenLaw.prog PySem.Challenge.rw_sluiceway_k43_whole_books
def vw:xj:=view pw (zX 67)
theorem ZP6:∀w os,(ZB5 pw w os).map (λs=>(ZAy pw w s.abs,PySem.W.Fast.tw4187177175401517315 vw [] (PySem.W.Fast.tw5923862056798008813 pw.main.body) (XtOf rw_ vw) true s.abs,ZCk asks s.abs.heap))=some (true,openGood vw [],ZCa asks):=λw os=>by kernel_rfl
theorem ZGw:∀w,(openEnds vz pw w 100000).map (λs=>(openSeen vw [] (xO pw.main.body) (XtOf rw_ vw) true s,ZCk asks s.heap))=some (openGood vw [],ZCa asks):=ZPo (by kernel_rfl) (λs=>rfl) ZP6
theorem well:rw_.wellSaid=true:=ZOe (by kernel_rfl)
theorem hdef:defOf vw rw_.row.name=some (dOf I8,[]):=by kernel_rfl
theorem hp:rw_.row.prog.theDef rw_.row.name=some ((dOf I8).params,(dOf I8).body,(dOf I8).scope):=by kernel_rfl
theorem hk:kwWritten? (dOf I8).params.kwonlyargs (dOf I8).params.kw_defaults=some []:=by kernel_rfl
theorem hok:(chainsOk vw && opensWell rw_.row.prog && (frees rw_.row.toRowW && rw_.row.within.isEmpty))=true:=by kernel_rfl
theorem hdf:(dOf I8).params.defaults= []:=by kernel_rfl
theorem hbare:rw_.row.prog.bare:=⟨rfl,rfl,rfl,rfl,rfl,by decide +kernel⟩
theorem hw:rw_.row.toRowW.promised:=by w_witness2
theorem walked:WalkO vw [] (XL vw []) (Stays rw_.prog 100000) rw_.row.toRowW (dOf I8) [] λf vs=>PySem.call f vs:=
 walk (l:=rw_) (K:=λw=>S7 (Ls pw 100000 w)) rfl hdf holds (λw h Y=>Y.in) λw mg fa h KX G hmg=>all_mk KX G (show mg "law"=_ from hmg) (ZF1 (ZRt ZGw w))
end Law
open PySem PySem.W PyProof.Rows DL
theorem PySem.Challenge.cw_sluiceway_k43_whole_books_holds : PySem.Challenge.rw_sluiceway_k43_whole_books.Holds := by
 refine holds_top (l:=Law.rw_) (q:=Law.vw) (loose:= []) (N:=100000) (see:=ZCk Law.asks) (val:=ZCa Law.asks) (d:=dOf Law.I8) ?_ ?_ ?_ ?_ ?_ ?_ ?_ ?_ ?_ ?_
 ·exact Law.well
 ·exact Law.ZGw
 ·exact Law.hdef
 ·exact Law.hp
 ·exact Law.hk
 ·rfl
 ·exact Law.hok
 ·exact Law.hbare
 ·exact Law.hw
 ·exact Law.walked
