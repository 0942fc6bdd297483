import PyProof.Rows.All
import Wide.All
import OpenK.AllK
import Wide.FinOn
import Lean
import PyProof.EqAt
import PyProof.EqKinds
import PyProof.TupleCall
import PyProof.NeKinds
import PyProof.IsInstanceH
import PyProof.SumWalkG
import PyProof.ConsumeWalk
import PyProof.IsiNone
import PyProof.WalksMore
import PyProof.PlainList
import PyProof.CompFree
import KE.KIntText
import PyProof.DictTable
import PySem.Challenge.RW_sluiceway_k52_what_look_tells
set_option Elab.async false
set_option linter.all false
set_option maxRecDepth 100000
open Option renaming some→vE,none→vF
open Bool renaming true→vG,false→vH
open List renaming range→zZ,getElem?_eq_getElem→zJ,mem_cons_of_mem→zX,replicate→zV,mem_cons_self→zW,size_toArray→zY,getElem?_map→zx,mem_cons→zw,map_cons→zk,getElem?_eq_none→zA,getD_eq_getElem?_getD→zD,getElem?_eq_some_iff→zF,getElem?_append_right→zG,mem_map→zH,getElem?_range→zL,drop_eq_getElem_cons→zM,mem_append_right→zN,length_cons→zO,drop_of_length_le→zP,getElem?_append_left→zR,replicate_succ→zS,length_map→qQ,length_append→qZ,set→qJ,filterMap_map→qX,find?_cons→qV,mem_range→qW,all_eq_true→qK,filterMap_cons→qY,filterMap_eq_map'→qz,getElem_mem→qx,map_congr_left→qk,flatten_cons→q8,getElem_of_mem→q9,ext_getElem→qA,all_cons→qB,nodup_cons→qD,range_succ_eq_map→qE,map_map→qF,getElem?_eq_none_iff→qG,mem_singleton→qI,getElem?_set_ne→qM,length_nil→qN,getElem?_set→qO,eq_nil_of_length_eq_zero→qP,lookup→qS,getElem?_replicate→qT,getElem?_set_self→qU,lookup_cons→jQ,append_nil→jX,foldl_cons→jV,pairwise_iff_getElem→jW,getElem?_take_of_lt→jY,map_eq_nil_iff→jq,getElem?_cons_succ→jz,length_set→jv,range_succ→jw,append_assoc→jy,length_singleton→j0,ext_getElem?→j1,idxOf_lt_length_of_mem→j2,length_take→j4,any_cons→j5,getLast?_eq_getElem?→j6,mem_append→j7,idxOf_cons→jA,map_nil→jC,getElem?_cons_zero→jD,drop_zero→jE,length_replicate→jF,length_drop→jG,set_append_right→jI,take_length→jL,zipIdx_cons→jM,mem_append_left→jO,nil_append→jP,forIn_cons→jR,idxOf→jT,length→xQ
open Nat renaming le_refl→zK,lt_of_lt_of_le→zq,le_trans→zB,ne_of_lt→zE,lt_irrefl→zT,lt_succ_self→zU,lt_succ_of_lt→qC,ne_of_gt→jJ,le_succ→jk,zero_le→j8,le_add_right→jN,lt_or_ge→jS,mul_le_mul→jU
open Int renaming le_refl→qq,emod_nonneg→qR,emod_lt_of_pos→jZ,mul_nonneg→j3,natCast_add→jB
open Option renaming map_eq_some_iff→zI,isSome_iff_exists→qL
open Bool renaming false_ne_true→zy,and_eq_true→zC,and_eq_true_iff→jK,false_eq_true→jx,or_eq_true→j9
open Array renaming length_toList→qw,getElem?_toList→qH
open PySem.Heap renaming get?_push_of_some→zQ,lt_size→zj,get?_push_size→z0,SameBut→qj,size_push→qy,get?_update_self→jH
open PySem renaming Addr→xZ,Around→xJ,Expr→xX,FuncData→xV,NameKind→xW,Program→xK,Scope→xY,Shared→xq,Stmt→xz,Value→xj,World→xw,assignEach→xk,attributeBase→xy,backTo→x0,backToKw→xB,behindInMarks→xC,binaryOp→xD,bootBuiltins→xE,call_isinstance→xF,checkBuiltinCall→xG,codeAny_mono→xH,compareOp→xI,importedModules→xL,isSubtype→xM,isinstance_false_int→xN,isinstance_false_list→xO,isinstance_false_none→xP,isinstance_false_str→xR,isinstance_false_tuple→xS,keywordEach→xT,letOwnedTupleGo→xU,mainGlobals→vQ,model→vZ,rawInt→vJ,sizeLine_eq→vX,sliceBounds→vV,starEach→vW,treeTable→vK,wpAny→vY,wpAny_Call_Name_kw→vq,wpAny_bind→vz,wpAny_callSpecial?_slot→vj,wpAny_call_entry→vx,wpAny_field→vv,wpAny_holding→vk,wpAny_mono→v4,wpAny_newObj_type→v5,wpAny_passesOwn→v6,wpAny_pure→v7,wpAny_setField_rec→v8,wpAny_truthy_bool→v9
open PySem.W renaming Frag→vA,boot_heap→vB,kas_rev→vC
set_option maxHeartbeats 0
noncomputable section
namespace L2
open PySem PySem.Spec PyProof.Rows
variable{us:List xj}{u:xj}{a b C:xZ}{P:xK}{w:xw}{h base:Heap}{t' i:Nat}{ch fp:List xZ}{x:Str}{e c tg:xX}{A:xJ}{E Q:xj->xq->Prop}{s:xq}{vD:List (xZ×Obj)}{K:PySem.W.Frag}{body:List xz}{f:xj->xj->Sem xj}{op:CmpOp}{kw:List (Str×xj)}{mg:Str->Option xj}{kindOf:Str->Option xW}
noncomputable abbrev Key:=Sum Int Str
def Qz:Key->xj->Bool
 |.inl k,v=>Value.isInt k v
 |.inr x,v=>Value.isStrOf x v
def keyH(w:xw):Key->Int
 |.inl k=>hashInt k
 |.inr x=>hashStr w x
theorem Lh:∀{k:Key}{v:xj},Qz k v=vG->(∃i t,k=Sum.inl i/\v=Value.int i t)∨(∃x t,k=Sum.inr x/\v=Value.str x t)
 |.inl i,v,h=>by obtain⟨t,e⟩:=Value.isInt_shape (k:=i) (v:=v) h;exact .inl ⟨i,t,rfl,e⟩
 |.inr x,v,h=>by obtain⟨t,e⟩:=Value.isStrOf_shape (x:=x) (v:=v) h;exact .inr ⟨x,t,rfl,e⟩
theorem ZLk(i:Int)(t:Tok):Qz (.inl i) (.int i t)=vG:=by simp[Qz,Value.isInt]
theorem ZMw(x:Str)(t:Tok):Qz (.inr x) (.str x t)=vG:=by simp[Qz,Value.isStrOf]
theorem ZRE(a b:Int):decide ((Sum.inl a:Key)=Sum.inl b)=(a==b):=by
 by_cases e:a=b
 ·subst e;simp
 ·have h:¬(Sum.inl a:Key)=Sum.inl b:=λq=>e (Sum.inl.inj q)
  rw[decide_eq_false h];exact(beq_eq_false_iff_ne.mpr e).symm
theorem ZOo(a b:Str):decide ((Sum.inr a:Key)=Sum.inr b)=decide (a=b):=by
 by_cases e:a=b
 ·subst e;simp
 ·have h:¬(Sum.inr a:Key)=Sum.inr b:=λq=>e (Sum.inr.inj q)
  rw[decide_eq_false h,decide_eq_false e]
theorem ZS5(a:Int)(b:Str):decide ((Sum.inl a:Key)=Sum.inr b)=vH:=decide_eq_false (λq=>nomatch q)
theorem ZSt(a:Str)(b:Int):decide ((Sum.inr a:Key)=Sum.inl b)=vH:=decide_eq_false (λq=>nomatch q)
def Ig(prog:xK)(w:xw):PySem.KeyKind prog w Key where
 is:=Qz
 hash:=keyH w
 inj:=λv a b ha hb=>by
  rcases Lh ha with⟨i,t,rfl,rfl⟩|⟨x,t,rfl,rfl⟩
  ·rcases Lh hb with⟨j,u,rfl,e⟩|⟨y,u,rfl,e⟩
   ·injection e with e1 _;rw[e1]
   ·exact nomatch e
  ·rcases Lh hb with⟨j,u,rfl,e⟩|⟨y,u,rfl,e⟩
   ·exact nomatch e
   ·injection e with e1 _;rw[e1]
 byValue:=λk v h=>by rcases Lh h with⟨i,t,rfl,rfl⟩|⟨x,t,rfl,rfl⟩<;>rfl
 pyHash:=λhv h=>by
  rcases Lh hv with⟨i,t,rfl,rfl⟩|⟨x,t,rfl,rfl⟩
  ·exact wpAny_pyHash_int h
  ·exact wpAny_pyHash_str h
 eqBool:=λhu hv h=>by
  rcases Lh hu with⟨i,t,rfl,rfl⟩|⟨x,t,rfl,rfl⟩
  ·rcases Lh hv with⟨j,u,rfl,rfl⟩|⟨y,u,rfl,rfl⟩
   ·rw[ZRE]at h;exact wpAny_eqBool_int h
   ·rw[ZS5]at h;exact SeqAt.EqAt.int_str i t y u _ _ _ _ h
  ·rcases Lh hv with⟨j,u,rfl,rfl⟩|⟨y,u,rfl,rfl⟩
   ·rw[ZSt]at h;exact SeqAt.EqAt.str_int x t j u _ _ _ _ h
   ·rw[ZOo]at h;exact wpAny_eqBool_str h
 «strs»:=λk x t v h=>by
  rcases Lh h with⟨i,u,rfl,e⟩|⟨y,u,rfl,e⟩
  ·exact nomatch e
  ·injection e with e1 _
   subst e1
   cases v<;>rfl
theorem ZOY(prog:xK)(w:xw)(i:Int)(t:Tok):(Ig prog w).is (.inl i) (.int i t)=vG:=ZLk i t
theorem ZRY(prog:xK)(w:xw)(x:Str)(t:Tok):(Ig prog w).is (.inr x) (.str x t)=vG:=ZMw x t
inductive V where
 |non|bl (b:Bool)|int (i:Int)|str (x:Str)|byt (b:Array UInt8)|flt (b:UInt64)|ref (a:xZ)|ty (n:String)
 deriving DecidableEq
variable{v y:V}{vs:List V}
def RelV:V->xj->Prop
 |.non,u=>u=Value.none
 |.bl b,u=>u=Value.bool b
 |.int i,u=>∃t,u=Value.int i t
 |.str x,u=>∃t,u=Value.str x t
 |.byt b,u=>∃t,u=Value.bytes b t
 |.flt b,u=>∃t,u=Value.float b t
 |.ref a,u=>u=Value.ref a
 |.ty n,u=>u=Value.type n
abbrev Vals:List V->List xj->Prop:=Paired RelV
theorem Vals.length{xs:List V}(r:Vals xs us):xs.length=us.length:=Paired.length r
theorem Vals.get:∀{xs:List V}{us:List xj}{i:Nat}{x:V},Vals xs us->xs[i]?=vE x->∃u,us[i]?=vE u/\RelV x u
 |_,_,_,_,.nil,e=>by simp at e
 |_,_,0,_,.cons r _,e=>by simp at e;subst e;exact⟨_,rfl,r⟩
 |_,_,i+1,x,.cons _ t,e=>by obtain⟨u,h1,h2⟩:=Vals.get (i:=i) (x:=x) t (by simpa using e);exact⟨u,by simpa using h1,h2⟩
theorem Vals.set{x:V}(r:RelV x u):∀{xs:List V}{us:List xj}(i:Nat),Vals xs us->Vals (xs.set i x) (us.set i u)
 |_,_,_,.nil=>.nil
 |_,_,0,.cons _ t=>.cons r t
 |_,_,i+1,.cons q t=>.cons q (Vals.set r i t)
theorem Vals.append:∀{xs ys:List V}{us ws:List xj},Vals xs us->Vals ys ws->Vals (xs++ys) (us++ws)
 |_,_,_,_,.nil,s=>s
 |_,_,_,_,.cons r t,s=>.cons r (Vals.append t s)
theorem Vals.take:∀{xs:List V}{us:List xj}(n:Nat),Vals xs us->Vals (xs.take n) (us.take n)
 |_,_,0,_=>.nil
 |_,_,_+1,.nil=>.nil
 |_,_,n+1,.cons r t=>.cons r (Vals.take n t)
theorem Vals.drop:∀{xs:List V}{us:List xj}(n:Nat),Vals xs us->Vals (xs.drop n) (us.drop n)
 |_,_,0,r=>r
 |_,_,_+1,.nil=>.nil
 |_,_,n+1,.cons _ t=>Vals.drop n t
def RelO:Option V->Option xj->Prop
 |some v,vE u=>RelV v u
 |none,vF=>True
 |_,_=>False
def KV{κ:Type}:List (κ×V)->List (κ×xj)->Prop:=Paired λ(p:κ×V)(q:κ×xj)=>p.1=q.1/\RelV p.2 q.2
def kV:Key->V
 |.inl i=>.int i
 |.inr x=>.str x
inductive HO where
 |lst (xs:List V)
 |tup (xs:List V)
 |dK (kvs:List (Key×V))|dT (kvs:List (List Key×V))
 |set (S:Int->Bool) (n:Nat)
 |ins (C dx:xZ) (fs:List (Str×V))
 |own (x:xZ)
 |xd (fs:List (Str×V))
 |met (f x:xZ)
 |rng (lo hi:Int)
 |frz (o:Obj) (u:HO)
 |tbl (ps:Array xj)
 |ext (φ:Heap->Prop)
variable{o:HO}
noncomputable abbrev Hp:=xZ->Option HO
variable{H:Hp}
noncomputable def upd(H:Hp)(a:xZ)(o:HO):Hp:=λb=>if b=a then vE o else H b
theorem Gk:upd H a o a=vE o:=by unfold upd;rw[if_pos rfl]
theorem Bd(h:b≠a):upd H a o b=H b:=by unfold upd;rw[if_neg h]
theorem J8(h:H a=vE o)(h':H b=vF):a≠b:=by intro e;subst e;rw[h]at h';cases h'
section
variable(P:xK)(w:xw)
def ObjOk(H:Hp)(h:Heap)(a:xZ):HO->Prop
 |.lst xs=>xs.length<=sizeLine/\∃(its:List xj)(n:Nat),Vals xs its/\h.get? a=vE {cls:=.type "list",data:=.seq its.toArray n}
 |.tup xs=>xs.length<=sizeLine/\∃its:List xj,Vals xs its/\IsTup h a its.toArray
 |.dK kvs=>kvs.length<=sizeLine/\(a==sysModules)=vH/\∃vs,KV kvs vs/\h.DictOf (Ig P w) a vs
 | .dT kvs=>kvs.length<=sizeLine/\(a==sysModules)=vH/\∃xs:List (List Key×xZ×xj),
   Paired (λ(p:List Key×V)(q:List Key×xZ×xj)=>p.1=q.1/\H q.2.1=vE (.tup (p.1.map kV))/\RelV p.2 q.2.2) kvs xs/\
   ∃o es ep,h.get? a=vE o/\o.ExactDict/\o.data=.dict es ep/\es.toList=xs.map (entryOfKey (tupleKind (Ig P w)))/\(xs.map (·.1)).Nodup
 |.set S n=>h.SetOf (intKind P w) a S n
 | .ins C dx fs=>H dx=vE (.own a)/\fs.length<=1000/\dx≠a/\h.get? a=vE (PySem.W.instObj C dx)/\
   ∃mA,h.Ns1 dx mA/\(∀f,RelO (fs.lookup f) (mA f))/\PySem.Within mA (fs.map (·.1))
 |.own _=>∃o,h.get? a=vE o
 |.xd fs=>∃mA,h.Ns1 a mA/\∀f,RelO (fs.lookup f) (mA f)
 |.rng lo hi=>∃t u v,h.get? a=vE {cls:=.type "range",data:=.fields #[.int lo t,.int hi u,.int 1 v]}
 |.frz o u=>h.get? a=vE o/\ObjOk H h a u
 |.tbl ps=>h.get? a=vE {cls:=.none,data:=.fields ps}
 |.met f x=>h.get? a=vE (PySem.W.methodObj (.ref f) (.ref x))
 |.ext φ=>φ h/\(∃o,h.get? a=vE o)/\∀h1 h2:Heap,φ h1->(∀o,h1.get? a=vE o->h2.get? a=vE o)->φ h2
def HOk(H:Hp)(h:Heap):Prop:=∀a o,H a=vE o->ObjOk P w H h a o
end
section
variable{P:xK}{w:xw}{H H':Hp}{h h':Heap}{a:xZ}{o:HO}
theorem ObjOk.lt(x:ObjOk P w H h a o):a<h.objs.size:=by
 cases o with
 |lst xs=>obtain⟨_,_,_,_,e⟩:=x;exact zj e
 |tup xs=>obtain⟨_,_,_,p⟩:=x;exact p.lt
 |dK kvs=>obtain⟨_,_,_,_,o,_,_,e,_⟩:=x;exact zj e
 |dT kvs=>obtain⟨_,_,_,_,o,_,_,e,_⟩:=x;exact zj e
 |set S n=>obtain⟨o,_,_,_,e,_⟩:=x;exact zj e
 |ins C dx fs=>obtain⟨_,_,_,e,_⟩:=x;exact zj e
 |own y=>obtain⟨_,e⟩:=x;exact zj e
 |xd fs=>obtain⟨_,⟨_,_,_,e,_⟩,_⟩:=x;exact zj e
 |rng lo hi=>obtain⟨_,_,_,e⟩:=x;exact zj e
 |frz ob u=>obtain⟨e,_⟩:=x;exact zj e
 |tbl ps=>exact zj (show h.get? a=vE _ from x)
 |met f y=>exact zj (show h.get? a=vE _ from x)
 |ext φ=>obtain⟨_,⟨_,e⟩,_⟩:=x;exact zj e
theorem Paired.mapP{α β:Type}{F G:α->β->Prop}:∀{l₁:List α}{l₂:List β},Paired F l₁ l₂->(∀a b,F a b->G a b)->Paired G l₁ l₂
 |_,_,.nil,_=>.nil
 |_,_,.cons r t,f=>.cons (f _ _ r) (Paired.mapP t f)
theorem ObjOk.stay(x:ObjOk P w H h a o)(k:∀b u,(b=a∨H b=vE (.own a))->h.get? b=vE u->h'.get? b=vE u)
  (ho:∀b,H b=vE (.own a)->H' b=vE (.own a)) (ht:∀b xs,H b=vE (.tup xs)->H' b=vE (.tup xs)):ObjOk P w H' h' a o:=by
 induction o with
 |lst xs=>obtain⟨z,its,n,r,e⟩:=x;exact⟨z,its,n,r,k _ _ (.inl rfl) e⟩
 |tup xs=>obtain⟨z,its,r,ob,e,c⟩:=x;exact⟨z,its,r,ob,k _ _ (.inl rfl) e,c⟩
 |dK kvs=>obtain⟨z,y,vs,r,ob,es,ep,e,c⟩:=x;exact⟨z,y,vs,r,ob,es,ep,k _ _ (.inl rfl) e,c⟩
 |dT kvs=>
  obtain⟨z,y,xs,r,ob,es,ep,e,c⟩:=x;exact⟨z,y,xs,Paired.mapP r λp q z=>⟨z.1,ht _ _ z.2.1,z.2.2⟩,ob,es,ep,k _ _ (.inl rfl) e,c⟩
 |set S n=>obtain⟨ob,es,ep,t,e,c⟩:=x;exact⟨ob,es,ep,t,k _ _ (.inl rfl) e,c⟩
 |ins C dx fs=>
  obtain⟨d,z,ne,e,mA,⟨od,es,ep,e2,c⟩,r⟩:=x;exact⟨ho _ d,z,ne,k _ _ (.inl rfl) e,mA,⟨od,es,ep,k _ _ (.inr d) e2,c⟩,r⟩
 |own y=>obtain⟨ob,e⟩:=x;exact⟨ob,k _ _ (.inl rfl) e⟩
 |xd fs=>obtain⟨mA,⟨od,es,ep,e,c⟩,r⟩:=x;exact⟨mA,⟨od,es,ep,k _ _ (.inl rfl) e,c⟩,r⟩
 |rng lo hi=>obtain⟨t,u,v,e⟩:=x;exact⟨t,u,v,k _ _ (.inl rfl) e⟩
 |frz ob u ih=>obtain⟨e,q⟩:=x;exact⟨k _ _ (.inl rfl) e,ih q⟩
 |tbl ps=>
  have e:h.get? a=vE {cls:=.none,data:=.fields ps}:=x;show h'.get? a=vE {cls:=.none,data:=.fields ps};exact k a _ (.inl rfl) e
 |met f y=>
  have e:h.get? a=vE (PySem.W.methodObj (.ref f) (.ref y)):=x;show h'.get? a=vE (PySem.W.methodObj (.ref f) (.ref y));exact k a _ (.inl rfl) e
 |ext φ=>obtain⟨p,⟨o,e⟩,st⟩:=x;exact⟨st _ _ p λo q=>k _ _ (.inl rfl) q,⟨o,k _ _ (.inl rfl) e⟩,st⟩
theorem HOk.lt(x:HOk P w H h)(e:H a=vE o):a<h.objs.size:=(x a o e).lt
theorem HOk.fresh(x:HOk P w H h)(e:h.objs.size<=a):H a=vF:=by
 cases q:H a with
 |none=>rfl
 |some u=>exact absurd (zq (x.lt q) e) (zT _)
theorem HOk.kept(x:HOk P w H h)(k:∀b u,h.get? b=vE u->h'.get? b=vE u):HOk P w H h':=λa o e=>
 (x a o e).stay (λb u _ q=>k b u q) (λ_ q=>q) λ_ _ q=>q
theorem HOk.laid(x:HOk P w H h)(k:∀b u,h.get? b=vE u->h'.get? b=vE u)(hp:h.objs.size<=a)(new:ObjOk P w (upd H a o) h' a o):HOk P w (upd H a o) h':=λb u e=>by
 have hn:=x.fresh hp;by_cases hb:b=a
 ·subst hb;rw[Gk]at e;cases e;exact new
 ·rw[Bd hb]at e;exact(x b u e).stay (λc v _ q=>k c v q) (λc q=>by rw[Bd (J8 q hn)];exact q) λc xs q=>by rw[Bd (J8 q hn)];exact q
end
def Rd(H:Hp)(a:xZ)(u:HO):Prop:=H a=vE u∨∃o,H a=vE (.frz o u)
theorem Rd.ok{u:HO}(r:Rd H a u)(x:HOk P w H h):ObjOk P w H h a u:=by
 rcases r with r|⟨o,r⟩
 ·exact x a u r
 ·obtain⟨_,q⟩:=x a _ r;exact q
def Mut:Option HO->Prop
 |some (.lst _)=>True
 |some (.dK _)=>True
 |some (.dT _)=>True
 |some (.set _ _)=>True
 |some (.ins _ _ _)=>True
 |some (.ext _)=>True
 |_=>False
section
variable{P:xK}{w:xw}{H:Hp}{h h':Heap}{x e:xZ}{o':HO}
theorem HOk.write(ok:HOk P w H h)(mu:Mut (H x))(he:e=x∨H e=vE (.own x))(k:∀b u,b≠e->h.get? b=vE u->h'.get? b=vE u)(heo:∃u,h'.get? e=vE u)
  (new:ObjOk P w (upd H x o') h' x o'):HOk P w (upd H x o') h':=λb u q=>by
 have nown:∀c y,H c=vE (.own y)->c≠x:=λc y r z=>by subst z;rw[r]at mu;exact mu
 have ntup:∀c xs,H c=vE (.tup xs)->c≠x:=λc xs r z=>by subst z;rw[r]at mu;exact mu
 by_cases hb:b=x
 ·subst hb;rw[Gk]at q;cases q;exact new
 ·rw[Bd hb]at q;by_cases hbe:b=e
  ·have q':H b=vE (.own x):=by
    rcases he with z|z
    ·exact absurd (hbe.trans z) hb
    ·rw[hbe];exact z
   rw[q]at q';cases q';obtain⟨v,hv⟩:=heo;exact⟨v,by rw[hbe];exact hv⟩
  ·refine(ok b u q).stay (λc v hc r=>k c v ?_ r) (λc r=>by rw[Bd (nown c b r)];exact r) λc xs r=>by rw[Bd (ntup c xs r)];exact r
   rcases hc with rfl|hc
   ·exact hbe
   ·rintro rfl;rcases he with z|z
    ·exact nown c b hc z
    ·rw[hc]at z;cases z;exact hb rfl
end
structure Un (fs ex:List xZ) (H H':Hp) (h h':Heap):Prop where
 keep:∀b o,h.get? b=vE o->H b=vF->b∉fs->b∉ex->h'.get? b=vE o
 slot:∀b o,h.get? b=vE o->H b=vF->b∈fs->b∉ex->∃sl,h'.get? b=vE {o with slots:=sl}
 free:∀b o,h.get? b=vE o->H b=vF->b∉ex->H' b=vF
 there:∀b o,h.get? b=vE o->b∉ex->∃o',h'.get? b=vE o'
 tups:∀b xs,H b=vE (.tup xs)->H' b=vE (.tup xs)
 frzs:∀b o u,H b=vE (.frz o u)->H' b=vE (.frz o u)
 tbls:∀b ps,H b=vE (.tbl ps)->∃more,H' b=vE (.tbl (ps++more))
section
variable{fs fs' ex ex':List xZ}{H H1 H2:Hp}{h h1 h2 h':Heap}{a x e:xZ}{o:HO}
theorem Un.any(u:Un fs ex H H1 h h1){ob:Obj}(q:h.get? b=vE ob)(n:H b=vF)(hx:b∉ex):∃sl,h1.get? b=vE {ob with slots:=sl}:=by
 by_cases hb:b∈fs
 ·exact u.slot b ob q n hb hx
 ·exact⟨ob.slots,u.keep b ob q n hb hx⟩
theorem Un.kept(k:∀b u,h.get? b=vE u->h'.get? b=vE u):Un fs ex H H h h':=
 ⟨λb ob q _ _ _=>k b ob q,λb ob q _ _ _=>⟨ob.slots,k b ob q⟩,λ_ _ _ n _=>n,λb ob q _=>⟨ob,k b ob q⟩,λ_ _ q=>q,λ_ _ _ q=>q,λ_ ps q=>⟨#[],by rw[q];simp⟩⟩
theorem Un.refl:Un fs ex H H h h:=Un.kept λ_ _ q=>q
theorem Un.laid(k:∀b u,h.get? b=vE u->h'.get? b=vE u)(hp:h.objs.size<=a)(hn:H a=vF):Un fs ex H (upd H a o) h h' where
 keep:=λb u q _ _ _=>k b u q
 slot:=λb u q _ _ _=>⟨u.slots,k b u q⟩
 free:=λb u q n _=>by rw[Bd (zE (zq (zj q) hp))];exact n
 there:=λb u q _=>⟨u,k b u q⟩
 tups:=λb xs q=>by rw[Bd (J8 q hn)];exact q
 frzs:=λb u xs q=>by rw[Bd (J8 q hn)];exact q
 tbls:=λb ps q=>⟨#[],by rw[Bd (J8 q hn),q];simp⟩
theorem Un.write(mu:Mut (H x))(he:e=x∨H e=vE (.own x))(k:∀b u,b≠e->h.get? b=vE u->h'.get? b=vE u)(heo:∃u,h'.get? e=vE u):Un fs ex H (upd H x o) h h':=by
 have hx:∀b,H b=vF->b≠x:=λb n z=>by subst z;rw[n]at mu;exact mu
 have hb:∀b,H b=vF->b≠e:=λb n z=>by
  subst z;rcases he with r|r
  ·exact hx b n r
  ·rw[n]at r;cases r
 have hm:∀b u,H b=vE u->¬Mut (vE u)->b≠x:=λb u q nm z=>by subst z;rw[q]at mu;exact nm mu
 refine⟨λb u q n _ _=>k b u (hb b n) q,λb u q n _ _=>⟨u.slots,k b u (hb b n) q⟩,λb u q n _=>by rw[Bd (hx b n)];exact n,λb u q _=>?_,
  λb xs q=>by rw[Bd (hm b _ q λz=>z)];exact q,λb u xs q=>by rw[Bd (hm b _ q λz=>z)];exact q,λb ps q=>⟨#[],by rw[Bd (hm b _ q λz=>z),q];simp⟩⟩
 by_cases hbe:b=e
 ·subst hbe;exact heo
 ·exact⟨u,k b u hbe q⟩
end
noncomputable def trk(h:Heap)(H:Hp):List xZ:=(zZ h.objs.size).filter λa=>(H a).isSome
def Lj(h:Heap)(H:Hp):Heap:=PySem.W.hideAll h (trk h H)
theorem ZS7(h:Heap)(H:Hp):(Lj h H).objs.size=h.objs.size:=PySem.W.hideAll_size _ _
theorem ZRP{o:Obj}(e:h.get? b=vE o)(n:H b=vF):(Lj h H).get? b=vE o:=
 PySem.W.hideAll_get _ e λhm=>by have q:(H b).isSome=vG:=(List.mem_filter.mp hm).2;rw[n]at q;simp at q
theorem ZK2{o:Obj}(e:(Lj h H).get? b=vE o):h.get? b=vE o/\H b=vF:=by
 have e':h.get? b=vE o:=PySem.W.of_hideAll (trk h H) e;refine⟨e',?_⟩;cases q:H b with
 |none=>rfl
 |some x=>
  have hm:b∈trk h H:=List.mem_filter.mpr ⟨qW.mpr (zj e'),by simp[q]⟩;have z:(Lj h H).get? b=vF:=PySem.W.hideAll_none (trk h H) hm;rw[z]at e;cases e
noncomputable def ZMt(g h:Heap)(L:xZ):List (xZ×Obj):=(zZ h.objs.size).filterMap λa=>if a=L∨(g.get? a).isSome=vG then vF else(h.get? a).map λo=>(a,o)
def rest(g h:Heap)(L d:xZ):List (xZ×Obj):=(ZMt g h L).filter λp=>decide (p.1≠d)
structure Mod (K:PySem.W.Frag) (mg:Str->Option xj) (base:Heap):Prop where
 kin:K.In base
 glob:base.Ns vQ mg
 blt:∃mb,base.Ns builtinsNs mb/\∀x:Str,x≠"__name__"->mb x=xE x
 nolimit:base.NoLimit
structure Cx where
 prog:xK
 w:xw
 K:PySem.W.Frag
 mg:Str->Option xj
 base:Heap
 A:xJ
 N:List Str
 s₀:xq
 H₀:Hp
 env:Env
 outer:List Env
 stack:List Env
 ex:List xZ
 fn:Str->Bool
 calm:Bool
 pn:List (xZ×Obj)
 xe:xj->xq->Prop
variable{X:Cx}
noncomputable def frs(l:List Env):List xZ:=l.filterMap (·.frame)
noncomputable abbrev Cx.fs(X:Cx):List xZ:=frs X.outer
def Vis(sc:xY)(x:Str):Prop:=sc.names.lookup x=vE .local∨sc.names.lookup x=vE .cell∨sc.names.lookup x=vE .free
def Loc(sc:xY)(x:Str):Prop:=sc.names.lookup x=vE .local∨sc.names.lookup x=vE .cell
def Look(env:Env)(h:Heap)(m:Str->Option xj)(x:Str)(u:xj):Prop:=
 (env.kindOf x=vE .local/\m x=vE u)∨((env.kindOf x=vE .cell∨env.kindOf x=vE .free)/\∃c,env.cells.lookup x=vE c/\h.IsCell c (vE u))
structure Cx.Ok (X:Cx):Prop where
 mod:Mod X.K X.mg X.base
 kind:X.env.scope.kind=.function
 glob:X.env.globals=vQ
 blt:X.env.builtins=builtinsNs
 above:X.s₀.heap.objs.size<=X.env.locals
 inj:∀x y c,X.env.cells.lookup x=vE c->X.env.cells.lookup y=vE c->x=y
 has:∀x,(X.env.kindOf x=vE .cell∨X.env.kindOf x=vE .free)->∃c,X.env.cells.lookup x=vE c
 cab:∀x c,X.fn x=vG->X.env.cells.lookup x=vE c->X.s₀.heap.objs.size<=c
 hd:X.calm=vG->X.A.handled=vF
 frames:X.A.frames=vE X.stack
 stk:X.stack=X.outer∨(X.stack=X.env::X.outer/\X.env.frame=vE X.env.locals)
 exf:∀b∈X.ex,b≠X.env.locals/\∀x c,X.env.cells.lookup x=vE c->c≠b
 bs:∀b o,X.base.get? b=vE o->X.s₀.heap.get? b=vE o/\X.H₀ b=vF
 bsz:X.base.objs.size<=X.s₀.heap.objs.size
 noex:∀b o,X.base.get? b=vE o->b∉X.ex
 exfs:∀b∈X.ex,b∉X.fs
 funs:X.s₀.heap.FunFrames X.base X.outer
 frf:∀b∈X.fs,X.H₀ b=vF
structure Inv (X:Cx) (vD:List (xZ×Obj)) (σ:List (Option V)) (H:Hp) (s:xq):Prop where
 ok:X.Ok
 os:s.os=X.s₀.os
 bare:AllBare s.gens
 base:Un X.fs X.ex X.H₀ H X.s₀.heap s.heap
 loc:∃m,s.heap.Ns X.env.locals m/\∀(i:Nat)(x:Str)(v:V),X.N[i]?=vE x->σ[i]?=vE (vE v)->Vis X.env.scope x->∃u,RelV v u/\Look X.env s.heap m x u
 cell:∀x c,X.env.cells.lookup x=vE c->∃v,s.heap.IsCell c v
 free:H X.env.locals=vF
 Jk:∀x c,X.env.cells.lookup x=vE c->H c=vF
 pin:∀p∈X.pn++vD,s.heap.get? p.1=vE p.2/\H p.1=vF/\p.1≠X.env.locals/\p.1∉X.fs/\∀v,p.2.data≠ .cell v
 hok:HOk X.prog X.w H s.heap
 len:σ.length=X.N.length
section
variable{X:Cx}{vD:List (xZ×Obj)}{σ:List (Option V)}{H H':Hp}{s:xq}{h':Heap}
theorem Cx.Ok.nofr(ok:X.Ok){o:Obj}(e:X.base.get? b=vE o):b∉X.fs:=λhb=>by have:=(ok.funs.mem hb).1;rw[e]at this;cases this
theorem Inv.bs(I:Inv X vD σ H s):∀b o,X.base.get? b=vE o->s.heap.get? b=vE o/\H b=vF:=λb o e=>
 ⟨I.base.keep b o (I.ok.bs b o e).1 (I.ok.bs b o e).2 (I.ok.nofr e) (I.ok.noex b o e),I.base.free b o (I.ok.bs b o e).1 (I.ok.bs b o e).2 (I.ok.noex b o e)⟩
theorem Inv.bk(I:Inv X vD σ H s):∀b o,X.base.get? b=vE o->s.heap.get? b=vE o:=λb o e=>(I.bs b o e).1
theorem Inv.mod(I:Inv X vD σ H s):Mod X.K X.mg X.base:=I.ok.mod
theorem Inv.kIn(I:Inv X vD σ H s):X.K.In s.heap:=I.ok.mod.kin.keeps I.bk
theorem Inv.lt(I:Inv X vD σ H s):X.env.locals<s.heap.objs.size:=let⟨_,hn,_⟩:=I.loc;hn.lt
theorem Inv.sz(I:Inv X vD σ H s):X.s₀.heap.objs.size<=s.heap.objs.size:=zB I.ok.above (Nat.le_of_lt I.lt)
theorem Inv.nofs(I:Inv X vD σ H s)(h:s.heap.objs.size<=a):a∉X.fs:=λhb=>by obtain⟨_,o,ho,_⟩:=I.ok.funs.mem hb;exact absurd (zq (zj ho) (zB I.sz h)) (zT _)
theorem Inv.cne(I:Inv X vD σ H s):∀x c,X.env.cells.lookup x=vE c->c≠X.env.locals:=λx c e z=>by obtain⟨v,o,ho,hd⟩:=I.cell x c e;obtain⟨m,⟨o',es,ep,ho',hd',_⟩,_⟩:=I.loc;rw[z,ho']at ho;cases ho;rw[hd']at hd;cases hd
theorem Inv.funs(I:Inv X vD σ H s):s.heap.FunFrames X.base X.outer:=by
 have all:∀(l:List Env),(∀b∈frs l,b∈X.fs)->X.s₀.heap.FunFrames X.base l->s.heap.FunFrames X.base l:=by
  intro l
  induction l with
  |nil=>intro _ _;trivial
  |cons env r ih=>
   intro hs hl;obtain⟨hk,⟨L,o,hf,hn,ho,hd⟩,hr⟩:=hl;have hL:L∈X.fs:=hs L (by unfold frs;rw[qY,hf];exact zW);obtain⟨sl,e⟩:=I.base.slot L o ho (I.ok.frf L hL) hL λz=>I.ok.exfs L z hL
   exact⟨hk,⟨L,_,hf,hn,e,hd⟩,ih (λb hb=>hs b (by unfold frs;rw[qY,hf];exact zX _ hb)) hr⟩
 exact all X.outer (λ_ hb=>hb) I.ok.funs
theorem Inv.stack(I:Inv X vD σ H s):s.heap.FunFrames X.base X.stack:=by
 rcases I.ok.stk with e|⟨e,hf⟩
 ·rw[e];exact I.funs
 ·rw[e];obtain⟨m,hn,_⟩:=I.loc;refine .cons (by rw[I.ok.kind];decide) hf hn ?_ I.funs;exact Heap.get?_none_of_le (zB I.ok.bsz I.ok.above)
theorem Inv.Z2(I:Inv X vD σ H s):∀b∈frs X.stack,b∈X.env.locals::X.fs:=λb hb=>by
 rcases I.ok.stk with e|⟨e,hf⟩
 ·rw[e]at hb;exact zX _ hb
 ·rw[e]at hb;unfold frs at hb;rw[qY,hf]at hb;exact hb
theorem Inv.ZFz(I:Inv X vD σ H s):∀b∈frs X.stack,H b=vF:=λb hb=>by
 rcases zw.mp (I.Z2 b hb)with e|hb
 ·rw[e];exact I.free
 ·obtain⟨_,o,ho,_⟩:=I.ok.funs.mem hb;exact I.base.free b o ho (I.ok.frf b hb) λz=>I.ok.exfs b z hb
theorem Inv.step{g':Array GenState}{d':Drawn}(I:Inv X vD σ H s)
  (hch:∀b∈ch,(b∈X.ex∨X.s₀.heap.objs.size<=b)/\b≠X.env.locals/\(∀x c,X.env.cells.lookup x=vE c->c≠b)/\∀p∈X.pn++vD,p.1≠b)
  (keep:∀b o,b≠X.env.locals->b∉X.fs->b∉ch->s.heap.get? b=vE o->H b=vF->h'.get? b=vE o)
  (slot:∀b o,b≠X.env.locals->b∈X.fs->b∉ch->s.heap.get? b=vE o->H b=vF->∃sl,h'.get? b=vE {o with slots:=sl}) (free:∀b o,b∉ch->s.heap.get? b=vE o->H b=vF->H' b=vF)
  (there:∀b o,b∉ch->s.heap.get? b=vE o->∃o',h'.get? b=vE o')
  (tups:∀b xs,H b=vE (.tup xs)->H' b=vE (.tup xs)) (frzs:∀b o u,H b=vE (.frz o u)->H' b=vE (.frz o u)) (tbls:∀b ps,H b=vE (.tbl ps)->∃more,H' b=vE (.tbl (ps++more)))
  (ns:∀m,s.heap.Ns X.env.locals m->h'.Ns X.env.locals m) (hok:HOk X.prog X.w H' h') (hg:AllBare g'):
  Inv X vD σ H' {s with heap:=h',gens:=g',drawn:=d',toks:=t'}:=by
 have neL:∀b o,X.s₀.heap.get? b=vE o->b≠X.env.locals:=λb o e=>zE (zq (zj e) I.ok.above)
 have neC:∀b o,X.s₀.heap.get? b=vE o->b∉X.ex->b∉ch:=λb o e hx hb=>by
  rcases(hch b hb).1 with z|z
  ·exact hx z
  ·exact absurd (zq (zj e) z) (zT _)
 have cellK:∀x c,X.env.cells.lookup x=vE c->∀v,s.heap.IsCell c v->h'.IsCell c v:=λx c e v ⟨o,ho,hd⟩=>by
  have nch:c∉ch:=λz=>(hch c z).2.2.1 x c e rfl
  by_cases hc:c∈X.fs
  ·obtain⟨sl,q⟩:=slot c o (I.cne x c e) hc nch ho (I.Jk x c e);exact⟨_,q,hd⟩
  ·exact⟨o,keep c o (I.cne x c e) hc nch ho (I.Jk x c e),hd⟩
 refine⟨I.ok,I.os,hg,⟨λb o e n hb hx=>?_,λb o e n hb hx=>?_,λb o e n hx=>?_,λb o e hx=>?_,λb xs e=>tups b xs (I.base.tups b xs e),λb o xs e=>frzs b o xs (I.base.frzs b o xs e),λb ps e=>?_⟩,?_,λx c e=>?_,?_,λx c e=>?_,λp hp=>?_,hok,I.len⟩
 ·exact keep b o (neL b o e) hb (neC b o e hx) (I.base.keep b o e n hb hx) (I.base.free b o e n hx)
 ·obtain⟨sl,e1⟩:=I.base.slot b o e n hb hx;obtain⟨sl',e2⟩:=slot b _ (neL b o e) hb (neC b o e hx) e1 (I.base.free b o e n hx);exact⟨sl',e2⟩
 ·obtain⟨o',e1⟩:=I.base.there b o e hx;exact free b o' (neC b o e hx) e1 (I.base.free b o e n hx)
 ·obtain⟨o',e1⟩:=I.base.there b o e hx;exact there b o' (neC b o e hx) e1
 ·obtain⟨m1,e1⟩:=I.base.tbls b ps e;obtain⟨m2,e2⟩:=tbls b _ e1;exact⟨m1++m2,by rw[e2,Array.append_assoc]⟩
 ·obtain⟨m,hn,hl⟩:=I.loc;refine⟨m,ns m hn,λi x v e1 e2 e3=>?_⟩;obtain⟨u,r,l⟩:=hl i x v e1 e2 e3;refine⟨u,r,?_⟩;rcases l with l|⟨k,c,e,z⟩
  ·exact .inl l
  ·exact .inr ⟨k,c,e,cellK x c e _ z⟩
 ·obtain⟨v,z⟩:=I.cell x c e;exact⟨v,cellK x c e v z⟩
 ·obtain⟨m,⟨o,_,_,ho,_⟩,_⟩:=I.loc;exact free _ o (λz=>(hch _ z).2.1 rfl) ho I.free
 ·obtain⟨v,o,ho,hd⟩:=I.cell x c e;exact free c o (λz=>(hch c z).2.2.1 x c e rfl) ho (I.Jk x c e)
 ·obtain⟨e,n,ne,nf,d⟩:=I.pin p hp;have nch:p.1∉ch:=λz=>(hch p.1 z).2.2.2 p hp rfl
  exact⟨keep p.1 p.2 ne nf nch e n,free p.1 p.2 nch e n,ne,nf,d⟩
theorem Inv.un(I:Inv X vD σ H s)(u:Un X.fs [] H H' s.heap h')(hok:HOk X.prog X.w H' h'):Inv X vD σ H' {s with heap:=h',toks:=t'}:=by
 obtain⟨m,⟨o,es,ep,ho,r⟩,_⟩:=id I.loc;obtain⟨sl,hL⟩:=u.any ho I.free (by simp)
 exact I.step (g':=s.gens) (d':=s.drawn) (ch:=[]) (λ_ z=>nomatch z) (λb o _ hb _ e n=>u.keep b o e n hb (by simp)) (λb o _ hb _ e n=>u.slot b o e n hb (by simp)) (λb o _ e n=>u.free b o e n (by simp)) (λb o _ e=>u.there b o e (by simp)) u.tups u.frzs u.tbls (λm' hm=>by obtain⟨o',es',ep',ho',r'⟩:=hm;rw[ho]at ho';cases ho';exact⟨_,es',ep',hL,r'⟩) hok I.bare
theorem Inv.call{g':Array GenState}{d':Drawn}(I:Inv X vD σ H s)(u:Un (frs X.stack) ch H H' s.heap h')(hok:HOk X.prog X.w H' h')(hg:AllBare g')
  (hch:∀b∈ch,(b∈X.ex∨X.s₀.heap.objs.size<=b)/\b≠X.env.locals/\(∀x c,X.env.cells.lookup x=vE c->c≠b)/\∀p∈X.pn++vD,p.1≠b):
  Inv X vD σ H' {s with heap:=h',gens:=g',drawn:=d',toks:=t'}:=by
 obtain⟨m,⟨o,es,ep,ho,r⟩,_⟩:=id I.loc;obtain⟨sl,hL⟩:=u.any ho I.free λz=>(hch _ z).2.1 rfl
 exact I.step (ch:=ch) hch (λb o hL hb hc e n=>u.keep b o e n (λz=>(zw.mp (I.Z2 b z)).elim hL hb) hc) (λb o _ _ hc e n=>u.any e n hc) (λb o hc e n=>u.free b o e n hc) (λb o hc e=>u.there b o e hc) u.tups u.frzs u.tbls (λm' hm=>by obtain⟨o',es',ep',ho',r'⟩:=hm;rw[ho]at ho';cases ho';exact⟨_,es',ep',hL,r'⟩) hok hg
theorem Inv.turned{it:xZ}(I:Inv X vD σ H s)(k:∀b o,b≠it->s.heap.get? b=vE o->h'.get? b=vE o)(hn:H it=vF)(hL:it≠X.env.locals)
  (h1:it∈X.ex∨X.s₀.heap.objs.size<=it) (h2:∀x c,X.env.cells.lookup x=vE c->c≠it) (h3:∀p∈X.pn++vD,p.1≠it):Inv X vD σ H {s with heap:=h',toks:=t'}:=by
 have nit:∀b u,H b=vE u->b≠it:=λb u e z=>by rw[z,hn]at e;cases e
 refine I.step (g':=s.gens) (d':=s.drawn) (ch:=[it]) (λb hb=>?_) (λb o _ _ hc e _=>k b o (λz=>hc (by simp[z])) e) (λb o _ _ hc e _=>⟨o.slots,k b o (λz=>hc (by simp[z])) e⟩) (λ_ _ _ _ n=>n)
  (λb o hc e=>⟨o,k b o (λz=>hc (by simp[z])) e⟩) (λ_ _ e=>e) (λ_ _ _ e=>e) (λb ps e=>⟨#[],by rw[e];simp⟩) (λm hm=>?_) (λb u e=>?_) I.bare
 ·have e:b=it:=by simpa using hb
  subst e;exact⟨h1,hL,h2,h3⟩
 ·obtain⟨o,es,ep,ho,r⟩:=hm;exact⟨o,es,ep,k _ o (Ne.symm hL) ho,r⟩
 ·refine(I.hok b u e).stay (λc v hc q=>k c v ?_ q) (λ_ q=>q) λ_ _ q=>q
  rcases hc with z|z
  ·rw[z];exact nit b u e
  ·exact nit c _ z
theorem Inv.tok(I:Inv X vD σ H s)(t:Nat):Inv X vD σ H {s with toks:=t}:=I.un (h':=s.heap) (t':=t) Un.refl I.hok
theorem Inv.kept(I:Inv X vD σ H s)(k:∀b u,s.heap.get? b=vE u->h'.get? b=vE u):Inv X vD σ H {s with heap:=h',toks:=t'}:=I.un (Un.kept k) (I.hok.kept k)
theorem Inv.laid(I:Inv X vD σ H s)(k:∀b u,s.heap.get? b=vE u->h'.get? b=vE u)(hp:s.heap.objs.size<=a)(new:ObjOk X.prog X.w (upd H a o) h' a o):
  Inv X vD σ (upd H a o) {s with heap:=h',toks:=t'}:=I.un (Un.laid k hp (I.hok.fresh hp)) (I.hok.laid k hp new)
theorem Inv.write{x e:xZ}(I:Inv X vD σ H s)(mu:Mut (H x))(he:e=x∨H e=vE (.own x))(k:∀b u,b≠e->s.heap.get? b=vE u->h'.get? b=vE u)(heo:∃u,h'.get? e=vE u)
  (new:ObjOk X.prog X.w (upd H x o) h' x o):Inv X vD σ (upd H x o) {s with heap:=h',toks:=t'}:=I.un (Un.write mu he k heo) (I.hok.write mu he k heo new)
theorem Inv.Mi{pins':List (xZ×Obj)}(I:Inv X vD σ H s)(h:∀p∈pins',s.heap.get? p.1=vE p.2/\H p.1=vF/\p.1≠X.env.locals/\p.1∉X.fs/\∀v,p.2.data≠ .cell v):Inv X pins' σ H s:=
 ⟨I.ok,I.os,I.bare,I.base,I.loc,I.cell,I.free,I.Jk,λp hp=>(j7.mp hp).elim (λz=>I.pin p (jO _ z)) (h p),I.hok,I.len⟩
theorem ZEs{N:List Str}(hN:N.Nodup){j:Nat}(a:N[i]?=vE x)(b:N[j]?=vE x):i=j:=by obtain⟨h1,e1⟩:=zF.mp a;obtain⟨h2,e2⟩:=zF.mp b;exact(List.getElem_inj hN).mp (e1.trans e2.symm)
theorem ZGs{M:Model}{A:xJ}{E:xj->xq->Prop}{Q:Unit->xq->Prop}(I:Inv X vD σ H s)(hN:X.N.Nodup)(hi:X.N[i]?=vE x)(hx:Loc X.env.scope x)(r:RelV v u)
  (h:∀s',Inv X vD (σ.set i (vE v)) H s'->(∃a,qj a s.heap s'.heap/\(a=X.env.locals∨X.env.cells.lookup x=vE a))->Q () s') (hf:X.fn x=vG∨X.env.scope.names.lookup x=vE .local:=by first|exact .inl rfl|exact .inr rfl|assumption):vY M A (storeName X.env x u) Q E s:=by
 obtain⟨m,hn,hl⟩:=id I.loc;have hcls:(X.env.scope.kind == .class||(X.env.scope.kind == .module&&X.env.locals != X.env.globals))=vH:=by rw[I.ok.kind];rfl
 have hiσ:i<σ.length:=by rw[I.len];exact(zF.mp hi).1
 have cne:=I.cne;have tracked:∀{a:xZ}{h':Heap},(∃o,s.heap.get? a=vE o/\H a=vF)->qj a s.heap h'->HOk X.prog X.w H h':=λ{a h'}ha hs b ob e=>by
  obtain⟨_,_,hfree⟩:=ha;refine(I.hok b ob e).stay (λc w' hc q=>(hs.2 c ?_).trans q) (λ_ q=>q) λ_ _ q=>q
  rintro rfl;rcases hc with rfl|hc
  ·rw[hfree]at e;cases e
  ·rw[hfree]at hc;cases hc
 rcases hx with hk|hk
 ·refine wpAny_storeName_local hk hn (λh' hn' hs=>?_) hcls;obtain⟨oL,_,_,hoL,_⟩:=id hn;refine h _ ⟨I.ok,I.os,I.bare,⟨λb o e n hb hx=>?_,λb o e n hb hx=>?_,I.base.free,λb o e hx=>?_,I.base.tups,I.base.frzs,I.base.tbls⟩,⟨_,hn',λj y v' e1 e2 e3=>?_⟩,λy c e=>?_,I.free,I.Jk,λp hp=>?_,tracked ⟨oL,hoL,I.free⟩ hs,by simpa using I.len⟩ ⟨_,hs,.inl rfl⟩
  ·exact(hs.2 b (zE (zq (zj e) I.ok.above))).trans (I.base.keep b o e n hb hx)
  ·obtain⟨sl,e1⟩:=I.base.slot b o e n hb hx;exact⟨sl,(hs.2 b (zE (zq (zj e) I.ok.above))).trans e1⟩
  ·obtain⟨o',e1⟩:=I.base.there b o e hx;exact⟨o',(hs.2 b (zE (zq (zj e) I.ok.above))).trans e1⟩
  ·by_cases hj:j=i
   ·subst hj;rw[hi]at e1;cases e1;rw[qU hiσ]at e2;cases e2;exact⟨u,r,.inl ⟨hk,by simp⟩⟩
   ·rw[qM (Ne.symm hj)]at e2;obtain⟨u',r',q⟩:=hl j y v' e1 e2 e3;refine⟨u',r',?_⟩;rcases q with⟨k,e⟩|⟨k,c,e,z⟩
    ·refine .inl ⟨k,?_⟩;have:y≠x:=λe=>hj (ZEs hN e1 (e▸hi))
     simp[this,e]
    ·exact .inr ⟨k,c,e,z.sameBut hs (cne y c e)⟩
  ·obtain⟨w',z⟩:=I.cell y c e;exact⟨w',z.sameBut hs (cne y c e)⟩
  ·obtain⟨e,n,ne,nf,d⟩:=I.pin p hp;exact⟨(hs.2 p.1 ne).trans e,n,ne,nf,d⟩
 ·have hfn:X.fn x=vG:=by
   rcases hf with z|z
   ·exact z
   ·rw[z]at hk;cases hk
  obtain⟨c,hc⟩:=I.ok.has x (.inl hk);obtain⟨w',z⟩:=I.cell x c hc;refine wpAny_storeName_cell I.ok.kind hk hc z (λh' hc' hs=>?_);obtain⟨oc,hoc,hocd⟩:=id z;refine h {s with heap:=h'} ⟨I.ok,I.os,I.bare,⟨λb o e n hb hx=>?_,λb o e n hb hx=>?_,I.base.free,λb o e hx=>?_,I.base.tups,I.base.frzs,I.base.tbls⟩,⟨m,hn.sameBut hs (Ne.symm (cne x c hc)),λj y v' e1 e2 e3=>?_⟩,λy c' e=>?_,I.free,I.Jk,λp hp=>?_,tracked ⟨oc,hoc,I.Jk x c hc⟩ hs,by simpa using I.len⟩ ⟨c,hs,.inr hc⟩
  ·exact(hs.2 b (zE (zq (zj e) (I.ok.cab x c hfn hc)))).trans (I.base.keep b o e n hb hx)
  ·obtain⟨sl,e1⟩:=I.base.slot b o e n hb hx;exact⟨sl,(hs.2 b (zE (zq (zj e) (I.ok.cab x c hfn hc)))).trans e1⟩
  ·obtain⟨o',e1⟩:=I.base.there b o e hx;exact⟨o',(hs.2 b (zE (zq (zj e) (I.ok.cab x c hfn hc)))).trans e1⟩
  ·by_cases hj:j=i
   ·subst hj;rw[hi]at e1;cases e1;rw[qU hiσ]at e2;cases e2;exact⟨u,r,.inr ⟨.inl hk,c,hc,hc'⟩⟩
   ·rw[qM (Ne.symm hj)]at e2;obtain⟨u',r',q⟩:=hl j y v' e1 e2 e3;refine⟨u',r',?_⟩;rcases q with q|⟨k,c',e,z'⟩
    ·exact .inl q
    ·refine .inr ⟨k,c',e,z'.sameBut hs ?_⟩;rintro rfl;exact hj (ZEs hN e1 (I.ok.inj _ _ _ e hc▸hi))
  ·by_cases hcc:c'=c
   ·subst hcc;exact⟨_,hc'⟩
   ·obtain⟨w2,z2⟩:=I.cell y c' e;exact⟨w2,z2.sameBut hs hcc⟩
  ·obtain⟨e,n,ne,nf,d⟩:=I.pin p hp;refine⟨(hs.2 p.1 ?_).trans e,n,ne,nf,d⟩;intro q;rw[q,hoc]at e;have q':oc=p.2:=Option.some.inj e;exact d w' (by rw[<-q'];exact hocd)
theorem ZDT{M:Model}{A:xJ}{E:xj->xq->Prop}{Q:Unit->xq->Prop}(I:Inv X vD σ H s)(hN:X.N.Nodup)(hi:X.N[i]?=vE x)(hx:Loc X.env.scope x)(r:RelV v u)
  (h:∀s',Inv X vD (σ.set i (vE v)) H s'->Q () s') (hf:X.fn x=vG∨X.env.scope.names.lookup x=vE .local:=by first|exact .inl rfl|exact .inr rfl|assumption):vY M A (storeName X.env x u) Q E s:=
 ZGs I hN hi hx r (λs' I' _=>h s' I') hf
theorem Inv.call'{s':xq}(I:Inv X vD σ H s)(ho:s'.os=s.os)(u:Un (frs X.stack) ch H H' s.heap s'.heap)(hok:HOk X.prog X.w H' s'.heap)(hg:AllBare s'.gens)
  (hch:∀b∈ch,(b∈X.ex∨X.s₀.heap.objs.size<=b)/\b≠X.env.locals/\(∀x c,X.env.cells.lookup x=vE c->c≠b)/\∀p∈X.pn++vD,p.1≠b):Inv X vD σ H' s':=by
 obtain⟨h',g',d',t',o'⟩:=s';have e:o'=s.os:=ho;subst e;exact I.call (g':=g') (t':=t') (d':=d') u hok hg hch
end
noncomputable abbrev XK:=xj->Option xZ->Hp->Prop
noncomputable abbrev St:=List (Option V)
variable{σ:St}
noncomputable abbrev VK:=V->Hp->Prop
noncomputable abbrev TE:=St->Hp->VK->Prop
variable{te:TE}
noncomputable abbrev TT:=St->Hp->(Bool->Hp->Prop)->Prop
noncomputable abbrev TA:=St->Hp->(List V->Hp->Prop)->Prop
structure Ends where
 nx:St->Hp->Prop
 rt:VK
 bk:St->Hp->Prop:=λ_ _=>False
 ct:St->Hp->Prop:=λ_ _=>False
noncomputable abbrev TS:=Ends->St->Hp->Prop
def EP(X:Cx)(vD:List (xZ×Obj))(σ:St)(Q:VK)(u:xj)(s':xq):Prop:=∃v H',Inv X vD σ H' s'/\RelV v u/\Q v H'
def TP(X:Cx)(vD:List (xZ×Obj))(σ:St)(Q:Bool->Hp->Prop)(b:Bool)(s':xq):Prop:=∃H',Inv X vD σ H' s'/\Q b H'
def AP(X:Cx)(vD:List (xZ×Obj))(σ:St)(Q:List V->Hp->Prop)(us:List xj)(s':xq):Prop:=∃vs H',Inv X vD σ H' s'/\Vals vs us/\Q vs H'
def SP(X:Cx)(vD:List (xZ×Obj))(D:Ends)(f:Flow)(s':xq):Prop:=
 match f with
 |.next=>∃σ' H',Inv X vD σ' H' s'/\D.nx σ' H'
 |.brk=>∃σ' H',Inv X vD σ' H' s'/\D.bk σ' H'
 |.cont=>∃σ' H',Inv X vD σ' H' s'/\D.ct σ' H'
 |.ret u=>∃v σ' H',Inv X vD σ' H' s'/\RelV v u/\D.rt v H'
def PE(X:Cx)(e:xX)(t:TE):Prop:=
 ∀(vD:List (xZ×Obj))(s:xq)(σ:St)(H:Hp)(Q:VK),Inv X vD σ H s->t σ H Q->vY (vZ X.prog X.w) X.A (eval e X.env) (EP X vD σ Q) X.xe s
def PT(X:Cx)(e:xX)(t:TT):Prop:=
 ∀(vD:List (xZ×Obj))(s:xq)(σ:St)(H:Hp)(Q:Bool->Hp->Prop),Inv X vD σ H s->t σ H Q->vY (vZ X.prog X.w) X.A (isTrue e X.env (eval e X.env)) (TP X vD σ Q) X.xe s
def PW(X:Cx)(e:xX)(t:TT):Prop:=
 ∀(whole:Sem xj)(vD:List (xZ×Obj))(s:xq)(σ:St)(H:Hp)(Q:Bool->Hp->Prop),Inv X vD σ H s->t σ H Q->vY (vZ X.prog X.w) X.A (isTrue e X.env whole) (TP X vD σ Q) X.xe s
theorem PW.pt{t:TT}(h:PW X e t):PT X e t:=h _
def PA(X:Cx)(es:List xX)(t:TA):Prop:=
 ∀(pos:Pos)(vD:List (xZ×Obj))(s:xq)(σ:St)(H:Hp)(Q:List V->Hp->Prop),Inv X vD σ H s->t σ H Q->vY (vZ X.prog X.w) X.A (spliced (x0 pos (vW es X.env))) (AP X vD σ Q) X.xe s
def PS(X:Cx)(st:xz)(t:TS):Prop:=
 ∀(vD:List (xZ×Obj))(s:xq)(σ:St)(H:Hp)(D:Ends),Inv X vD σ H s->t D σ H->vY (vZ X.prog X.w) X.A (exec st X.env) (SP X vD D) X.xe s
def PSs(X:Cx)(st:List xz)(t:TS):Prop:=
 ∀(vD:List (xZ×Obj))(s:xq)(σ:St)(H:Hp)(D:Ends),Inv X vD σ H s->t D σ H->vY (vZ X.prog X.w) X.A (execs st X.env) (SP X vD D) X.xe s
theorem thn{α:Type}{t:Sem α}{Q Q':α->xq->Prop}{M:Model}(h:vY M A t Q E s)(hQ:∀a s,Q a s->Q' a s):vY M A t Q' E s:=v4 h hQ λ_ _ x=>x
section
variable{X:Cx}
noncomputable def tVar(i:Nat):TE:=λσ H Q=>∃v,σ[i]?=vE (vE v)/\Q v H
noncomputable def tC(v:V):TE:=λ_ H Q=>Q v H
theorem ZME{pos:Pos}(hN:X.N[i]?=vE x)(hv:Vis X.env.scope x)(hd:(x==("__debug__":Str))=vH:=by decide)(hcd:(x==("__classdict__":Str))=vH:=by decide):PE X (.Name x pos) (tVar i):=by
 intro vD s σ H Q I h;obtain⟨v,e,h⟩:=h;obtain⟨m,hn,hl⟩:=I.loc;obtain⟨u,r,l⟩:=hl i x v hN e hv;have fin:EP X vD σ Q u s:=⟨v,H,I,r,h⟩;rcases l with⟨hk,hm⟩|⟨hk,c,hc,hcell⟩
 ·exact wpAny_Name (wpAny_loadName_local I.ok.kind hk hn hm fin) hd
 ·rcases hk with hk|hk
  ·exact wpAny_Name (wpAny_loadName_cell I.ok.kind hk hc hcell fin) hd
  ·exact wpAny_Name (wpAny_loadName_free I.ok.kind hk hc hcell fin hcd) hd
theorem ZRQ{i j pos}:PE X (.Constant (.int i) j pos) (tC (.int i)):=λ_ _ _ H _ I h=>wpAny_Constant_int ⟨.int i,H,I.tok _,⟨_,rfl⟩,h⟩
theorem ZSu{b j pos}:PE X (.Constant (.bool b) j pos) (tC (.bl b)):=λ_ _ _ H _ I h=>Constant_bool ⟨.bl b,H,I,rfl,h⟩
theorem ZNI{j pos}:PE X (.Constant .none j pos) (tC .non):=λ_ _ _ H _ I h=>Constant_none ⟨.non,H,I,rfl,h⟩
theorem ZJo{x j pos}:PE X (.Constant (.str x) j pos) (tC (.str x)):=λ_ _ _ H _ I h=>Calls.Constant_str ⟨.str x,H,I.tok _,⟨_,rfl⟩,h⟩
def Gl(X:Cx)(x:Str):Prop:=X.env.kindOf x=vE .globalImplicit
theorem ZEM{E:xj->xq->Prop}{pos:Pos}(I:Inv X vD σ H s)(hg:Gl X x)(hm:X.mg x=vE u)(h:Q u s)
  (hd:(x==("__debug__":Str))=vH:=by decide):vY (vZ X.prog X.w) X.A (eval (.Name x pos) X.env) Q E s:=
 Calls.Name_function_global I.ok.kind hg (Calls.loadGlobal_global (by rw[I.ok.glob];exact I.mod.glob.keeps I.bk) hm h) hd
theorem Jq{E:xj->xq->Prop}{pos:Pos}(I:Inv X vD σ H s)(hg:Gl X x)(hm:X.mg x=vF)(hv:xE x=vE u)(h:Q u s)
  (hn:x≠"__name__":=by decide) (hd:(x==("__debug__":Str))=vH:=by decide):vY (vZ X.prog X.w) X.A (eval (.Name x pos) X.env) Q E s:=by
 obtain⟨mb,h1,h2⟩:=I.mod.blt;exact Calls.Name_function_global I.ok.kind hg (Calls.loadGlobal_builtin (by rw[I.ok.glob];exact I.mod.glob.keeps I.bk) hm (by rw[I.ok.blt];exact h1.keeps I.bk) ((h2 x hn).trans hv) h) hd
theorem ZAt{pos:Pos}(hg:Gl X x)(hm:X.mg x=vE u)(r:RelV v u)(hd:(x==("__debug__":Str))=vH:=by decide):PE X (.Name x pos) (tC v):=
 λ_ _ _ H _ I h=>ZEM I hg hm ⟨v,H,I,r,h⟩ hd
theorem ZP2{pos:Pos}(hg:Gl X x)(hm:X.mg x=vF)(hv:xE x=vE u)(r:RelV v u)(hn:x≠"__name__":=by decide)(hd:(x==("__debug__":Str))=vH:=by decide):PE X (.Name x pos) (tC v):=
 λ_ _ _ H _ I h=>Jq I hg hm hv ⟨v,H,I,r,h⟩ hn hd
variable{a b:xX}{ta tb:TE}{pos:Pos}
noncomputable def tB(t:TE):TT:=λσ H Q=>t σ H λx H1=>∃c,x=.bl c/\Q c H1
theorem ZNN{t:TE}(h:PE X e t)(he:∀whole,isTrue e X.env whole=(do let v<-whole;standAt e.pos;holding [v] (truthy v)):=by intro _;rfl):PT X e (tB t):=by intro vD s σ H Q I hw;refine isTrue_plain (thn (h vD s σ H _ I hw) λv s1 ⟨x,H1,I1,r1,q1⟩=>?_) (he _);obtain⟨d,rfl,q⟩:=q1;cases r1;exact v9 ⟨H1,I1,q⟩
variable{tA tB':TT}{rest:List xX}
noncomputable def tAnd(t u:TT):TT:=λσ H Q=>t σ H λc H1=>if c=vG then u σ H1 Q else Q vH H1
noncomputable def tOr(t u:TT):TT:=λσ H Q=>t σ H λc H1=>if c=vG then Q vG H1 else u σ H1 Q
noncomputable def tNot(t:TT):TT:=λσ H Q=>t σ H λc H1=>Q (!c) H1
theorem pw_and1(ha:PT X a tA):PW X (.BoolOp .And [a] pos) tA:=by
 intro wh vD s σ H Q I h;refine isTrue_and (thn (ha vD s σ H Q I h) λc s1 e=>?_);cases c with
 |true=>exact isTrue_and_nil e
 |false=>exact e
theorem pw_or1(ha:PT X a tA):PW X (.BoolOp .Or [a] pos) tA:=by
 intro wh vD s σ H Q I h;refine isTrue_or (thn (ha vD s σ H Q I h) λc s1 e=>?_);cases c with
 |false=>exact isTrue_or_nil e
 |true=>exact e
theorem pw_and(ha:PT X a tA)(hb:PW X (.BoolOp .And (b::rest) pos) tB'):PW X (.BoolOp .And (a::b::rest) pos) (tAnd tA tB'):=by
 intro wh vD s σ H Q I h;refine isTrue_and (thn (ha vD s σ H _ I h) λc s1 ⟨H1,I1,q1⟩=>?_);cases c with
 |true=>exact hb wh vD s1 σ H1 Q I1 q1
 |false=>exact⟨H1,I1,q1⟩
theorem pw_or(ha:PT X a tA)(hb:PW X (.BoolOp .Or (b::rest) pos) tB'):PW X (.BoolOp .Or (a::b::rest) pos) (tOr tA tB'):=by
 intro wh vD s σ H Q I h;refine isTrue_or (thn (ha vD s σ H _ I h) λc s1 ⟨H1,I1,q1⟩=>?_);cases c with
 |true=>exact⟨H1,I1,q1⟩
 |false=>exact hb wh vD s1 σ H1 Q I1 q1
theorem ZOR(ha:PT X a tA):PT X (.UnaryOp .Not a pos) (tNot tA):=by intro vD s σ H Q I h;exact isTrue_not (ha vD s σ H (λc H1=>Q (!c) H1) I h)
noncomputable def ZON(ta tb:TE):TE:=λσ H Q=>ta σ H λx H1=>∃c,x=.bl c/\if c=vG then tb σ H1 Q else Q (.bl vH) H1
noncomputable def tOrV(ta tb:TE):TE:=λσ H Q=>ta σ H λx H1=>∃c,x=.bl c/\if c=vG then Q (.bl vG) H1 else tb σ H1 Q
theorem ZTA{op}{t:TE}(h:PE X a t):PE X (.BoolOp op [a] pos) t:=λvD s σ H Q I hw=>BoolOp_one (h vD s σ H Q I hw)
theorem ZSJ(ha:PE X a ta)(hb:PE X (.BoolOp .And (b::rest) pos) tb):PE X (.BoolOp .And (a::b::rest) pos) (ZON ta tb):=by
 intro vD s σ H Q I h;refine BoolOp_and (thn (ha vD s σ H _ I h) λv s1 ⟨x,H1,I1,r1,q1⟩=>?_);obtain⟨c,rfl,q1⟩:=q1;cases r1;refine v9 ?_;cases c with
 |true=>exact hb vD s1 σ H1 Q I1 q1
 |false=>exact⟨.bl vH,H1,I1,rfl,q1⟩
theorem ZNv(ha:PE X a ta)(hb:PE X (.BoolOp .Or (b::rest) pos) tb):PE X (.BoolOp .Or (a::b::rest) pos) (tOrV ta tb):=by
 intro vD s σ H Q I h;refine BoolOp_or (thn (ha vD s σ H _ I h) λv s1 ⟨x,H1,I1,r1,q1⟩=>?_);obtain⟨c,rfl,q1⟩:=q1;cases r1;refine v9 ?_;cases c with
 |false=>exact hb vD s1 σ H1 Q I1 q1
 |true=>exact⟨.bl vG,H1,I1,rfl,q1⟩
noncomputable def tIf(t:TT)(ta tb:TE):TE:=λσ H Q=>t σ H λc H1=>if c=vG then ta σ H1 Q else tb σ H1 Q
theorem ZSD(hc:PT X c tA)(ha:PE X a ta)(hb:PE X b tb):PE X (.IfExp c a b pos) (tIf tA ta tb):=by
 intro vD s σ H Q I h;refine wpAny_IfExp (thn (hc vD s σ H _ I h) λd s1 ⟨H1,I1,q1⟩=>?_);cases d with
 |true=>exact ha vD s1 σ H1 Q I1 q1
 |false=>exact hb vD s1 σ H1 Q I1 q1
end
def SqL(K:PySem.W.Frag)(H:Hp)(a:xZ)(xs:List V):Prop:=
 Rd H a (.lst xs)∨
  ∃(o:Obj)(its:Array xj)(n:Nat),K.lookup a=vE o/\o.cls=.type "list"/\o.dict=vF/\o.data=.seq its n/\its.size<=sizeLine/\Vals xs its.toList
def SqT(K:PySem.W.Frag)(H:Hp)(a:xZ)(xs:List V):Prop:=
 Rd H a (.tup xs)∨
  ∃(o:Obj)(its:Array xj)(n:Nat),K.lookup a=vE o/\o.cls=.type "tuple"/\o.data=.seq its n/\its.size<=sizeLine/\Vals xs its.toList
noncomputable def absV:xj->Option V
 |.none=>vE .non
 |.bool b=>vE (.bl b)
 |.int i _=>vE (.int i)
 |.str x _=>vE (.str x)
 |.bytes b _=>vE (.byt b)
 |.float b _=>vE (.flt b)
 |.ref a=>vE (.ref a)
 |.type n=>vE (.ty n)
 |_=>vF
theorem RelV.abs{x:V}(r:RelV x u):absV u=vE x:=by
 cases x with
 |non=>cases r;rfl
 |bl _=>cases r;rfl
 |int _=>obtain⟨t,rfl⟩:=r;rfl
 |str _=>obtain⟨t,rfl⟩:=r;rfl
 |byt _=>obtain⟨t,rfl⟩:=r;rfl
 |flt _=>obtain⟨t,rfl⟩:=r;rfl
 |ref _=>cases r;rfl
 |ty _=>cases r;rfl
theorem RelV.inj{x:V}(r:RelV x u)(q:RelV y u):x=y:=Option.some.inj (r.abs.symm.trans q.abs)
theorem Vals.inj:∀{xs ys:List V}{us:List xj},Vals xs us->Vals ys us->xs=ys
 |_,_,_,.nil,.nil=>rfl
 |_,_,_,.cons r t,.cons r' t'=>by rw[r.inj r',Vals.inj t t']
section
variable{X:Cx}{vD:List (xZ×Obj)}{σ:St}{H:Hp}{s:xq}{a:xZ}{xs ys:List V}
theorem SqL.of(h:H a=vE (.lst xs)):SqL K H a xs:=.inl (.inl h)
theorem SqT.of(h:H a=vE (.tup xs)):SqT K H a xs:=.inl (.inl h)
theorem Inv.list(I:Inv X vD σ H s)(h:SqL X.K H a xs):∃its:List xj,Vals xs its/\PlainL s.heap a its.toArray/\xs.length<=sizeLine:=by
 rcases h with h|⟨o,its,n,hk,hc,hd,hs,hz,r⟩
 ·obtain⟨z,its,n,r,e⟩:=h.ok I.hok;exact⟨its,r,⟨_,n,e,rfl,rfl,rfl⟩,z⟩
 ·refine⟨its.toList,r,⟨o,n,I.kIn a o hk,hc,hd,by simpa using hs⟩,?_⟩;have e:=r.length;simp only[qw]at e;lia
theorem Inv.tuple(I:Inv X vD σ H s)(h:SqT X.K H a xs):∃its:List xj,Vals xs its/\IsTup s.heap a its.toArray/\xs.length<=sizeLine:=by
 rcases h with h|⟨o,its,n,hk,hc,hs,hz,r⟩
 ·obtain⟨z,its,r,p⟩:=h.ok I.hok;exact⟨its,r,p,z⟩
 ·refine⟨its.toList,r,⟨o,I.kIn a o hk,hc,n,by simpa using hs⟩,?_⟩;have e:=r.length;simp only[qw]at e;lia
theorem Inv.ZCl(I:Inv X vD σ H s)(h:SqL X.K H a xs)(h':SqL X.K H a ys):xs=ys:=by
 obtain⟨its,r,⟨o,n,e,_,_,d⟩,_⟩:=I.list h;obtain⟨its',r',⟨o',n',e',_,_,d'⟩,_⟩:=I.list h';rw[e]at e';cases e';rw[d]at d';injection d' with d1 _
 have:its=its':=by simpa using congrArg Array.toList d1
 subst this;exact r.inj r'
theorem Inv.ZDI(I:Inv X vD σ H s)(h:SqT X.K H a xs)(h':SqT X.K H a ys):xs=ys:=by
 obtain⟨its,r,⟨o,e,_,n,d⟩,_⟩:=I.tuple h;obtain⟨its',r',⟨o',e',_,n',d'⟩,_⟩:=I.tuple h';rw[e]at e';cases e';rw[d]at d';injection d' with d1 _
 have:its=its':=by simpa using congrArg Array.toList d1
 subst this;exact r.inj r'
end
noncomputable abbrev Cx.wish(X:Cx)(E:xj->xq->Prop):Cx:={X with xe:=E}
noncomputable abbrev Cx.nox(X:Cx):Cx:=X.wish λ_ _=>False
theorem Cx.Ok.wish(ok:X.Ok)(E:xj->xq->Prop):(X.wish E).Ok:=
 ⟨ok.mod,ok.kind,ok.glob,ok.blt,ok.above,ok.inj,ok.has,ok.cab,ok.hd,ok.frames,ok.stk,ok.exf,ok.bs,ok.bsz,ok.noex,ok.exfs,ok.funs,ok.frf⟩
theorem Cx.Ok.unwish(ok:(X.wish E).Ok):X.Ok:=
 ⟨ok.mod,ok.kind,ok.glob,ok.blt,ok.above,ok.inj,ok.has,ok.cab,ok.hd,ok.frames,ok.stk,ok.exf,ok.bs,ok.bsz,ok.noex,ok.exfs,ok.funs,ok.frf⟩
section
variable{X:Cx}{vD:List (xZ×Obj)}{σ:St}{H:Hp}{s:xq}{E:xj->xq->Prop}
theorem Inv.wish(I:Inv X vD σ H s)(E:xj->xq->Prop):Inv (X.wish E) vD σ H s:=⟨I.ok.wish E,I.os,I.bare,I.base,I.loc,I.cell,I.free,I.Jk,I.pin,I.hok,I.len⟩
theorem Inv.unwish(I:Inv (X.wish E) vD σ H s):Inv X vD σ H s:=⟨I.ok.unwish,I.os,I.bare,I.base,I.loc,I.cell,I.free,I.Jk,I.pin,I.hok,I.len⟩
theorem SP.unwish{D:Ends}{f:Flow}{s':xq}(h:SP (X.wish E) vD D f s'):SP X vD D f s':=by
 cases f with
 |next=>obtain⟨σ',H',I,q⟩:=h;exact⟨σ',H',I.unwish,q⟩
 |brk=>obtain⟨σ',H',I,q⟩:=h;exact⟨σ',H',I.unwish,q⟩
 |cont=>obtain⟨σ',H',I,q⟩:=h;exact⟨σ',H',I.unwish,q⟩
 |ret u=>obtain⟨v,σ',H',I,r,q⟩:=h;exact⟨v,σ',H',I.unwish,r,q⟩
theorem PSs.nox{st:List xz}{t:TS}(h:PSs X.nox st t):PSs X st t:=λvD s σ H D I hw=>
 v4 (h vD s σ H D (I.wish _) hw) (λ_ _ q=>q.unwish) λ_ _ z=>False.elim z
end
section
variable{X:Cx}{st:xz}{rest:List xz}{t u:TS}{e:xX}{te:TE}{pos:Pos}
noncomputable def ZNx:TS:=λD σ H=>D.nx σ H
noncomputable def tSeq(t u:TS):TS:=λD σ H=>t {D with nx:=u D} σ H
theorem ZOJ:PSs X [] ZNx:=λ_ _ σ H _ I h=>wpAny_execs_nil ⟨σ,H,I,h⟩
theorem ZLb(h1:PS X st t)(h2:PSs X rest u):PSs X (st::rest) (tSeq t u):=by
 intro vD s σ H D I h;refine wpAny_execs_cons (thn (h1 vD s σ H {D with nx:=u D} I h) λf s1 q=>?_);cases f with
 |next=>
  obtain⟨σ',H',I',q⟩:=q;exact h2 vD s1 σ' H' D I' q
 |ret v=>exact q
 |brk=>exact q
 |cont=>exact q
theorem ZK5(h1:PS X st t):PSs X [st] t:=by
 intro vD s σ H D I h;refine wpAny_execs_cons (thn (h1 vD s σ H D I h) λf s1 q=>?_);cases f with
 |next=>exact wpAny_execs_nil q
 |ret v=>exact q
 |brk=>exact q
 |cont=>exact q
theorem Inv.quiet(I:Inv X vD σ H s):interactive X.env=vH:=by simp[interactive,I.ok.kind]
noncomputable def ZLq(te:TE):TS:=λD σ H=>te σ H λ_ H1=>D.nx σ H1
theorem ZLn(he:PE X e te)(hs:swapsWith e vF pos.line X.env=pure vH:=by rfl):PS X (.Expr e pos) (ZLq te):=by intro vD s σ H D I h;exact wpAny_Expr_any (thn (he vD s σ H _ I h) λv s1 ⟨x,H1,I1,r1,q1⟩=>⟨σ,H1,I1,q1⟩) I.quiet hs
noncomputable def tRet(te:TE):TS:=λD σ H=>te σ H D.rt
theorem ZTC(he:PE X e te):PS X (.Return (vE e) pos) (tRet te):=by intro vD s σ H D I h;exact wpAny_Return_some (thn (he vD s σ H _ I h) λv s1 ⟨x,H1,I1,r1,q1⟩=>⟨x,σ,H1,I1,r1,q1⟩)
noncomputable def tIfS(c:TT)(t u:TS):TS:=λD σ H=>c σ H λb H1=>if b=vG then t D σ H1 else u D σ H1
theorem ZMf{a b:List xz}{tc:TT}(hc:PT X c tc)(ha:PSs X a t)(hb:PSs X b u):PS X (.If c a b pos) (tIfS tc t u):=by
 intro vD s σ H D I h;refine wpAny_If (thn (hc vD s σ H _ I h) λd s1 ⟨H1,I1,q1⟩=>?_);cases d with
 |true=>exact ha vD s1 σ H1 D I1 q1
 |false=>exact hb vD s1 σ H1 D I1 q1
end
noncomputable abbrev TG:=V->St->Hp->(St->Hp->Prop)->Prop
noncomputable abbrev TGs:=List V->St->Hp->(St->Hp->Prop)->Prop
def PG(X:Cx)(target:xX)(t:TG):Prop:=
 ∀(vD:List (xZ×Obj))(s:xq)(σ:St)(H:Hp)(v:V)(u:xj)(Q:St->Hp->Prop),Inv X vD σ H s->RelV v u->t v σ H Q->
  vY (vZ X.prog X.w) X.A (assign target X.env u) (λ_ s'=>∃σ' H',Inv X vD σ' H' s'/\Q σ' H') X.xe s
def PGs(X:Cx)(ts:List xX)(t:TGs):Prop:=
 ∀(vD:List (xZ×Obj))(s:xq)(σ:St)(H:Hp)(vs:List V)(us:List xj)(Q:St->Hp->Prop),Inv X vD σ H s->Vals vs us->t vs σ H Q->
  vY (vZ X.prog X.w) X.A (assignInOrder ((xk ts X.env).map (·.2)) us) (λ_ s'=>∃σ' H',Inv X vD σ' H' s'/\Q σ' H') X.xe s
noncomputable abbrev TSet:=V->V->V->Hp->(Hp->Prop)->Prop
def PSet(X:Cx)(t:TSet):Prop:=
 ∀(vD:List (xZ×Obj))(s:xq)(σ:St)(H:Hp)(o i v:V)(ov iv u:xj)(Q:Hp->Prop),Inv X vD σ H s->RelV o ov->RelV i iv->RelV v u->t o i v H Q->
  vY (vZ X.prog X.w) X.A (setItem ov iv u) (λ_ s'=>∃H',Inv X vD σ H' s'/\Q H') X.xe s
noncomputable abbrev TIp:=V->V->Hp->VK->Prop
def PIp(X:Cx)(op:Operator)(t:TIp):Prop:=
 ∀(vD:List (xZ×Obj))(s:xq)(σ:St)(H:Hp)(x y:V)(v u:xj)(Q:VK),Inv X vD σ H s->RelV x v->RelV y u->t x y H Q->
  vY (vZ X.prog X.w) X.A (inplaceOp op v u) (EP X vD σ Q) X.xe s
section
variable{X:Cx}{pos:Pos}
noncomputable def ZJe(i:Nat):TG:=λv σ H Q=>Q (σ.set i (vE v)) H
theorem ZQG(hN:X.N.Nodup)(hi:X.N[i]?=vE x)(hx:Loc X.env.scope x)(hf:X.fn x=vG∨X.env.scope.names.lookup x=vE .local:=by first|exact .inl rfl|exact .inr rfl|assumption):PG X (.Name x pos) (ZJe i):=by intro vD s σ H v u Q I r h;exact wpAny_assign_Name (ZDT I hN hi hx r (λs' I'=>⟨_,H,I',h⟩) hf)
noncomputable def gNil:TGs:=λvs σ H Q=>vs=[]/\Q σ H
noncomputable def ZQT(t:TG)(u:TGs):TGs:=λvs σ H Q=>∃v r,vs=v::r/\t v σ H λσ' H'=>u r σ' H' Q
theorem ZOx:PGs X [] gNil:=by intro vD s σ H vs us Q I r h;obtain⟨e,h⟩:=h;subst e;cases r;exact assignInOrder_nil ⟨σ,H,I,h⟩
theorem ZRj{es:List xX}{t:TG}{u:TGs}(h1:PG X e t)(h2:PGs X es u)
  (hs:(xk (e::es) X.env).map (·.2)=assign e X.env::(xk es X.env).map (·.2):=by rfl):PGs X (e::es) (ZQT t u):=by
 intro vD s σ H vs us Q I r h;obtain⟨v,vr,e1,h⟩:=h;subst e1;cases r with
 |cons r rr=>
  rw[hs];refine assignInOrder_cons (thn (h1 vD s σ H _ _ _ I r h) λ_ s1 ⟨σ1,H1,I1,q1⟩=>?_);exact h2 vD s1 σ1 H1 _ _ Q I1 rr q1
noncomputable def gTup(K:PySem.W.Frag)(n:Nat)(t:TGs):TG:=λv σ H Q=>∃a xs,v=.ref a/\SqT K H a xs/\xs.length=n/\t xs σ H Q
theorem ZO8{es:List xX}{k:Nat}{t:TGs}{n:Nat}(hc:X.calm=vG)(h:PGs X es t)
  (hn:(xk es X.env).length=n:=by rfl) (hst:(xk es X.env).findIdx? (·.1)=vF:=by rfl):PG X (.Tuple es k pos) (gTup X.K n t):=by
 intro vD s σ H v u Q I r hw;obtain⟨a,xs,e1,hq,hl,hw⟩:=hw;subst e1;cases r;obtain⟨its,rv,ht,hz⟩:=I.tuple hq;refine assign_Tuple_tuple (I.ok.hd hc) ht (by simp[hn,<-hl,rv.length]) hst λh' hx=>?_
 have I1:Inv X vD σ H {s with heap:=h'}:=I.kept (t':=s.toks) λb o e=>hx b o (zE (zj e)) e
 exact h vD _ σ H xs _ Q I1 (by simpa using rv) hw
noncomputable def gSub(to ti:TE)(t:TSet):TG:=λv σ H Q=>to σ H λo H1=>ti σ H1 λi H2=>t o i v H2 λH3=>Q σ H3
theorem ZQ9{o i:xX}{to ti:TE}{t:TSet}(ho:PE X o to)(hi:PE X i ti)(hs:PSet X t)
  (ha:∀v,assign (.Subscript o i pos) X.env v=(do
   let ov<-holding [v] (eval o X.env);let iv<-holding [v,ov] (eval i X.env)
   standAt pos
   holding [v,ov,iv] (setItem ov iv v)
   release [v,ov,iv] []):=by intro _;rfl):PG X (.Subscript o i pos) (gSub to ti t):=by
 intro vD s σ H v u Q I r h;rw[ha];refine vz (vk (thn (ho vD s σ H _ I h) λov s1 ⟨x,H1,I1,r1,q1⟩=>?_));refine vz (vk (thn (hi vD s1 σ H1 _ I1 q1) λiv s2 ⟨y,H2,I2,r2,q2⟩=>?_));refine vz (wpAny_standAt (vz (vk (thn (hs vD s2 σ H2 x y v ov iv u _ I2 r1 r2 r q2) λ_ s3 ⟨H3,I3,q3⟩=>?_))));exact wpAny_release ⟨σ,H3,I3,q3⟩
noncomputable def ZAv(te:TE)(g:TG):TS:=λD σ H=>te σ H λx H1=>g x σ H1 D.nx
theorem ZQX{g:TG}(he:PE X e te)(hg:PG X tg g)(hs:swapsWithSole [tg] e pos.line X.env=pure vH:=by rfl)(hw:swappedStores [tg] e X.env=pure vF:=by rfl)
  (h1:(xk [tg] X.env).map (·.2)=[assign tg X.env]:=by rfl):PS X (.Assign [tg] e pos) (ZAv te g):=by
 intro vD s σ H D I h;refine wpAny_Assign_stores (thn (he vD s σ H _ I h) λv s1 ⟨x,H1,I1,r1,q1⟩=>?_) hs hw;rw[h1];exact thn (hg vD s1 σ H1 x v _ I1 r1 q1) λ_ s2 q=>q
theorem ZLV{pos':Pos}(hN:X.N.Nodup)(hi:X.N[i]?=vE x)(hx:Loc X.env.scope x)(he:PE X e te)(hs:swapsWith e (vE (.Name x pos')) pos.line X.env=pure vH:=by rfl)(hf:X.fn x=vG∨X.env.scope.names.lookup x=vE .local:=by first|exact .inl rfl|exact .inr rfl|assumption):
  PS X (.Assign [.Name x pos'] e pos) (ZAv te (ZJe i)):=by
 intro vD s σ H D I h;refine wpAny_Assign_Name (thn (he vD s σ H _ I h) λv s1 ⟨y,H1,I1,r1,q1⟩=>?_) hs;exact ZDT I1 hN hi hx r1 (λs2 I2=>⟨_,H1,I2,q1⟩) hf
noncomputable def tAug(i:Nat)(te:TE)(ti:TIp):TS:=λD σ H=>∃x,σ[i]?=vE (vE x)/\te σ H λy H1=>ti x y H1 λz H2=>D.nx (σ.set i (vE z)) H2
theorem ZMT{op:Operator}{ti:TIp}{pos':Pos}(hN:X.N.Nodup)(hi:X.N[i]?=vE x)(hx:Loc X.env.scope x)(he:PE X e te)(ho:PIp X op ti)(hf:X.fn x=vG∨X.env.scope.names.lookup x=vE .local:=by first|exact .inl rfl|exact .inr rfl|assumption):
  PS X (.AugAssign (.Name x pos') op e pos) (tAug i te ti):=by
 intro vD s σ H D I h;obtain⟨v,e1,h⟩:=h;obtain⟨m,hn,hl⟩:=I.loc;have vis:Vis X.env.scope x:=by rcases hx with k|k;exact .inl k;exact .inr (.inl k)
 obtain⟨u,r,l⟩:=hl i x v hi e1 vis;refine wpAny_AugAssign_Name ?_
 have go:vY (vZ X.prog X.w) X.A (eval e X.env) (λw s₂=>vY (vZ X.prog X.w) X.A (inplaceOp op u w) (λr s₃=>vY (vZ X.prog X.w) X.A (storeName X.env x r) (λ_=>SP X vD D .next) X.xe s₃) X.xe s₂) X.xe s:=by
  refine thn (he vD s σ H _ I h) λw s1 ⟨y,H1,I1,r1,q1⟩=>?_
  refine thn (ho vD s1 σ H1 v y u w _ I1 r r1 q1) λz s2 ⟨zv,H2,I2,r2,q2⟩=>?_
  exact ZDT I2 hN hi hx r2 (λs3 I3=>⟨_,H2,I3,q2⟩) hf
 rcases l with⟨hk,hm⟩|⟨hk,c,hc,hcell⟩
 ·exact wpAny_loadName_local I.ok.kind hk hn hm go
 ·rcases hk with hk|hk
  ·exact wpAny_loadName_cell I.ok.kind hk hc hcell go
  ·rcases hx with k|k
   ·have:X.env.scope.names.lookup x=vE .free:=hk;rw[k]at this;cases this
   ·have:X.env.scope.names.lookup x=vE .free:=hk;rw[k]at this;cases this
noncomputable def ipI(f:Int->Int->Int):TIp:=λx y H Q=>∃i j,x=.int i/\y=.int j/\Q (.int (f i j)) H
theorem ZLH:PIp X .Add (ipI λi j=>i+j):=by intro vD s σ H x y v u Q I r1 r2 h;obtain⟨i,j,e1,e2,q⟩:=h;subst e1;subst e2;obtain⟨t,rfl⟩:=r1;obtain⟨t',rfl⟩:=r2;exact iadd_int ⟨.int _,H,I.tok _,⟨_,rfl⟩,q⟩
theorem ZK4:PIp X .Sub (ipI λi j=>i-j):=by intro vD s σ H x y v u Q I r1 r2 h;obtain⟨i,j,e1,e2,q⟩:=h;subst e1;subst e2;obtain⟨t,rfl⟩:=r1;obtain⟨t',rfl⟩:=r2;exact isub_int ⟨.int _,H,I.tok _,⟨_,rfl⟩,q⟩
end
section
variable{X:Cx}{pos:Pos}
def ZSm(c:TT)(tb:TS):TS:=λD σ H=>∃W:Nat->St->Hp->Prop,(∃m,W m σ H)/\∀m σ H,W m σ H->
 c σ H λb H1=>if b=vG then∃N:St->Hp->Prop,(∀σ' H',N σ' H'->∃m',m'<m/\W m' σ' H')/\tb {D with nx:=N,ct:=N,bk:=D.nx} σ H1 else D.nx σ H1
theorem ZSP{tc:TT}{tb:TS}(hp:PassesOwn (vZ X.prog X.w) X.A X.env X.xe)(hc:PT X c tc)(hb:PSs X body tb):PS X (.While c body [] pos) (ZSm tc tb):=by
 intro vD s σ H D I h;obtain⟨W,⟨m0,w0⟩,turn⟩:=h;refine wpAny_While (codeAny_whileLoop (λn s'=>∃σ' H',Inv X vD σ' H' s'/\W n σ' H') ?_ m0 ⟨σ,H,I,w0⟩);rintro n s1 ⟨σ1,H1,I1,w1⟩;refine v6 hp (thn (hc vD s1 σ1 H1 _ I1 (turn n σ1 H1 w1)) λb s2 ⟨H2,I2,q2⟩=>?_);cases b with
 | true=>
  obtain⟨N,hN,q2⟩:=q2;rw[if_pos rfl];refine v6 hp (thn (hb vD s2 σ1 H2 _ I2 q2) λf s3 q3=>?_);cases f with
  |next=>
   obtain⟨σ3,H3,I3,n3⟩:=q3;obtain⟨m',hm,w3⟩:=hN σ3 H3 n3;exact⟨m',hm,σ3,H3,I3,w3⟩
  |cont=>
   obtain⟨σ3,H3,I3,n3⟩:=q3;obtain⟨m',hm,w3⟩:=hN σ3 H3 n3;exact⟨m',hm,σ3,H3,I3,w3⟩
  |brk=>exact q3
  |ret v=>exact q3
 |false=>
  rw[if_neg zy];exact wpAny_execs_nil ⟨σ1,H2,I2,q2⟩
end
structure It where
 go:Nat->Hp->Prop
 yld:Nat->Hp->V->Hp->Prop
 stop:Nat->Hp->Prop
def FpOk(X:Cx)(vD:List (xZ×Obj))(H:Hp)(b:xZ):Prop:=
 H b=vF/\b≠X.env.locals/\b∉X.fs/\(b∈X.ex∨X.s₀.heap.objs.size<=b)/\(∀x c,X.env.cells.lookup x=vE c->c≠b)/\∀p∈X.pn++vD,p.1≠b
theorem Inv.Kg{H':Hp}(I:Inv X vD σ H s)(hb:s.heap.objs.size<=b)(hn:H' b=vF):FpOk X vD H' b:=by
 refine⟨hn,jJ (zq I.lt hb),I.nofs hb,.inr (zB I.sz hb),λx c e z=>?_,λp hp z=>?_⟩
 ·obtain⟨v,q⟩:=I.cell x c e;exact absurd (zq q.lt (by rw[z];exact hb)) (zT _)
 ·exact absurd (zq (zj (I.pin p hp).1) (by rw[z];exact hb)) (zT _)
structure Turn (P:xK) (w:xw) (K:PySem.W.Frag) (tg:xX) (J:It) (fp:List xZ) (it:xZ) (tn:Nat->Heap->Prop):Prop where
 mem:it∈fp
 obj:∀i h,tn i h->∀b∈fp,∃o,h.get? b=vE o/\∀v,o.data≠ .cell v
 keep:∀i h h',tn i h->(∀b∈fp,∀o,h.get? b=vE o->h'.get? b=vE o)->tn i h'
 item:∀(X:Cx),X.prog=P->X.w=w->X.K=K->X.calm=vG->∀(i:Nat)(vD:List (xZ×Obj))(s:xq)(σ:St)(H:Hp)(E:xj->xq->Prop),Inv X vD σ H s->(∀b∈fp,FpOk X vD H b)->tn i s.heap->J.go i H->
  vY (vZ P w) X.A (pyNext (.ref it)) (λr s1=>∃u,r=vE u/\
   vY (vZ P w) X.A (xU tg (.ref it) u) (λ_ s2=>∃x H',Inv X vD σ H' s2/\RelV x u/\J.yld i H x H'/\tn (i+1) s2.heap/\∀b∈fp,H' b=vF) E s1) E s
 done:∀(X:Cx),X.prog=P->X.w=w->X.K=K->X.calm=vG->∀(i:Nat)(vD:List (xZ×Obj))(s:xq)(σ:St)(H:Hp)(E:xj->xq->Prop),Inv X vD σ H s->(∀b∈fp,FpOk X vD H b)->tn i s.heap->J.stop i H->
  vY (vZ P w) X.A (pyNext (.ref it)) (λr s1=>r=vF/\Inv X vD σ H s1) E s
 self:∀(A:xJ)(i:Nat)(s:xq)(Q:xj->xq->Prop)(E:xj->xq->Prop),tn i s.heap->Q (.ref it) s->vY (vZ P w) A (pyIter (.ref it)) Q E s
noncomputable abbrev TI:=St->Hp->(It->Hp->Prop)->Prop
def PIE(X:Cx)(vD:List (xZ×Obj))(σ:St)(tg:xX)(R:It->Hp->Prop)(itv:xj)(s2:xq):Prop:=
 ∃(it:xZ)(fp:List xZ)(tn:Nat->Heap->Prop)(J:It)(H':Hp),itv=.ref it/\Inv X vD σ H' s2/\Turn X.prog X.w X.K tg J fp it tn/\tn 0 s2.heap/\(∀b∈fp,FpOk X vD H' b)/\R J H'
def PI(X:Cx)(tg iter:xX)(wi:TI):Prop:=
 ∀(vD:List (xZ×Obj))(s:xq)(σ:St)(H:Hp)(R:It->Hp->Prop),Inv X vD σ H s->wi σ H R->
  vY (vZ X.prog X.w) X.A (eval iter X.env) (λv s1=>vY (vZ X.prog X.w) X.A (pyIter v) (PIE X vD σ tg R) X.xe s1) X.xe s
theorem Pb{M:Model}{it:xZ}{o:Obj}{n:String}{vs:Array xj}{Q:Unit->xq->Prop}(ho:s.heap.get? it=vE o)(hc:o.cls=.type n)(hd:o.data=.fields vs)
  (hn: ["enumerate","zip","dict_itemiterator","dict_reverseitemiterator","odict_iterator","itertools.zip_longest","itertools.pairwise"].contains n=vH) (hQ:Q () s):vY M A (xU tg (.ref it) u) Q E s:=by
 unfold xU
 cases tg<;>first
  |exact v7 hQ
  | (cases u<;>first
    |exact v7 hQ
    | (
      refine vz (wpAny_load ho ?_);rw[hc,hd];show vY M A (if(["enumerate","zip","dict_itemiterator","dict_reverseitemiterator","odict_iterator","itertools.zip_longest","itertools.pairwise"].contains n&&vs[0]?==vE (vJ _))=vG then _ else _) Q E s;rw[if_neg (by intro h;rw[hn,Bool.false_and]at h;cases h)];exact v7 hQ))
noncomputable def Itl(K:PySem.W.Frag)(a:xZ):It:=
 ⟨λi H=>∃xs x,SqL K H a xs/\xs[i]?=vE x,λi H x H'=>H'=H/\∀xs,SqL K H a xs->xs[i]?=vE x,λi H=>∃xs,SqL K H a xs/\xs.length<=i⟩
noncomputable def Itt(K:PySem.W.Frag)(a:xZ):It:=
 ⟨λi H=>∃xs x,SqT K H a xs/\xs[i]?=vE x,λi H x H'=>H'=H/\∀xs,SqT K H a xs->xs[i]?=vE x,λi H=>∃xs,SqT K H a xs/\xs.length<=i⟩
noncomputable def Itr(lo:Int)(n:Nat):It:=⟨λi _=>i<n,λi H x H'=>H'=H/\x=.int (lo+i),λi _=>n<=i⟩
theorem ZO0(a it:xZ):Turn P w K tg (Itl K a) [it] it (λi h=>h.IsListIter it a i) where
 mem:=by simp
 obj:=λi h st b hb=>by
  have e:b=it:=by simpa using hb
  subst e;obtain⟨o,e,c,d⟩:=st;exact⟨o,e,λv z=>by rw[d]at z;cases z⟩
 keep:=λi h h' st k=>st.at λo e=>k it (by simp) o e
 item:=by
  intro X hP hw hK hc i vD s σ H E I hf st hg;subst hP hw hK;obtain⟨xs,x,hq,hx⟩:=hg;obtain⟨its,rv,p,hz⟩:=I.list hq;obtain⟨u,hu,ru⟩:=rv.get hx;obtain⟨f0,f1,f2,f3,f4,f5⟩:=hf it (by simp);refine wpAny_pyNext_list_item st p.isList (x:=u) (by simpa using hu) λh' st' sb=>?_
  have I1:Inv X vD σ H {s with heap:=h'}:=I.turned (t':=s.toks) (λb o hb e=>(sb.2 b hb).trans e) f0 f1 f3 f4 f5;obtain⟨o,e,c,d⟩:=id st';exact⟨u,rfl,Pb (s:={s with heap:=h'}) e c d (by decide) ⟨x,H,I1,ru,⟨rfl,λys hy=>by rw[I.ZCl hy hq];exact hx⟩,st',λb hb=>(hf b hb).1⟩⟩
 done:=by intro X hP hw hK hc i vD s σ H E I hf st hg;subst hP hw hK;obtain⟨xs,hq,hx⟩:=hg;obtain⟨its,rv,p,hz⟩:=I.list hq;obtain⟨f0,f1,f2,f3,f4,f5⟩:=hf it (by simp);have hl:=rv.length;exact wpAny_pyNext_list_end (I.ok.hd hc) st p.isList (by simp;lia) λh' eb=>⟨rfl,I.turned (t':=s.toks) (λb o hb e=>eb b o hb e) f0 f1 f3 f4 f5⟩
 self:=λ_ _ _ _ _ st h=>wpAny_pyIter_listiter st h
theorem ZMH(a it:xZ):Turn P w K tg (Itt K a) [it] it (λi h=>h.IsTupleIter it a i) where
 mem:=by simp
 obj:=λi h st b hb=>by
  have e:b=it:=by simpa using hb
  subst e;obtain⟨o,e,c,d⟩:=st;exact⟨o,e,λv z=>by rw[d]at z;cases z⟩
 keep:=λi h h' st k=>st.at λo e=>k it (by simp) o e
 item:=by
  intro X hP hw hK hc i vD s σ H E I hf st hg;subst hP hw hK;obtain⟨xs,x,hq,hx⟩:=hg;obtain⟨its,rv,p,hz⟩:=I.tuple hq;obtain⟨u,hu,ru⟩:=rv.get hx;obtain⟨f0,f1,f2,f3,f4,f5⟩:=hf it (by simp)
  refine wpAny_pyNext_tuple_item st (show s.heap.IsTuple a its.toArray from p) (x:=u) (by simpa using hu) λh' st' sb=>?_
  have I1:Inv X vD σ H {s with heap:=h'}:=I.turned (t':=s.toks) (λb o hb e=>(sb.2 b hb).trans e) f0 f1 f3 f4 f5;obtain⟨o,e,c,d⟩:=id st';exact⟨u,rfl,Pb (s:={s with heap:=h'}) e c d (by decide) ⟨x,H,I1,ru,⟨rfl,λys hy=>by rw[I.ZDI hy hq];exact hx⟩,st',λb hb=>(hf b hb).1⟩⟩
 done:=by
  intro X hP hw hK hc i vD s σ H E I hf st hg;subst hP hw hK;obtain⟨xs,hq,hx⟩:=hg;obtain⟨its,rv,p,hz⟩:=I.tuple hq;obtain⟨f0,f1,f2,f3,f4,f5⟩:=hf it (by simp);have hl:=rv.length
  exact wpAny_pyNext_tuple_end (I.ok.hd hc) st (show s.heap.IsTuple a its.toArray from p) (by simp;lia) λh' eb=>⟨rfl,I.turned (t':=s.toks) (λb o hb e=>eb b o hb e) f0 f1 f3 f4 f5⟩
 self:=λ_ _ _ _ _ st h=>wpAny_pyIter_tupleiter st h
theorem ZSI(it:xZ)(lo:Int)(n:Nat):Turn P w K tg (Itr lo n) [it] it (λi h=>IsRangeIter h it (lo+(i:Nat)*1) ((n:Int)-(i:Nat)) 1) where
 mem:=by simp
 obj:=λi h st b hb=>by
  have e:b=it:=by simpa using hb
  subst e;exact⟨_,st,λv z=>by have z':Data.fields _=Data.cell v:=z;cases z'⟩
 keep:=λi h h' st k=>k it (by simp) _ st
 item:=by
  intro X hP hw hK hc i vD s σ H E I hf st hg;subst hP hw hK;obtain⟨f0,f1,f2,f3,f4,f5⟩:=hf it (by simp);have W:=Walks.range (prog:=X.prog) (w:=X.w) (I.ok.hd hc) it lo 1 n;refine W.item i s _ _ hg st λv h' tk hv st' kk=>?_
  obtain⟨t,rfl⟩:=hv;have I1:Inv X vD σ H {s with heap:=h',toks:=tk}:=I.turned (λb o hb e=>kk b o (by simpa using hb) e) f0 f1 f3 f4 f5;refine⟨_,rfl,Pb (s:={s with heap:=h',toks:=tk}) (n:="range_iterator") st' rfl rfl (by decide) ⟨.int (lo+i),H,I1,⟨t,?_⟩,⟨rfl,rfl⟩,st',λb hb=>(hf b hb).1⟩⟩;rw[Int.mul_one]
 done:=by intro X hP hw hK hc i vD s σ H E I hf st hg;subst hP hw hK;obtain⟨f0,f1,f2,f3,f4,f5⟩:=hf it (by simp);exact wpAny_pyNext_range_end (I.ok.hd hc) st (by have:n<=i:=hg;lia) λh' eb=>⟨rfl,I.turned (t':=s.toks) (λb o hb e=>eb b o hb e) f0 f1 f3 f4 f5⟩
 self:=λ_ _ _ _ _ st h=>wpAny_pyIter_rangeiter st h
section
variable{X:Cx}{tg:xX}
def ZLj(K:PySem.W.Frag)(tl:TE):TI:=λσ H R=>tl σ H λx H1=>∃a,x=.ref a/\(∃xs,SqL K H1 a xs)/\R (Itl K a) H1
def iTup(K:PySem.W.Frag)(tl:TE):TI:=λσ H R=>tl σ H λx H1=>∃a,x=.ref a/\(∃xs,SqT K H1 a xs)/\R (Itt K a) H1
theorem ZCu{l:xX}{tl:TE}(hl:PE X l tl):PI X tg l (ZLj X.K tl):=by
 intro vD s σ H R I h;refine thn (hl vD s σ H _ I h) λv s1 ⟨x,H1,I1,r1,q1⟩=>?_
 obtain⟨a,e,⟨xs,hq⟩,q⟩:=q1;subst e;cases r1;obtain⟨its,rv,p,hz⟩:=I1.list hq;refine wpAny_pyIter_list p.isList ?_;refine⟨s1.heap.objs.size,[s1.heap.objs.size],_,_,H1,rfl,I1.kept (t':=s1.toks) λb o e=>zQ _ e,ZO0 a _,⟨_,z0 _ rfl,rfl,rfl⟩,λb hb=>?_,q⟩;have e:b=s1.heap.objs.size:=by simpa using hb
 subst e;exact I1.Kg (zK _) (I1.hok.fresh (zK _))
theorem ZQ1{l:xX}{tl:TE}(hl:PE X l tl):PI X tg l (iTup X.K tl):=by
 intro vD s σ H R I h;refine thn (hl vD s σ H _ I h) λv s1 ⟨x,H1,I1,r1,q1⟩=>?_
 obtain⟨a,e,⟨xs,hq⟩,q⟩:=q1;subst e;cases r1;obtain⟨its,rv,p,hz⟩:=I1.tuple hq
 refine wpAny_pyIter_tuple (show s1.heap.IsTuple a its.toArray from p) ?_
 refine⟨s1.heap.objs.size,[s1.heap.objs.size],_,_,H1,rfl,I1.kept (t':=s1.toks) λb o e=>zQ _ e,ZMH a _,⟨_,z0 _ rfl,rfl,rfl⟩,λb hb=>?_,q⟩;have e:b=s1.heap.objs.size:=by simpa using hb
 subst e;exact I1.Kg (zK _) (I1.hok.fresh (zK _))
theorem ZRI{R:It->Hp->Prop}{lo hi:Int}{t u v:Tok}{tk:Nat}(I:Inv X vD σ H s)(h1: -(2^62)<=lo)(h2:lo<2^62)(h3: -(2^62)<=hi)(h4:hi<2^62)
  (q:R (Itr lo (hi-lo).toNat) H):vY (vZ X.prog X.w) X.A (pyIter (.ref s.heap.objs.size)) (PIE X vD σ tg R) E {s with heap:=s.heap.push {cls:=.type "range",data:=.fields #[.int lo t,.int hi u,.int 1 v]},toks:=tk}:=by
 refine wpAny_pyIter_range (IsRange.new ..) (small_one h1 h2 h3 h4) ?_;have I1:Inv X vD σ H {s with heap:=s.heap.push {cls:=.type "range",data:=.fields #[.int lo t,.int hi u,.int 1 v]},toks:=tk}:=I.kept λb o e=>zQ _ e
 refine⟨(s.heap.push {cls:=.type "range",data:=.fields #[.int lo t,.int hi u,.int 1 v]}).objs.size,[(s.heap.push {cls:=.type "range",data:=.fields #[.int lo t,.int hi u,.int 1 v]}).objs.size],_,_,H,rfl,
  I1.kept (t':=tk) λb o e=>zQ _ e,ZSI _ lo (hi-lo).toNat,?_,λb hb=>?_,q⟩
 ·have e1:lo+((0:Nat):Int)*1=lo:=by simp
  have e2:(((hi-lo).toNat:Nat):Int)-((0:Nat):Int)=Builtin.Range.rangeSize lo hi 1:=by rw[rangeSize_one];split <;> lia
  show IsRangeIter _ _ (lo+((0:Nat):Int)*1) ((((hi-lo).toNat:Nat):Int)-((0:Nat):Int)) 1;rw[e1,e2];exact z0 _ rfl
 ·have e:b=(s.heap.push {cls:=.type "range",data:=.fields #[.int lo t,.int hi u,.int 1 v]}).objs.size:=by simpa using hb
  subst e;exact I1.Kg (zK _) (I1.hok.fresh (zK _))
def ZRM(ta:TA):TI:=λσ H R=>ta σ H λvs H1=>∃j:Int,vs=[.int j]/\ -(2^62)<=j/\j<2^62/\R (Itr 0 j.toNat) H1
theorem ZPg{a:xX}{ta:TA}{p pos:Pos}(hg:Gl X "range")(hm:X.mg "range"=vF)(ha:PA X [a] ta)(hs:vW [a] X.env=[(vH,eval a X.env)]:=by rfl):PI X tg (.Call (.Name "range" p) [a] [] pos) (ZRM ta):=by
 intro vD s σ H R I h;refine Call_ (Jq I hg hm boot_range (PyProof.Rows.callWith_type1 (thn (ha pos vD s σ H _ I h) λus s1 ⟨vs,H1,I1,r1,q1⟩=>?_) hs rfl));obtain⟨j,e,q1,q2,q⟩:=q1;subst e;cases r1 with
 |cons r rr=>
  cases rr;obtain⟨t,rfl⟩:=r;exact call_range_1 (ZRI I1 (by lia) (by lia) q1 q2 (by simpa using q))
def tFor(wi:TI)(g:TG)(tb:TS):TS:=λD σ H=>wi σ H λJ H1=>∃W:Nat->Nat->St->Hp->Prop,(∃m,W 0 m σ H1)/\∀i m σ H,W i m σ H->
 (J.stop i H/\D.nx σ H)∨(J.go i H/\∃N:St->Hp->Prop,(∀σ' H',N σ' H'->∃m',m'<m/\W (i+1) m' σ' H')/\∀x H',J.yld i H x H'->g x σ H' λσ2 H2=>tb {D with nx:=N,ct:=N,bk:=D.nx} σ2 H2)
noncomputable def Q5(fp:List xZ)(h:Heap):List (xZ×Obj):=fp.filterMap λb=>(h.get? b).map λo=>(b,o)
theorem Wq{o:Obj}(hb:b∈fp)(e:h.get? b=vE o):(b,o)∈Q5 fp h:=List.mem_filterMap.mpr ⟨b,hb,by rw[e];rfl⟩
theorem ZGm{p:xZ×Obj}(hp:p∈Q5 fp h):p.1∈fp/\h.get? p.1=vE p.2:=by
 obtain⟨b,hb,e⟩:=List.mem_filterMap.mp hp;cases q:h.get? b with
 |none=>rw[q]at e;cases e
 |some o=>
  rw[q]at e;have e':(b,o)=p:=Option.some.inj e;subst e';exact⟨hb,q⟩
theorem Inv.pinned(I:Inv X vD σ H s)(hf:∀b∈fp,FpOk X vD H b)(ho:∀b∈fp,∃o,s.heap.get? b=vE o/\∀v,o.data≠ .cell v):Inv X (vD++Q5 fp s.heap) σ H s:=
 I.Mi λp hp=>(j7.mp hp).elim (λz=>I.pin p (zN _ z)) λz=>by obtain⟨hb,e⟩:=ZGm z;obtain⟨f0,f1,f2,_⟩:=hf p.1 hb;obtain⟨o,e',d⟩:=ho p.1 hb;rw[e]at e';cases e';exact⟨e,f0,f1,f2,d⟩
theorem Inv.unpinned{pl:List (xZ×Obj)}(I:Inv X (vD++pl) σ H s):Inv X vD σ H s:=I.Mi λp hp=>I.pin p (zN _ (jO _ hp))
theorem ZOn{iter:xX}{wi:TI}{g:TG}{tb:TS}{pos:Pos}(hp:PassesOwn (vZ X.prog X.w) X.A X.env X.xe)(hc:X.calm=vG)(hi:PI X tg iter wi)(hg:PG X tg g)(hb:PSs X body tb)
  (hs:∀x,foldedSetIterable iter X.env x=pure x:=by intro _;rfl):PS X (.For tg iter body [] pos) (tFor wi g tb):=by
 intro vD s σ H D I h;refine wpAny_For (thn (hi vD s σ H _ I h) λv s1 h1=>thn h1 λitv s2 h2=>?_) hs;obtain⟨it,fp,tn,J,H2,e,I2,T,st2,f2,W,⟨m0,w0⟩,turn⟩:=h2;subst e;have stat:∀{H':Hp},(∀b∈fp,H' b=vF)->∀b∈fp,FpOk X vD H' b:=λhn b hb=>⟨hn b hb,(f2 b hb).2⟩
 refine codeAny_forLoop_any (λn s'=>∃i σ' H',Inv X vD σ' H' s'/\tn i s'.heap/\(∀b∈fp,H' b=vF)/\W i n σ' H') ?_ m0 ⟨0,σ,H2,I2,st2,λb hb=>(f2 b hb).1,w0⟩;rintro n s3 ⟨i,σ3,H3,I3,st3,fr3,w3⟩;rcases turn i n σ3 H3 w3 with⟨stop,qn⟩|⟨go,N,hN,step⟩
 ·refine v6 hp (thn (T.done X rfl rfl rfl hc i vD s3 σ3 H3 X.xe I3 (stat fr3) st3 stop) λr s4 ⟨hr,I4⟩=>?_);subst hr;exact wpAny_execs_nil ⟨σ3,H3,I4,qn⟩
 ·refine v6 hp (thn (T.item X rfl rfl rfl hc i vD s3 σ3 H3 X.xe I3 (stat fr3) st3 go) λr s4 ⟨u,hr,h4⟩=>?_);subst hr;refine v6 hp (thn h4 λ_ s5 ⟨x,H5,I5,r5,y5,st5,fr5⟩=>?_);have I5':=I5.pinned (stat fr5) (T.obj _ _ st5);refine v6 hp (thn (hg _ s5 σ3 H5 x u _ I5' r5 (step x H5 y5)) λ_ s6 ⟨σ6,H6,I6,q6⟩=>?_);refine v6 hp (thn (hb _ s6 σ6 H6 _ I6 q6) λf s7 q7=>?_)
  have again:∀{σ7:St}{H7:Hp},Inv X (vD++Q5 fp s5.heap) σ7 H7 s7->N σ7 H7->∃m,m<n/\∃i σ' H',Inv X vD σ' H' s7/\tn i s7.heap/\(∀b∈fp,H' b=vF)/\W i m σ' H':=λ{σ7 H7}I7 n7=>by obtain⟨m',hm,w7⟩:=hN σ7 H7 n7;refine⟨m',hm,i+1,σ7,H7,I7.unpinned,T.keep _ _ _ st5 λb hb o e=>(I7.pin (b,o) (zN _ (zN _ (Wq hb e)))).1,λb hb=>?_,w7⟩;obtain⟨o,e,d⟩:=T.obj _ _ st5 b hb;exact(I7.pin (b,o) (zN _ (zN _ (Wq hb e)))).2.1
  cases f with
  |next=>obtain⟨σ7,H7,I7,n7⟩:=q7;exact again I7 n7
  |cont=>obtain⟨σ7,H7,I7,n7⟩:=q7;exact again I7 n7
  |brk=>obtain⟨σ7,H7,I7,q7⟩:=q7;exact⟨σ7,H7,I7.unpinned,q7⟩
  |ret v=>obtain⟨x7,σ7,H7,I7,r7,q7⟩:=q7;exact⟨x7,σ7,H7,I7.unpinned,r7,q7⟩
end
noncomputable abbrev R2:=V->V->Hp->VK->Prop
variable{r:R2}
def OpR(X:Cx)(f:xj->xj->Sem xj)(r:R2):Prop:=
 ∀(vD:List (xZ×Obj))(s:xq)(σ:St)(H:Hp)(x y:V)(v u:xj)(Q:VK),Inv X vD σ H s->RelV x v->RelV y u->r x y H Q->
  vY (vZ X.prog X.w) X.A (f v u) (EP X vD σ Q) X.xe s
def UnR(X:Cx)(f:xj->Sem xj)(r:V->Hp->VK->Prop):Prop:=
 ∀(vD:List (xZ×Obj))(s:xq)(σ:St)(H:Hp)(x:V)(v:xj)(Q:VK),Inv X vD σ H s->RelV x v->r x H Q->
  vY (vZ X.prog X.w) X.A (f v) (EP X vD σ Q) X.xe s
def CallR(X:Cx)(f:xj)(r:List V->Hp->VK->Prop):Prop:=
 ∀(vD:List (xZ×Obj))(s:xq)(σ:St)(H:Hp)(xs:List V)(us:List xj)(Q:VK),Inv X vD σ H s->Vals xs us->r xs H Q->
  vY (vZ X.prog X.w) X.A (call f us) (EP X vD σ Q) X.xe s
noncomputable def tOp(r:R2)(ta tb:TE):TE:=λσ H Q=>ta σ H λx H1=>tb σ H1 λy H2=>r x y H2 Q
noncomputable def tUn(r:V->Hp->VK->Prop)(ta:TE):TE:=λσ H Q=>ta σ H λx H1=>r x H1 Q
noncomputable def rI(C:Int->Int->Prop)(g:Int->Int->V):R2:=λx y H Q=>∃i j,x=.int i/\y=.int j/\C i j/\Q (g i j) H
noncomputable def rI0(g:Int->Int->V):R2:=λx y H Q=>∃i j,x=.int i/\y=.int j/\Q (g i j) H
def rU(g:Int->V):V->Hp->VK->Prop:=λx H Q=>∃i,x=.int i/\Q (g i) H
section
variable{X:Cx}{a b c:xX}{ta tb tc:TE}{pos:Pos}
theorem ZAi(ha:PE X a ta)(hb:PE X b tb){R:V->V->Hp->Prop}(I:Inv X vD σ H s)
  (h:ta σ H λx H1=>tb σ H1 λy H2=>R x y H2) {Q:xj->xq->Prop} {f:xj->xj->Sem xj}
  (hf:∀v u s2 x y H2,Inv X vD σ H2 s2->RelV x v->RelV y u->R x y H2->vY (vZ X.prog X.w) X.A (f v u) Q X.xe s2):
  vY (vZ X.prog X.w) X.A (eval a X.env) (λv s₁=>vY (vZ X.prog X.w) X.A (eval b X.env) (λu s₂=>vY (vZ X.prog X.w) X.A (f v u) Q X.xe s₂) X.xe s₁) X.xe s:=by
 refine thn (ha vD s σ H _ I h) λv s1 ⟨x,H1,I1,r1,q1⟩=>?_
 refine thn (hb vD s1 σ H1 _ I1 q1) λu s2 ⟨y,H2,I2,r2,q2⟩=>?_
 exact hf v u s2 x y H2 I2 r1 r2 q2
theorem ZNa{op:Operator}(ho:OpR X (xD op) r)(ha:PE X a ta)(hb:PE X b tb):PE X (.BinOp a op b pos) (tOp r ta tb):=by intro vD s σ H Q I h;exact wpAny_BinOp (ZAi ha hb I h λv u s2 x y H2 I2 rx ry q=>ho vD s2 σ H2 x y v u Q I2 rx ry q)
theorem ZLY{op:UnaryOp}{r:V->Hp->VK->Prop}(ho:UnR X (unaryOp op) r)(ha:PE X a ta):PE X (.UnaryOp op a pos) (tUn r ta):=by intro vD s σ H Q I h;exact UnaryOp_ (thn (ha vD s σ H _ I h) λv s1 ⟨x,H1,I1,r1,q1⟩=>ho vD s1 σ H1 x v Q I1 r1 q1)
theorem opI{C:Int->Int->Prop}{g:Int->Int->Int}
  (rule:∀(i j:Int)(t u:Tok)(s:xq)(Q:xj->xq->Prop)(E:xj->xq->Prop),C i j->Q (.int (g i j) s.toks) {s with toks:=s.toks+1}->vY (vZ X.prog X.w) X.A (f (.int i t) (.int j u)) Q E s):
  OpR X f (rI C λi j=>.int (g i j)):=by
 intro vD s σ H x y v u Q I rx ry h;obtain⟨i,j,rfl,rfl,hc,q⟩:=h;obtain⟨t,rfl⟩:=rx;obtain⟨t',rfl⟩:=ry;exact rule i j t t' s _ _ hc ⟨.int (g i j),H,I.tok _,⟨_,rfl⟩,q⟩
theorem opI0{g:Int->Int->Int}
  (rule:∀(i j:Int)(t u:Tok)(s:xq)(Q:xj->xq->Prop)(E:xj->xq->Prop),Q (.int (g i j) s.toks) {s with toks:=s.toks+1}->vY (vZ X.prog X.w) X.A (f (.int i t) (.int j u)) Q E s):
  OpR X f (rI0 λi j=>.int (g i j)):=by
 intro vD s σ H x y v u Q I rx ry h;obtain⟨i,j,rfl,rfl,q⟩:=h;obtain⟨t,rfl⟩:=rx;obtain⟨t',rfl⟩:=ry;exact rule i j t t' s _ _ ⟨.int (g i j),H,I.tok _,⟨_,rfl⟩,q⟩
theorem ZAJ{g:Int->Int->Bool}
  (rule:∀(i j:Int)(t u:Tok)(s:xq)(Q:xj->xq->Prop)(E:xj->xq->Prop),Q (.bool (g i j)) s->vY (vZ X.prog X.w) X.A (f (.int i t) (.int j u)) Q E s):
  OpR X f (rI0 λi j=>.bl (g i j)):=by
 intro vD s σ H x y v u Q I rx ry h;obtain⟨i,j,rfl,rfl,q⟩:=h;obtain⟨t,rfl⟩:=rx;obtain⟨t',rfl⟩:=ry;exact rule i j t t' s _ _ ⟨.bl (g i j),H,I,rfl,q⟩
def CPow(i j:Int):Prop:=0<=j/\j<=1000000/\i.natAbs<2^64
def CMul(i j:Int):Prop:=(-(2^64)<i/\i<2^64)∨(-(2^64)<j/\j<2^64)
theorem CMul.ok{i j:Int}(h:CMul i j):IntMulOk i j:=by
 rcases h with⟨h1,h2⟩|⟨h1,h2⟩
 ·exact .of_left (intBits_le_64 h1 h2)
 ·exact .of_right (intBits_le_64 h1 h2)
theorem ZKp:OpR X (xD .Add) (rI0 λi j=>.int (i+j)):=opI0 λ_ _ _ _ _ _ _ q=>add_int q
theorem ZKt:OpR X (xD .Sub) (rI0 λi j=>.int (i-j)):=opI0 λ_ _ _ _ _ _ _ q=>sub_int q
theorem ZQx:OpR X (xD .Mod) (rI (λ_ j=>0<j) λi j=>.int (i%j)):=opI λi j _ _ _ _ _ hc q=>by have h1:(0:Int)<j:=hc;exact mod_int' (by lia) (by rw[Int.fmod_eq_emod_of_nonneg i (by lia)];exact q)
theorem ZLf:OpR X (xD .Pow) (rI CPow λi j=>.int (i^j.toNat)):=opI λ_ _ _ _ _ _ _ hc q=>pow_int_small hc.1 hc.2.1 hc.2.2 q
theorem unI{f:xj->Sem xj}{g:Int->Int}
  (rule:∀(i:Int)(t:Tok)(s:xq)(Q:xj->xq->Prop)(E:xj->xq->Prop),Q (.int (g i) s.toks) {s with toks:=s.toks+1}->vY (vZ X.prog X.w) X.A (f (.int i t)) Q E s):
  UnR X f (rU λi=>.int (g i)):=by
 intro vD s σ H x v Q I rx h;obtain⟨i,rfl,q⟩:=h;obtain⟨t,rfl⟩:=rx;exact rule i t s _ _ ⟨.int (g i),H,I.tok _,⟨_,rfl⟩,q⟩
theorem ZQD:UnR X (unaryOp .USub) (rU λi=>.int (-i)):=unI λ_ _ _ _ _ q=>neg_int q
end
section
variable{X:Cx}{a b c:xX}{ta tb tc:TE}{pos:Pos}
theorem Yk{Q:VK}{k k':Bool}(I:Inv X vD σ H s)(q:Q (.bl k) H)(e:k=k'):EP X vD σ Q (.bool k') s:=by subst e;exact⟨.bl k,H,I,rfl,q⟩
theorem ZOm:OpR X (xI .Lt) (rI0 λi j=>.bl (decide (i<j))):=ZAJ λ_ _ _ _ _ _ _ q=>lt_int q
theorem ZQQ:OpR X (xI .LtE) (rI0 λi j=>.bl (decide (i<=j))):=ZAJ λ_ _ _ _ _ _ _ q=>le_int q
theorem ZP0:OpR X (xI .Gt) (rI0 λi j=>.bl (decide (j<i))):=ZAJ λ_ _ _ _ _ _ _ q=>gt_int q
theorem ZQj:OpR X (xI .GtE) (rI0 λi j=>.bl (decide (j<=i))):=ZAJ λ_ _ _ _ _ _ _ q=>ge_int q
theorem ZMo:OpR X (xI .Lt) (λx y H Q=>∃i j,x=.str i/\y=.str j/\Q (.bl (decide (i.cps.toList<j.cps.toList))) H):=by intro vD s σ H x y v u Q I rx ry h;obtain⟨i,j,rfl,rfl,q⟩:=h;obtain⟨t,rfl⟩:=rx;obtain⟨t',rfl⟩:=ry;exact lt_str (Yk I q rfl)
theorem ZRR:OpR X (xI .Is) (λx y H Q=>y=.non/\Q (.bl (decide (x=.non))) H):=by
 intro vD s σ H x y v u Q I rx ry h;obtain⟨rfl,q⟩:=h;cases ry;refine is_none_gen (Yk I q ?_)
 cases x<;>first
  |(cases rx;rfl)
  |(obtain⟨t,rfl⟩:=rx;rfl)
theorem ZPP:OpR X (xI .IsNot) (λx y H Q=>y=.non/\Q (.bl (!decide (x=.non))) H):=by
 intro vD s σ H x y v u Q I rx ry h;obtain⟨rfl,q⟩:=h;cases ry;refine isnot_none_gen (Yk I q ?_)
 cases x<;>first
  |(cases rx;rfl)
  |(obtain⟨t,rfl⟩:=rx;rfl)
theorem ZOM:OpR X (xI .NotIn) (λx y H Q=>∃i j,x=.str i/\y=.str j/\Q (.bl (!(!(Builtin.Str.occurrences j i 0 j.length 1).isEmpty))) H):=by intro vD s σ H x y v u Q I rx ry h;obtain⟨i,j,rfl,rfl,q⟩:=h;obtain⟨t,rfl⟩:=rx;obtain⟨t',rfl⟩:=ry;exact notIn_str (Yk I q rfl)
theorem OpR.or{r':R2}(h:OpR X f r)(h':OpR X f r'):OpR X f (λx y H Q=>r x y H Q∨r' x y H Q):=by
 intro vD s σ H x y v u Q I rx ry q;rcases q with q|q
 ·exact h vD s σ H x y v u Q I rx ry q
 ·exact h' vD s σ H x y v u Q I rx ry q
theorem nomark(b:xX)(h:op≠ .In:=by decide)(h2:op≠ .NotIn:=by decide):xC op b=vH:=by
 have e1:(op==CmpOp.In)=vH:=by cases op<;>first|rfl|exact absurd rfl h
 have e2:(op==CmpOp.NotIn)=vH:=by cases op<;>first|rfl|exact absurd rfl h2
 cases b<;>simp[xC,e1,e2]
theorem ZSx(ho:OpR X (xI op) r)(ha:PE X a ta)(hb:PE X b tb)(hm:xC op b=vH):PE X (.Compare a [op] [b] pos) (tOp r ta tb):=by intro vD s σ H Q I h;exact wpAny_Compare1 (ZAi ha hb I h λv u s2 x y H2 I2 rx ry q=>ho vD s2 σ H2 x y v u Q I2 rx ry q) hm
noncomputable def Rp(t:TE):TT:=λσ H Q=>t σ H λx H'=>∃k,x=.bl k/\Q k H'
theorem ZKH(ho:OpR X (xI op) r)(ha:PE X a ta)(hb:PE X b tb)(hm:xC op b=vH):PT X (.Compare a [op] [b] pos) (Rp (tOp r ta tb)):=by
 intro vD s σ H Q I h;refine wpAny_isTrue_Compare1 (thn (ha vD s σ H _ I h) λv s1 ⟨x,H1,I1,r1,q1⟩=>thn (hb vD s1 σ H1 _ I1 q1) λu s2 ⟨y,H2,I2,r2,q2⟩=>
  thn (ho vD s2 σ H2 x y v u _ I2 r1 r2 q2) λc s3 ⟨z,H3,I3,r3,k,e,q3⟩=>?_) hm
 subst e;cases r3;exact v9 ⟨H3,I3,q3⟩
noncomputable def ZH3(r r':R2)(ta tb tc:TE):TE:=λσ H Q=>ta σ H λx H1=>tb σ H1 λy H2=>r x y H2 λz H3=>∃k,z=.bl k/\
 (if k=vG then tc σ H3 λw' H4=>r' y w' H4 Q else Q (.bl vH) H3)
theorem ZTT{op':CmpOp}{r':R2}(ho:OpR X (xI op) r)(ho':OpR X (xI op') r')(ha:PE X a ta)(hb:PE X b tb)(hc:PE X c tc)
  (hm:lastMarks [op,op'] [b,c]=vH:=by with_unfolding_all rfl):PT X (.Compare a [op,op'] [b,c] pos) (Rp (ZH3 r r' ta tb tc)):=by
 intro vD s σ H Q I h;refine isTrue_chain (thn (ha vD s σ H _ I h) λv s1 ⟨x,H1,I1,r1,q1⟩=>test_link (thn (hb vD s1 σ H1 _ I1 q1) λu s2 ⟨y,H2,I2,r2,q2⟩=>
  thn (ho vD s2 σ H2 x y v u _ I2 r1 r2 q2) λd s3 ⟨z,H3,I3,r3,k,e,q3⟩=>?_)) hm
 subst e;cases r3;refine v9 ?_;cases k with
 |false=>
  obtain⟨k',e',q'⟩:=q3;cases e';exact ite_ff ⟨H3,I3,q'⟩
 |true=>
  refine ite_tt (test_last (thn (hc vD s3 σ H3 _ I3 q3) λw' s4 ⟨z',H4,I4,r4,q4⟩=>thn (ho' vD s4 σ H4 y z' u w' _ I4 r2 r4 q4) λd' s5 ⟨z2,H5,I5,r5,k2,e2,q5⟩=>?_));subst e2;cases r5;exact v9 ⟨H5,I5,q5⟩
theorem line63:(sizeLine:Nat)<2^63:=by rw[vX];decide
theorem ZQ2:OpR X (xD .Add) (λx y H Q=>∃i j,x=.str i/\y=.str j/\i.length+j.length<=sizeLine/\Q (.str (i++j)) H):=by intro vD s σ H x y v u Q I rx ry h;obtain⟨i,j,rfl,rfl,hz,q⟩:=h;obtain⟨t,rfl⟩:=rx;obtain⟨t',rfl⟩:=ry;exact add_str (λt' tk=>⟨.str (i++j),H,I.tok _,⟨_,rfl⟩,q⟩) hz
theorem ZSi:OpR X (inplaceOp .Add) (λx y H Q=>∃i j,x=.str i/\y=.str j/\i.length+j.length<=sizeLine/\Q (.str (i++j)) H):=by intro vD s σ H x y v u Q I rx ry h;obtain⟨i,j,rfl,rfl,hz,q⟩:=h;obtain⟨t,rfl⟩:=rx;obtain⟨t',rfl⟩:=ry;exact iadd_str (λt' tk=>⟨.str (i++j),H,I.tok _,⟨_,rfl⟩,q⟩) hz
theorem vals1{x:V}(r:Vals [x] us):∃u,us=[u]/\RelV x u:=by
 cases r with
 |cons r1 r2=>cases r2;exact⟨_,rfl,r1⟩
theorem vals2{x:V}(r:Vals [x,y] us):∃u w',us=[u,w']/\RelV x u/\RelV y w':=by
 cases r with
 |cons r1 r2=>
  cases r2 with
  |cons r3 r4=>cases r4;exact⟨_,_,rfl,r1,r3⟩
theorem ZMr(hc:X.calm=vG):CallR X (.builtin "max") (λxs H Q=>∃i j,xs=[.int i,.int j]/\Q (.int (if j>i then j else i)) H):=by
 intro vD s σ H xs us Q I r h;obtain⟨i,j,rfl,q⟩:=h;obtain⟨u,w',rfl,⟨t,rfl⟩,⟨t',rfl⟩⟩:=vals2 r;refine max_two_ints (I.ok.hd hc) λh' tk k=>⟨_,H,I.kept k,?_,q⟩
 by_cases hj:j>i
 ·rw[if_pos hj,if_pos hj];exact⟨_,rfl⟩
 ·rw[if_neg hj,if_neg hj];exact⟨_,rfl⟩
theorem ZKw(hc:X.calm=vG):CallR X (.builtin "min") (λxs H Q=>∃i j,xs=[.int i,.int j]/\Q (.int (if j<i then j else i)) H):=by
 intro vD s σ H xs us Q I r h;obtain⟨i,j,rfl,q⟩:=h;obtain⟨u,w',rfl,⟨t,rfl⟩,⟨t',rfl⟩⟩:=vals2 r;refine min_two_ints (I.ok.hd hc) λh' tk k=>⟨_,H,I.kept k,?_,q⟩
 by_cases hj:j<i
 ·rw[if_pos hj,if_pos hj];exact⟨_,rfl⟩
 ·rw[if_neg hj,if_neg hj];exact⟨_,rfl⟩
end
structure ObjM (h:Heap) (x dx C:xZ) (mA:Str->Option xj):Prop where
 obj:h.get? x=vE (PySem.W.instObj C dx)
 ns:h.Ns1 dx mA
 ne:dx≠x
theorem ZMK{dx:xZ}{mA:Str->Option xj}(n:h.Ns1 dx mA):∃od,h.get? dx=vE od/\∀name,PySem.W.lookIn name od=vE (mA name):=by
 obtain⟨o,es,ep,ho,hd,hk,_,hm⟩:=n;refine⟨o,ho,λname=>?_⟩;have e:=hm name;unfold nsFind findBy at e;rw[<-Array.find?_toList]at e;unfold PySem.W.lookIn;rw[hd];dsimp only;split
 ·rename_i y q;rw[q]at e;exact congrArg vE e
 ·rename_i q;rw[q]at e
  have a:es.toList.any (·.refKey)=vH:=by rw[List.any_eq_false];intro y hy;obtain⟨z,t,hkey⟩:=hk y (Array.mem_toList_iff.mp hy);simp[DictEntry.refKey,hkey]
  have a':¬es.toList.any (·.refKey)=vG:=by rw[a];exact zy
  rw[if_neg a'];exact congrArg vE e
theorem ObjM.look{x dx:xZ}{mA:Str->Option xj}(I:ObjM h x dx C mA):∃od,PySem.W.InstAt h x (PySem.W.instObj C dx) C (vE od)/\∀name,PySem.W.lookIn name od=vE (mA name):=
 let⟨od,ho,hl⟩:=ZMK I.ns
 ⟨od,⟨I.obj,rfl,rfl,ho⟩,hl⟩
section
variable{prog:xK}{w:xw}{A:xJ}{E:xj->xq->Prop}{s:xq}{K:PySem.W.Frag}{x dx C f:xZ}{mA:Str->Option xj}{name:Str}{v:xj}
theorem ZLC{expr:Bool}(X:K.In s.heap)(I:ObjM s.heap x dx C mA)(hg:PySem.W.plainGet K C name=vG)(hh:PySem.W.hasDictIn K C=vG)
  (ha:PySem.W.findIn K (.ref C) name=vE vF) (hv:mA name=vE v) (hv':PySem.W.handedIn v=vG) (h:Q v {s with toks:=s.toks+1}):
  vY (vZ prog w) A (getAttr (.ref x) name expr) Q E s:=by
 obtain⟨od,J,hl⟩:=I.look;exact PySem.W.get_value X J (PySem.W.plainGet_of hg).1 (PySem.W.findObj_own hh ha rfl (by rw[hl,hv])) hv' h
theorem ZSS{pl:Sem Bool}{Q:xj×List xj->xq->Prop}(X:K.In s.heap)(I:ObjM s.heap x dx C mA)(hg:PySem.W.plainGet K C name=vG)
  (hf:PySem.W.findIn K (.ref C) name=vE (vE (.ref f))) (ht:PySem.W.isFn K (.ref f)=vG) (hv:mA name=vF) (h:Q (.ref f,[.ref x]) s):
  vY (vZ prog w) A (getMethod (.ref x) name pl) Q E s:=by
 obtain⟨od,J,hl⟩:=I.look
 exact PySem.W.method_fn X J (PySem.W.plainGet_of hg).1 (PySem.W.plainGet_of hg).2 hf (beq_iff_eq.mp ht) (by show(PySem.W.lookIn name od).map (·.isSome)=vE vH;rw[hl,hv];rfl) h
theorem ZPu{ns:List Str}{Q:Unit->xq->Prop}(X:K.In s.heap)(I:ObjM s.heap x dx C mA)
  (hs:PySem.W.findIn K (.ref C) "__setattr__"=vE (vE (.builtin "object.__setattr__"))) (hp:PySem.W.plainOver K C=vG) (ht:PySem.W.takerIn K C name=vE vF) (hh:PySem.W.hasDictIn K C=vG)
  (hw:PySem.Within mA ns) (hsz:ns.length<=sizeLine)
  (h:∀h',ObjM h' x dx C (λy=>if y=name then vE v else mA y)->qj dx s.heap h'->Q () {s with heap:=h',toks:=s.toks+2}):
  vY (vZ prog w) A (setAttr (.ref x) name v) Q E s:=by
 obtain⟨od,J,hl⟩:=I.look;refine PySem.W.set_plain X J hs (PySem.W.osa_open (s:={s with toks:=s.toks+1}) (r:=vF) X J hp ht λb=>?_);obtain⟨cd,hc,hd'⟩:=PySem.W.any_some hh;have hx:s.heap.get? x=vE ⟨.ref C,vE dx,.plain,#[]⟩:=I.obj;refine vz (v7 (vz (vz (wpAny_loadPart hx (vz (PySem.W.Looks.here (s:={s with toks:=s.toks+1}) (PySem.W.looks_clsIn X hc) ?_))))))
 rw[hd'];refine v7 (a:=vE dx) (vz (v7 (vz ?_)));refine wpAny_nsSet1 (s:={s with toks:=s.toks+1}) I.ns λh' hn2 hs2=>?_
 obtain⟨oD,esD,epD,hoD,hdD,hcD⟩:=hn2.count (PySem.Within.cons name v hw);refine vz (wpAny_lookBehind hoD (by rw[hdD];exact pastItsLine_dict (zB hcD (by rw[zO];lia))) ?_);exact v7 (h _ ⟨(hs2.2 _ (Ne.symm I.ne)).trans I.obj,hn2,I.ne⟩ hs2)
theorem ZR8{R:Result->xq->Prop}{vs:List xj}(X:K.In s.heap)(hm:PySem.W.makesIn K C=vG)
  (hi:PySem.W.findIn K (.ref C) "__init__"=vE (vE (.ref f))) (hf:PySem.W.typeIn K (.ref f)=vE (.type "function"))
  (h:codeAny (vZ prog w) (A.under (.builtin "type.__call__" ⟨.ref C::vs,kw⟩)) (.call (.ref f) ⟨.ref (s.heap.objs.size+1)::vs,kw⟩) (PySem.W.InitBack (s.heap.objs.size+1) R)
   {s with heap:=(s.heap.push PySem.W.emptyDict).push (PySem.W.instObj C s.heap.objs.size)}):
  codeAny (vZ prog w) A (.call (.ref C) ⟨vs,kw⟩) R s:=by
 obtain⟨hh,g,d,t,os⟩:=s;exact PySem.W.make_core (PySem.W.makes_of X hm) (PySem.W.looks_findIn X hi) (λself=>PySem.W.bind_fn X self hf) (.inl rfl) h
end
noncomputable def Gh(f:Str)(v:V):List (Str×V)->List (Str×V)
 |[]=>[(f,v)]
 |(g,x)::r=>if g=f then(g,v)::r else(g,x)::Gh f v r
theorem ZJG(f g:Str)(v:V):∀fs:List (Str×V),(Gh f v fs).lookup g=if g=f then vE v else fs.lookup g
 |[]=>by
  show qS g [(f,v)]=_;by_cases h:g=f
  ·have hb:(g==f)=vG:=beq_iff_eq.mpr h;simp only[qS,hb,if_pos h]
  ·have hb:(g==f)=vH:=beq_eq_false_iff_ne.mpr h;simp only[qS,hb,if_neg h]
 | (k,x)::r=>by
  have ih:=ZJG f g v r
  rw[show Gh f v ((k,x)::r)=(if k=f then(k,v)::r else(k,x)::Gh f v r)from rfl]
  by_cases hk:k=f
  ·rw[if_pos hk];by_cases h:g=k
   ·have hb:(g==k)=vG:=beq_iff_eq.mpr h;simp only[qS,hb,if_pos (h.trans hk)]
   ·have hb:(g==k)=vH:=beq_eq_false_iff_ne.mpr h;simp only[qS,hb,if_neg (λe:g=f=>h (e.trans hk.symm))]
  ·rw[if_neg hk];by_cases h:g=k
   ·have hb:(g==k)=vG:=beq_iff_eq.mpr h;simp only[qS,hb,if_neg (λe:g=f=>hk (h.symm.trans e))]
   ·have hb:(g==k)=vH:=beq_eq_false_iff_ne.mpr h;simp only[qS,hb];exact ih
theorem ZCt(f:Str)(v:V):∀fs:List (Str×V),f∈(Gh f v fs).map (·.1)/\∀g,g∈fs.map (·.1)->g∈(Gh f v fs).map (·.1)
 |[]=>⟨by simp[Gh],λg h=>by simp at h⟩
 | (k,x)::r=>by
  obtain⟨i1,i2⟩:=ZCt f v r
  rw[show Gh f v ((k,x)::r)=(if k=f then(k,v)::r else(k,x)::Gh f v r)from rfl]
  by_cases hk:k=f
  ·rw[if_pos hk];subst hk;exact⟨by simp,λg h=>by simpa using h⟩
  ·rw[if_neg hk];refine⟨?_,λg h=>?_⟩
   ·rw[zk];exact zX _ i1
   ·rw[zk]at h⊢;rcases zw.mp h with e|e
    ·exact zw.mpr (.inl e)
    ·exact zX _ (i2 g e)
theorem ZI5(f:Str)(v:V):∀fs:List (Str×V),(Gh f v fs).length<=fs.length+1
 |[]=>by simp[Gh]
 |(k,x)::r=>by
  have ih:=ZI5 f v r
  rw[show Gh f v ((k,x)::r)=(if k=f then(k,v)::r else(k,x)::Gh f v r)from rfl]
  by_cases hk:k=f
  ·rw[if_pos hk,zO,zO];lia
  ·rw[if_neg hk,zO,zO];lia
theorem RelO.some_of{o:Option xj}(r:RelO (vE v) o):∃u,o=vE u/\RelV v u:=by
 cases o with
 |none=>exact(show False from r).elim
 |some u=>exact⟨u,rfl,r⟩
theorem RelO.none_of{o:Option xj}(r:RelO vF o):o=vF:=by
 cases o with
 |none=>rfl
 |some u=>exact(show False from r).elim
theorem ZO4(r:RelV v u):PySem.W.handedIn u=vG:=by
 cases v with
 |non=>cases(show u=Value.none from r);rfl
 |bl b=>cases(show u=Value.bool b from r);rfl
 |int i=>obtain⟨t,e⟩:=(show∃t,u=Value.int i t from r);cases e;rfl
 |str x=>obtain⟨t,e⟩:=(show∃t,u=Value.str x t from r);cases e;rfl
 |byt b=>obtain⟨t,e⟩:=(show∃t,u=Value.bytes b t from r);cases e;rfl
 |flt b=>obtain⟨t,e⟩:=(show∃t,u=Value.float b t from r);cases e;rfl
 |ref a=>cases(show u=Value.ref a from r);rfl
 |ty n=>cases(show u=Value.type n from r);rfl
section
variable{P:xK}{w:xw}{H H':Hp}{h h':Heap}{a C dx:xZ}{fs fs':List (Str×V)}
theorem ZEa(hok:HOk P w H h)(e:H a=vE (.ins C dx fs)):∃mA,ObjM h a dx C mA/\(∀f,RelO (fs.lookup f) (mA f))/\PySem.Within mA (fs.map (·.1))/\fs.length<=1000/\H dx=vE (.own a):=by
 obtain⟨d,z,ne,ob,mA,n,r,q⟩:=(show ObjOk P w H h a (.ins C dx fs)from hok a _ e)
 exact⟨mA,⟨ob,n,ne⟩,r,q,z,d⟩
end
structure Cls (K:PySem.W.Frag) (C:xZ):Prop where
 pg:PySem.W.plainGet K C Str.empty=vG
 hd:PySem.W.hasDictIn K C=vG
 po:PySem.W.plainOver K C=vG
 sa:PySem.W.findIn K (.ref C) "__setattr__"=vE (vE (.builtin "object.__setattr__"))
theorem Cls.get(c:Cls K C)(f:Str):PySem.W.plainGet K C f=vG:=c.pg
def NoAttr(K:PySem.W.Frag)(C:xZ)(f:Str):Prop:=PySem.W.findIn K (.ref C) f=vE vF
theorem NoAttr.taker{f:Str}(n:NoAttr K C f):PySem.W.takerIn K C f=vE vF:=by
 unfold PySem.W.takerIn
 rw[show PySem.W.findIn K (.ref C) f=vE vF from n]
 rfl
structure Meth (K:PySem.W.Frag) (C:xZ) (m:Str) (f:xZ):Prop where
 at_:PySem.W.findIn K (.ref C) m=vE (vE (.ref f))
 fn:PySem.W.isFn K (.ref f)=vG
 kp:PySem.W.keepIn K (.ref f)=vG
section
variable{X:Cx}{vD:List (xZ×Obj)}{σ:St}{H:Hp}{s:xq}{a C dx:xZ}{fs:List (Str×V)}{f:Str}{v:V}{A:xJ}{E:xj->xq->Prop}
theorem ZMA{b:Bool}(I:Inv X vD σ H s)(e:H a=vE (.ins C dx fs))(c:Cls X.K C)(n:NoAttr X.K C f)(l:fs.lookup f=vE v)
  (h:∀u s',Inv X vD σ H s'->RelV v u->Q u s'):vY (vZ X.prog X.w) A (getAttr (.ref a) f b) Q E s:=by
 obtain⟨mA,O,r,_,_,_⟩:=ZEa I.hok e;obtain⟨u,hu,ru⟩:=RelO.some_of (v:=v) (o:=mA f) (by rw[<-l];exact r f);exact ZLC I.kIn O (c.get f) c.hd n hu (ZO4 ru) (h u _ (I.tok _) ru)
theorem ZIY{m:Str}{g:xZ}{pl:Sem Bool}{Q:xj×List xj->xq->Prop}(I:Inv X vD σ H s)(e:H a=vE (.ins C dx fs))(c:Cls X.K C)(k:Meth X.K C m g)(l:fs.lookup m=vF)
  (h:Q (.ref g,[.ref a]) s):vY (vZ X.prog X.w) A (getMethod (.ref a) m pl) Q E s:=by
 obtain⟨mA,O,r,_,_,_⟩:=ZEa I.hok e;have hn:mA m=vF:=RelO.none_of (by rw[<-l];exact r m);exact ZSS I.kIn O (c.get m) k.at_ k.fn hn h
theorem ZPB{Q:Unit->xq->Prop}(I:Inv X vD σ H s)(e:H a=vE (.ins C dx fs))(c:Cls X.K C)(n:NoAttr X.K C f)(hl:fs.length<1000)(ry:RelV y u)
  (h:∀s',Inv X vD σ (upd H a (.ins C dx (Gh f y fs))) s'->Q () s'):vY (vZ X.prog X.w) A (setAttr (.ref a) f u) Q E s:=by
 obtain⟨mA,O,r,wi,_,ho⟩:=ZEa I.hok e
 have hz:(fs.map (·.1)).length<=sizeLine:=by rw[qQ,vX];lia
 refine ZPu I.kIn O c.sa c.po n.taker c.hd wi hz λh' O' sb=>h _ ?_
 have hd:∃o,h'.get? dx=vE o:=let⟨o,_,_,e',_⟩:=O'.ns;⟨o,e'⟩;refine I.write (x:=a) (e:=dx) (by rw[e];exact True.intro) (.inr ho) (λb q hb z=>(sb.2 b hb).trans z) hd ?_;refine⟨by rw[Bd O.ne];exact ho,?_,O.ne,O'.obj,_,O'.ns,λg=>?_,λg hg=>?_⟩
 ·have:=ZI5 f y fs;lia
 ·show RelO ((Gh f y fs).lookup g) (if g=f then vE u else mA g);rw[ZJG];by_cases q:g=f
  ·rw[if_pos q,if_pos q];exact ry
  ·rw[if_neg q,if_neg q];exact r g
 ·by_cases q:g=f
  ·rw[q];exact(ZCt f y fs).1
  ·refine(ZCt f y fs).2 g (wi g λz=>hg ?_);show(if g=f then vE u else mA g)=vF;rw[if_neg q];exact z
theorem Inv.made(I:Inv X vD σ H s):Inv X vD σ (upd (upd H s.heap.objs.size (.own (s.heap.objs.size+1))) (s.heap.objs.size+1) (.ins C s.heap.objs.size []))
  {s with heap:=(s.heap.push PySem.W.emptyDict).push (PySem.W.instObj C s.heap.objs.size)}:=by
 have e1:(s.heap.push PySem.W.emptyDict).get? s.heap.objs.size=vE PySem.W.emptyDict:=z0 s.heap rfl;have e2:((s.heap.push PySem.W.emptyDict).push (PySem.W.instObj C s.heap.objs.size)).get? (s.heap.objs.size+1)=vE (PySem.W.instObj C s.heap.objs.size):=by have:=z0 (s.heap.push PySem.W.emptyDict) (o:=PySem.W.instObj C s.heap.objs.size) rfl;rwa[qy]at this
 have e3:(s.heap.push PySem.W.emptyDict).Ns s.heap.objs.size (λ_=>vF):=⟨PySem.W.emptyDict,#[],_,e1,rfl,(λe he=>absurd he (by simp)),λ_=>rfl⟩;have I1:=I.laid (a:=s.heap.objs.size) (o:=.own (s.heap.objs.size+1)) (h':=s.heap.push PySem.W.emptyDict) (t':=s.toks) (λb u q=>zQ _ q) (zK _) ⟨_,e1⟩;refine I1.laid (a:=s.heap.objs.size+1) (o:=.ins C s.heap.objs.size []) (t':=s.toks) (λb u q=>zQ _ q) (Nat.le_of_eq (qy _ _)) ?_
 have ne:s.heap.objs.size≠s.heap.objs.size+1:=zE (zU _);refine⟨by rw[Bd ne,Gk],j8 _,ne,e2,λ_=>vF,(Heap.Ns1.of_empty e3).at λo q=>zQ _ q,λ_=>True.intro,λy hy=>absurd rfl hy⟩
theorem ZNz{prog:xK}{env:Env}{f:Str}{pos:Pos}(hb:xy e f env (eval e env)=eval e env)
  (h:vY (vZ prog w) A (eval e env) (λo s₁=>vY (vZ prog w) A (getAttr o f vG) Q E s₁) E s):vY (vZ prog w) A (eval (.Attribute e f pos) env) Q E s:=
 Attribute_any_ h (by rw[arm_eval_Attribute,hb])
end
def tFld(K:PySem.W.Frag)(ta:TE)(f:Str):TE:=λσ H Q=>ta σ H λx H1=>∃a C dx fs v,x=.ref a/\H1 a=vE (.ins C dx fs)/\Cls K C/\NoAttr K C f/\fs.lookup f=vE v/\Q v H1
def sFld(K:PySem.W.Frag)(ta tv:TE)(f:Str):TS:=λD σ H=>tv σ H λy H1=>ta σ H1 λx H2=>∃a C dx fs,x=.ref a/\H2 a=vE (.ins C dx fs)/\Cls K C/\NoAttr K C f/\fs.length<1000/\
 D.nx σ (upd H2 a (.ins C dx (Gh f y fs)))
section
variable{X:Cx}{o e value:xX}{f:Str}{pos pos' tpos:Pos}{ta tv:TE}
theorem ZTR(he:PE X e ta)(hb:xy e f X.env (eval e X.env)=eval e X.env):PE X (.Attribute e f pos) (tFld X.K ta f):=by intro vD s σ H Q I h;refine ZNz hb (thn (he vD s σ H _ I h) λu s1 ⟨x,H1,I1,rx,a,C,dx,fs,v,ex,ea,c,n,l,q⟩=>?_);subst ex;obtain rfl:u=Value.ref a:=rx;exact ZMA I1 ea c n l λu' s2 I2 ru=>⟨v,H1,I2,ru,q⟩
theorem ZTM(ha:PE X o ta)(hv:PE X value tv)(hs:swapsWith value (vE (.Attribute o f pos')) pos.line X.env=pure vH):PS X (.Assign [.Attribute o f pos'] value pos) (sFld X.K ta tv f):=by intro vD s σ H D I h;refine plainObj_wpAny_Assign_Attribute (thn (hv vD s σ H _ I h) λu s1 ⟨y,H1,I1,ry,q⟩=>thn (ha vD s1 σ H1 _ I1 q) λov s2 ⟨x,H2,I2,rx,a,C,dx,fs,ex,ea,c,n,l,q2⟩=>?_) hs;subst ex;obtain rfl:ov=Value.ref a:=rx;exact ZPB I2 ea c n l ry λs3 I3=>⟨σ,_,I3,q2⟩
end
section
variable{X:Cx}{vD:List (xZ×Obj)}{σ:St}{H:Hp}{s:xq}{A:xJ}{E:xj->xq->Prop}{Q:xj->xq->Prop}{c:xj}{b:Bool}
end
structure Room (k:Nat) (A:xJ):Prop where
 hd:A.handled=vF
 dp:A.depth+3*k+5<recursionLimit
 un:A.units+16*k+200<cLine
theorem Room.mono{j k:Nat}(r:Room k A)(h:j<=k):Room j A:=⟨r.hd,by have:=r.dp;lia,by have:=r.un;lia⟩
theorem Room.deeper{k:Nat}(r:Room (k+1) A)(env:Env):Room k (A.deeper env):=
 ⟨r.hd,by have:=r.dp;show A.depth+1+3*k+5<_;lia,by have:=r.un;show A.units+3+16*k+200<_;lia⟩
theorem ZPS:(A.under (.builtin "type.__call__" ⟨.ref C::us,kw⟩)).depth=A.depth+1:=by
 first|rfl|simp[Around.under,Code.weight,Code.isCreation,Code.isGuard,Code.isCaller,Code.frames,Code.isFrame,guardIds]
theorem ZRZ:(A.under (.builtin "type.__call__" ⟨.ref C::us,kw⟩)).units=A.units+1:=by
 first|rfl|simp[Around.under,Code.cUnits,Code.frames,Code.isFrame]
theorem Room.make{k:Nat}(r:Room (k+1) A)(C:xZ)(us:List xj)(kw:List (Str×xj)):Room k (A.under (.builtin "type.__call__" ⟨.ref C::us,kw⟩)):=
 ⟨r.hd,by have:=r.dp;rw[ZPS];lia,by have:=r.un;rw[ZRZ];lia⟩
theorem Room.depth{k:Nat}(r:Room k A):A.depth<recursionLimit:=by have:=r.dp;lia
theorem Room.units{k:Nat}(r:Room k A):A.units+64<cLine:=by have:=r.un;lia
noncomputable def Yu:TA:=λ_ H Q=>Q [] H
noncomputable def ZDC(ta:TE)(tr:TA):TA:=λσ H Q=>ta σ H λx H1=>tr σ H1 λxs H2=>Q (x::xs) H2
section
variable{X:Cx}{e:xX}{es:List xX}{te:TE}{t:TA}{pos:Pos}
theorem ZRJ:PA X [] Yu:=λ_ _ _ _ H Q I h=>Calls.spliced_nil ⟨[],H,I,.nil,h⟩
theorem ZLU(ha:PE X e te)(hr:PA X es t)(hs:vW (e::es) X.env=(vH,eval e X.env)::vW es X.env:=by rfl):PA X (e::es) (ZDC te t):=by intro pos vD s σ H Q I h;rw[hs];show vY _ _ (spliced ((vH,eval e X.env)::x0 pos (vW es X.env))) _ _ s;refine Calls.spliced_cons (thn (ha vD s σ H _ I h) λu s1 ⟨x,H1,I1,r1,q1⟩=>?_);exact thn (hr pos vD s1 σ H1 _ I1 q1) λus s2 ⟨xs,H2,I2,r2,q2⟩=>⟨x::xs,H2,I2,.cons r1 r2,q2⟩
def tTup(t:TA):TE:=λσ H Q=>t σ H λxs H1=>xs.length<=sizeLine/\∀p,H1 p=vF->Q (.ref p) (upd H1 p (.tup xs))
def tLst(t:TA):TE:=λσ H Q=>t σ H λxs H1=>xs.length<=sizeLine/\∀p,H1 p=vF->Q (.ref p) (upd H1 p (.lst xs))
theorem ZK7{x1}(h:PA X es t):PE X (.Tuple es x1 pos) (tTup t):=by intro vD s σ H Q I hq;refine wpAny_Tuple_spliced (thn (h pos vD s σ H _ I hq) λus s1 ⟨xs,H1,I1,r,z,q⟩=>⟨by rw[<-r.length];exact z,?_⟩);have hf:H1 s1.heap.objs.size=vF:=I1.hok.fresh (zK _);refine⟨.ref s1.heap.objs.size,upd H1 s1.heap.objs.size (.tup xs),I1.laid (t':=s1.toks) (λb u e=>zQ _ e) (zK _) ?_,rfl,q _ hf⟩;exact⟨z,us,r,⟨_,z0 _ rfl,rfl,_,rfl⟩⟩
theorem ZL6(h:PA X es t):PE X (.List es pos) (tLst t):=by intro vD s σ H Q I hq;refine wpAny_List_spliced (thn (h pos vD s σ H _ I hq) λus s1 ⟨xs,H1,I1,r,z,q⟩=>⟨by rw[<-r.length];exact z,?_⟩);have hf:H1 s1.heap.objs.size=vF:=I1.hok.fresh (zK _);refine⟨.ref s1.heap.objs.size,upd H1 s1.heap.objs.size (.lst xs),I1.laid (t':=s1.toks) (λb u e=>zQ _ e) (zK _) ?_,rfl,q _ hf⟩;exact⟨z,us,0,r,z0 _ rfl⟩
end
noncomputable abbrev Sp:=List V->Hp->VK->XK->Prop
noncomputable abbrev CXT:=List Env->Hp->xq->XK->xj->xq->Prop
structure Env0 (P:xK) (w:xw) (K:PySem.W.Frag) (mg:Str->Option xj) (base:Heap) (A:xJ) (outer:List Env) (s:xq) (H:Hp):Prop where
 frames:A.frames=vE outer
 mod:Mod K mg base
 bs:∀b o,base.get? b=vE o->s.heap.get? b=vE o/\H b=vF
 bsz:base.objs.size<=s.heap.objs.size
 funs:s.heap.FunFrames base outer
 frf:∀b∈frs outer,H b=vF
 hok:HOk P w H s.heap
 bare:AllBare s.gens
def CE(outer:List Env)(P:xK)(w:xw)(H:Hp)(s:xq)(Q:VK)(u:xj)(s':xq):Prop:=
 ∃v H',s'.os=s.os/\AllBare s'.gens/\Un (frs outer) [] H H' s.heap s'.heap/\HOk P w H' s'.heap/\RelV v u/\Q v H'
def CR(CX:CXT)(outer:List Env)(P:xK)(w:xw)(H:Hp)(s:xq)(Q:VK)(E:XK)(r:Result)(s':xq):Prop:=
 match r with
 |.ok (.ret u)=>CE outer P w H s Q u s'
 |.ok _=>False
 |.error e=>CX outer H s E e s'
structure FnOk (P:xK) (w:xw) (K:PySem.W.Frag) (mg:Str->Option xj) (base:Heap) (CX:CXT) (k:Nat) (f:xZ) (fd:xV) (ps:List Str) (sp:Sp):Prop where
 len:∀vs H Q E,sp vs H Q E->vs.length=ps.length
 run:∀(A:xJ)(outer:List Env)(s:xq)(H:Hp)(args:Args)(us:List xj)(vs:List V)(Q:VK)(E:XK),Room k A->Env0 P w K mg base A outer s H->BindsTo s fd args (ps.zip us)->Vals vs us->sp vs H Q E->
  codeAny (vZ P w) A (.call (.ref f) args) (CR CX outer P w H s Q E) s
theorem Env0.make{outer:List Env}(e:Env0 P w K mg base A outer s H)(C:xZ)(us:List xj)(kw:List (Str×xj)):
  Env0 P w K mg base (A.under (.builtin "type.__call__" ⟨.ref C::us,kw⟩)) outer s H:=⟨by first|exact e.frames|(simpa[Around.under,Code.envs,Code.isFrame,pushEnvs]using e.frames),e.mod,e.bs,e.bsz,e.funs,e.frf,e.hok,e.bare⟩
section
variable{X:Cx}{vD:List (xZ×Obj)}{σ:St}{H:Hp}{s s':xq}
theorem Inv.env0(I:Inv X vD σ H s):Env0 X.prog X.w X.K X.mg X.base X.A X.stack s H:=
 ⟨I.ok.frames,I.ok.mod,I.bs,zB I.ok.bsz I.sz,I.stack,I.ZFz,I.hok,I.bare⟩
theorem Inv.after{Q:VK}(I:Inv X vD σ H s)(h:CE X.stack X.prog X.w H s Q u s'):EP X vD σ Q u s':=by obtain⟨v,H',os,bare,un,hok,r,q⟩:=h;obtain⟨hh,g,d,t,os'⟩:=s';obtain rfl:os'=s.os:=os;exact⟨v,H',I.call (h':=hh) (g':=g) (d':=d) (t':=t) (ch:=[]) un hok bare (λb z=>absurd z (by simp)),r,q⟩
end
noncomputable def ZRU(sp:Sp)(dvs:List V)(E:XK)(t:TA):TE:=λσ H Q=>t σ H λvs H1=>sp (vs++dvs) H1 Q E
def ZAx(C:xZ)(m:Str)(sp:Sp)(dvs:List V)(E:XK)(ta:TE)(t:TA):TE:=λσ H Q=>ta σ H λx H1=>∃a dx fs,x=.ref a/\H1 a=vE (.ins C dx fs)/\fs.lookup m=vF/\
 t σ H1 λvs H2=>sp (x::(vs++dvs)) H2 Q E
def ZOp(C:xZ)(sp:Sp)(dvs:List V)(E:XK)(t:TA):TE:=λσ H Q=>t σ H λvs H1=>∀x dx,H1 x=vF->H1 dx=vF->dx≠x->
 sp (.ref x::(vs++dvs)) (upd (upd H1 dx (.own x)) x (.ins C dx [])) (λv H2=>v=.non/\Q (.ref x) H2) E
def Binds(K:PySem.W.Frag)(fd:xV)(ps:List Str)(ds:List xj):Prop:=
 ∀(s:xq)(us:List xj),K.In s.heap->(us++ds).length=ps.length->BindsTo s fd ⟨us,[]⟩ (ps.zip (us++ds))
theorem Binds.all{fd:xV}{ps:List Str}(h:∀us:List xj,us.length=ps.length->bindArgs fd ⟨us,[]⟩=pure (ps.zip us)):Binds K fd ps []:=λs us _ hl=>by rw[jX]at hl⊢;exact .of_eq (h us hl)
def Passes(CX:CXT)(X:Cx)(E:XK):Prop:=∀(vD:List (xZ×Obj))(σ:St)(H:Hp)(s:xq)(e:xj)(s':xq),Inv X vD σ H s->CX X.stack H s E e s'->X.xe e s'
section
variable{X:Cx}{CX:CXT}{k:Nat}{f C:xZ}{fd:xV}{ps:List Str}{sp:Sp}{dvs:List V}{ds:List xj}{E:XK}{x m:Str}{p pos apos:Pos}{e o:xX}{es:List xX}{ta:TE}{t:TA}
theorem ZAh{Q:VK}(F:FnOk X.prog X.w X.K X.mg X.base CX k f fd ps sp)(hr:Room k X.A)(hb:Binds X.K fd ps ds)(hd:Vals dvs ds)(hx:Passes CX X E)
  (I:Inv X vD σ H s) (r:Vals vs us) (h:sp (vs++dvs) H Q E):vY (vZ X.prog X.w) X.A (call (.ref f) us) (EP X vD σ Q) X.xe s:=by
 have r2:Vals (vs++dvs) (us++ds):=r.append hd;have hl:(us++ds).length=ps.length:=by rw[<-r2.length];exact F.len _ _ _ _ h
 refine wpAny_call (xH (F.run X.A X.stack s H ⟨us,[]⟩ (us++ds) (vs++dvs) Q E hr I.env0 (hb s us I.kIn hl) r2 h) λr s' hq=>?_);cases r with
 |error e=>exact hx vD σ H s e s' I hq
 |ok fl=>
  cases fl with
  |ret u=>exact I.after hq
  |next=>exact False.elim hq
  |brk=>exact False.elim hq
  |cont=>exact False.elim hq
theorem ZNw(F:FnOk X.prog X.w X.K X.mg X.base CX k f fd ps sp)(hr:Room k X.A)(hg:Gl X x)(hm:X.mg x=vE (.ref f))(hk:PySem.W.keepIn X.K (.ref f)=vG)(hb:Binds X.K fd ps ds)(hd:Vals dvs ds)(hx:Passes CX X E)
  (ha:PA X (e::es) t) (hdb:(x==("__debug__":Str))=vH:=by decide) (he:vW (e::es) X.env=(vH,eval e X.env)::vW es X.env:=by rfl) (hpl:(x0 pos (vW es X.env)).any (·.1)=vH:=by rfl):
  PE X (.Call (.Name x p) (e::es) [] pos) (ZRU sp dvs E t):=by
 intro vD s σ H Q I h;refine vq (ZEM I hg hm ?_ hdb);refine PySem.W.callWith_K (h₀:=X.base) I.ok.mod.kin hk (thn (ha pos vD s σ H _ I h) λus s1 ⟨vs,H1,I1,r,q⟩=>⟨I1.kIn,?_⟩) he hpl;exact ZAh F hr hb hd hx I1 r q
theorem ZQB{pl:Sem Bool}(he:PE X o ta)(c:Cls X.K C)(hm:Meth X.K C m f)(F:FnOk X.prog X.w X.K X.mg X.base CX k f fd ps sp)(hr:Room k X.A)(hb:Binds X.K fd ps ds)(hd:Vals dvs ds)(hx:Passes CX X E)(ha:PA X (e::es) t)
  (hst:vW (e::es) X.env=(vH,eval e X.env)::vW es X.env:=by rfl) (hpl:(x0 pos (vW es X.env)).any (·.1)=vH:=by rfl)
  (ht:eval (.Call (.Attribute o m apos) (e::es) [] pos) X.env=(do
   let ov<-eval o X.env
   standAt apos.atName
   let(f,first)<-holding [ov] (getMethod ov m pl)
   callWith pos f first (x0 pos (vW (e::es) X.env)) (xB pos (xT [] X.env))):=by rfl):
  PE X (.Call (.Attribute o m apos) (e::es) [] pos) (ZAx C m sp dvs E ta t):=by
 intro vD s σ H Q I h;refine PySem.W.methodCall_KW (pl:=pl) (thn (he vD s σ H _ I h) λu s1 ⟨x,H1,I1,rx,a,dx,fs,ex,ea,l,q⟩=>?_) ht;subst ex;obtain rfl:u=Value.ref a:=rx;refine ZIY I1 ea c hm l ?_
 refine PySem.W.callWith_K (first:=[.ref a]) (h₀:=X.base) I.ok.mod.kin hm.kp (thn (ha pos vD s1 σ H1 _ I1 q) λus s2 ⟨vs,H2,I2,r,q2⟩=>⟨I2.kIn,?_⟩) hst hpl
 exact ZAh (us:=.ref a::us) (vs:=.ref a::vs) F hr hb hd hx I2 (.cons rfl r) q2
theorem ZMM{pl:Sem Bool}(he:PE X o ta)(c:Cls X.K C)(hm:Meth X.K C m f)(F:FnOk X.prog X.w X.K X.mg X.base CX k f fd ps sp)(hr:Room k X.A)(hb:Binds X.K fd ps ds)(hd:Vals dvs ds)(hx:Passes CX X E)
  (ht:eval (.Call (.Attribute o m apos) [] [] pos) X.env=(do
   let ov<-eval o X.env
   standAt apos.atName
   let(f,first)<-holding [ov] (getMethod ov m pl)
   callWith pos f first (x0 pos (vW [] X.env)) (xB pos (xT [] X.env))):=by rfl):
  PE X (.Call (.Attribute o m apos) [] [] pos) (ZAx C m sp dvs E ta Yu):=by
 intro vD s σ H Q I h;refine PySem.W.methodCall_KW (pl:=pl) (thn (he vD s σ H _ I h) λu s1 ⟨x,H1,I1,rx,a,dx,fs,ex,ea,l,q⟩=>?_) ht;subst ex;obtain rfl:u=Value.ref a:=rx;refine ZIY I1 ea c hm l ?_
 exact PySem.W.callWith_K0 (first:=[.ref a]) I1.kIn hm.kp (ZAh (us:=[.ref a]) (vs:=[.ref a]) F hr hb hd hx I1 (.cons rfl .nil) q)
structure Mk (K:PySem.W.Frag) (C f:xZ):Prop where
 makes:PySem.W.makesIn K C=vG
 init:PySem.W.findIn K (.ref C) "__init__"=vE (vE (.ref f))
 fn:PySem.W.isFn K (.ref f)=vG
 kp:PySem.W.keepIn K (.ref C)=vG
theorem ZNM{Q:VK}(M:Mk X.K C f)(F:FnOk X.prog X.w X.K X.mg X.base CX k f fd ps sp)(hr:Room (k+1) X.A)(hb:Binds X.K fd ps ds)(hd:Vals dvs ds)
  (hx:Passes CX X E) (I:Inv X vD σ H s) (r:Vals vs us)
  (h:∀x dx,H x=vF->H dx=vF->dx≠x->sp (.ref x::(vs++dvs)) (upd (upd H dx (.own x)) x (.ins C dx [])) (λv H2=>v=.non/\Q (.ref x) H2) E):
  vY (vZ X.prog X.w) X.A (call (.ref C) us) (EP X vD σ Q) X.xe s:=by
 have hq:=h (s.heap.objs.size+1) s.heap.objs.size (I.hok.fresh (jk _)) (I.hok.fresh (zK _)) (zE (zU _));have I2:=Inv.made (C:=C) I;have r2:Vals (V.ref (s.heap.objs.size+1)::(vs++dvs)) (Value.ref (s.heap.objs.size+1)::(us++ds)):=.cons rfl (r.append hd);have hl:(Value.ref (s.heap.objs.size+1)::us++ds).length=ps.length:=by have e:=r2.length;rw[F.len _ _ _ _ hq]at e;exact e.symm
 refine wpAny_call (ZR8 (f:=f) I.kIn M.makes M.init (beq_iff_eq.mp M.fn) (xH (F.run _ X.stack _ _ ⟨Value.ref (s.heap.objs.size+1)::us,[]⟩ (Value.ref (s.heap.objs.size+1)::(us++ds)) _ _ E (hr.make C us [])
  (I2.env0.make C us []) (hb _ (Value.ref (s.heap.objs.size+1)::us) I2.kIn hl) r2 hq) λr s' hq'=>?_))
 cases r with
 |error e=>exact hx vD σ _ _ e s' I2 hq'
 | ok fl=>
  cases fl with
  |ret u=>
   obtain⟨v,H',I3,rv,ev,q3⟩:=I2.after hq';subst ev;exact⟨rv,⟨V.ref (s.heap.objs.size+1),H',I3,rfl,q3⟩⟩
  |next=>exact False.elim hq'
  |brk=>exact False.elim hq'
  |cont=>exact False.elim hq'
theorem ZLE(M:Mk X.K C f)(F:FnOk X.prog X.w X.K X.mg X.base CX k f fd ps sp)(hr:Room (k+1) X.A)(hg:Gl X x)(hm:X.mg x=vE (.ref C))(hb:Binds X.K fd ps ds)(hd:Vals dvs ds)(hx:Passes CX X E)
  (ha:PA X (e::es) t) (hdb:(x==("__debug__":Str))=vH:=by decide) (he:vW (e::es) X.env=(vH,eval e X.env)::vW es X.env:=by rfl) (hpl:(x0 pos (vW es X.env)).any (·.1)=vH:=by rfl):
  PE X (.Call (.Name x p) (e::es) [] pos) (ZOp C sp dvs E t):=by
 intro vD s σ H Q I h;refine vq (ZEM I hg hm ?_ hdb);refine PySem.W.callWith_K (h₀:=X.base) I.ok.mod.kin M.kp (thn (ha pos vD s σ H _ I h) λus s1 ⟨vs,H1,I1,r,q⟩=>⟨I1.kIn,?_⟩) he hpl;exact ZNM M F hr hb hd hx I1 r q
end
def PK(X:Cx)(kws:List Keyword)(t:TA):Prop:=
 ∀(pos:Pos)(vD:List (xZ×Obj))(s:xq)(σ:St)(H:Hp)(Q:List V->Hp->Prop),Inv X vD σ H s->t σ H Q->vY (vZ X.prog X.w) X.A (evalAll ((xB pos (xT kws X.env)).map (·.2))) (AP X vD σ Q) X.xe s
section
variable{X:Cx}{CX:CXT}{k:Nat}{f C:xZ}{fd:xV}{ps ks:List Str}{sp:Sp}{E:XK}{x m:Str}{p pos apos kpos:Pos}{e o:xX}{es:List xX}{kws:List Keyword}{te ta:TE}{t tk:TA}{nm:Option Str}
theorem ZNh:PK X [] Yu:=λ_ _ _ _ H Q I h=>wpAny_evalAll_nil ⟨[],H,I,.nil,h⟩
theorem ZNl(ha:PE X e te)(hr:PK X kws t):PK X (⟨nm,e,kpos⟩::kws) (ZDC te t):=by
 intro pos vD s σ H Q I h
 show vY _ _ (evalAll ((do let v<-eval e X.env;standAt pos;pure v)::(xB pos (xT kws X.env)).map (·.2))) _ _ s
 refine wpAny_evalAll_cons (vz (thn (ha vD s σ H _ I h) λu s1 ⟨x,H1,I1,r1,q1⟩=>vz (wpAny_standAt (v7 ?_))));exact thn (hr pos vD s1 σ H1 _ I1 q1) λus s2 ⟨xs,H2,I2,r2,q2⟩=>⟨x::xs,H2,I2,.cons r1 r2,q2⟩
variable{g:List xj->List xj->List xj}{gV:List V->List V->List V}
end
structure FnScope (N P:List Str) (sc:xY):Prop where
 kind:sc.kind=.function
 co:sc.isCoroutine=vH
 gen:sc.isGenerator=vH
 nd:N.Nodup
 pre:N.take P.length=P
 par:∀x∈P,sc.names.lookup x=vE .local∨sc.names.lookup x=vE .cell
 nofree:∀y∈sc.names,y.2≠ .free
theorem ZFC:∀{binds:List (Str×xj)}{m:Str->Option xj},(∀v,(x,v)∉binds)->bindL kindOf binds m x=m x
 |[],_,_=>rfl
 | (n,v)::r,m,h=>by
  unfold bindL;rw[ZFC λw hw=>h w (zX _ hw)];split
  ·have:x≠n:=by rintro rfl;exact h v zW
   simp[this]
  ·rfl
theorem ZG5:∀{binds:List (Str×xj)}{m:Str->Option xj},(∀v,(x,v)∉binds)->bindC kindOf binds m x=m x
 |[],_,_=>rfl
 | (n,v)::r,m,h=>by
  unfold bindC;rw[ZG5 λw hw=>h w (zX _ hw)];split
  ·rfl
  ·have:x≠n:=by rintro rfl;exact h v zW
   simp[this]
theorem ZIx{v:xj}:∀{P:List Str}{vs:List xj}{i:Nat}{m:Str->Option xj},P.Nodup->P[i]?=vE x->vs[i]?=vE v->kindOf x=vE .local->
  bindL kindOf (P.zip vs) m x=vE v
 |[],_,_,_,_,h,_,_=>by simp at h
 |_::_,[],_,_,_,_,h,_=>by simp at h
 |p::P,w::vs,0,m,nd,h1,h2,hk=>by simp at h1 h2;subst h1;subst h2;show bindL kindOf ((p,w)::P.zip vs) m p=_;unfold bindL;rw[ZFC λv hv=>(qD.mp nd).1 (List.of_mem_zip hv).1,if_pos hk];simp
 |p::P,w::vs,i+1,m,nd,h1,h2,hk=>by show bindL kindOf ((p,w)::P.zip vs) m x=_;unfold bindL;exact ZIx (i:=i) (qD.mp nd).2 (by simpa using h1) (by simpa using h2) hk
theorem ZI1{v:xj}:∀{P:List Str}{vs:List xj}{i:Nat}{m:Str->Option xj},P.Nodup->P[i]?=vE x->vs[i]?=vE v->kindOf x≠vE .local->
  bindC kindOf (P.zip vs) m x=vE v
 |[],_,_,_,_,h,_,_=>by simp at h
 |_::_,[],_,_,_,_,h,_=>by simp at h
 |p::P,w::vs,0,m,nd,h1,h2,hk=>by simp at h1 h2;subst h1;subst h2;show bindC kindOf ((p,w)::P.zip vs) m p=_;unfold bindC;rw[ZG5 λv hv=>(qD.mp nd).1 (List.of_mem_zip hv).1,if_neg hk];simp
 |p::P,w::vs,i+1,m,nd,h1,h2,hk=>by show bindC kindOf ((p,w)::P.zip vs) m x=_;unfold bindC;exact ZI1 (i:=i) (qD.mp nd).2 (by simpa using h1) (by simpa using h2) hk
noncomputable def start(N:List Str)(vs:List V):St:=vs.map vE++zV (N.length-vs.length) vF
noncomputable def Nx(CX:CXT)(P:xK)(w:xw)(K:PySem.W.Frag)(mg:Str->Option xj)(base:Heap)(N:List Str)(qual:Str)(scope:xY)(f:xZ)(cd:xj)(A:xJ)(outer:List Env)(s:xq)(H:Hp)(E:XK):Cx where
 prog:=P
 w:=w
 K:=K
 mg:=mg
 base:=base
 A:=A.deeper (envOfC qual scope s.heap.objs.size f cd)
 N:=N
 s₀:=s
 H₀:=H
 env:=envOfC qual scope s.heap.objs.size f cd
 outer:=outer
 stack:=envOfC qual scope s.heap.objs.size f cd::outer
 ex:=[]
 calm:=vG
 fn:=λ_=>vG
 pn:=[]
 xe:=λe s'=>vY (vZ P w) (A.deeper (envOfC qual scope s.heap.objs.size f cd)) (leaving (envOfC qual scope s.heap.objs.size f cd) e) (λ_ s''=>CX outer H s E e s'') (λe' s''=>CX outer H s E e' s'') s'
theorem ZGJ{sc:xY}{n:Nat}(h:sc.names.lookup x=vE .cell):∃c,(cellsFrom n sc.names []).lookup x=vE c:=by have q:=PySem.W.cellsFrom_some sc.names n [] (.inl h);exact qL.mp q
theorem ZLQ{CX:CXT}{N ps:List Str}{qual:Str}{scope:xY}{f:xZ}{cd:xj}{outer:List Env}{s1:xq}{E:XK} 
  (S:FnScope N ps scope) (hd:A.handled=vF) (e0:Env0 P w K mg base A outer s H) (hl:vs.length=ps.length) (r:Vals vs us)
  (x:InCallC s s.heap.objs.size (bindL (envOfC qual scope s.heap.objs.size f cd).kindOf (ps.zip us) λ_=>vF) (cellsFrom (s.heap.objs.size+1) scope.names []) (bindC (envOfC qual scope s.heap.objs.size f cd).kindOf (ps.zip us) λ_=>vF) s1):
  Inv (Nx CX P w K mg base N qual scope f cd A outer s H E) [] (start N vs) H s1:=by
 have hpl:ps.length<=N.length:=by have:=congrArg xQ S.pre;rw[j4]at this;lia
 obtain⟨h1,tk,rfl,hk⟩:=x.done
 have noA:∀b:xZ,b∉(Nx CX P w K mg base N qual scope f cd A outer s H E).ex:=λb z=>absurd (show b∈([]:List xZ)from z) (by simp)
 refine⟨⟨e0.mod,S.kind,rfl,rfl,zK _,λy z c h1 h2=>?_,λy hy=>?_,λy c _ h=>?_,λ_=>hd,Around.frames_deeper e0.frames,.inr ⟨rfl,rfl⟩,λb z=>absurd z (noA b),e0.bs,e0.bsz,λb _ _=>noA b,λb z=>absurd z (noA b),e0.funs,e0.frf⟩,
  rfl,e0.bare,Un.kept hk,⟨_,x.toInCall.ns,λi y v h1 h2 h3=>?_⟩,λy c h=>⟨_,x.cell y c h⟩,e0.hok.fresh (zK _),λy c h=>?_,λp hp=>absurd (show p∈([]:List (xZ×Obj))from hp) (by simp),e0.hok.kept hk,?_⟩
 ·exact name_of_addr x.apart (PySem.mem_of_lookup h1) (PySem.mem_of_lookup h2)
 ·have hy:scope.names.lookup y=vE .cell∨scope.names.lookup y=vE .free:=hy;rcases hy with hy|hy
  ·exact ZGJ hy
  ·exact absurd rfl (S.nofree _ (PySem.mem_of_lookup hy))
 ·exact Nat.le_of_lt (x.above y c (PySem.mem_of_lookup h))
 ·have hi:i<vs.length:=by
   unfold start at h2;by_cases hi:i<vs.length
   ·exact hi
   ·rw[zG (by simpa using hi)]at h2;rw[qT]at h2
    split at h2<;>cases h2
  have ha:vs[i]?=vE v:=by
   unfold start at h2;rw[zR (by simpa using hi),zx]at h2;cases e:vs[i]? with
   |none=>rw[e]at h2;cases h2
   |some a=>rw[e]at h2;cases h2;rfl
  obtain⟨u,hu,rv⟩:=r.get ha;have hp:ps[i]?=vE y:=by rw[<-S.pre,jY (by lia)];exact h1
  have ndP:ps.Nodup:=by rw[<-S.pre];exact S.nd.sublist (List.take_sublist _ _)
  refine⟨u,rv,?_⟩;rcases S.par y (List.mem_of_getElem? hp)with k|k
  ·exact .inl ⟨k,ZIx ndP hp hu k⟩
  ·obtain⟨c,e⟩:=ZGJ (n:=s.heap.objs.size+1) k;refine .inr ⟨.inl k,c,e,?_⟩;have q:=x.cell y c e;rw[ZI1 ndP hp hu (by show scope.names.lookup y≠_;rw[k];decide)]at q;exact q
 ·exact e0.hok.fresh (Nat.le_of_lt (x.above y c (PySem.mem_of_lookup h)))
 ·unfold start;show _=N.length;rw[qZ,qQ,jF];lia
theorem ZMa{CX:CXT}{k:Nat}{f:xZ}{name qual:Str}{params:Arguments}{scope:xY}{dV kV doc pm cdv ct oc:xj}{an od:Option xZ}
  {osl:Array (Option xj)} {N ps:List Str} {sp:Sp} (lk:K.lookup f=vE ⟨oc,od,.func (PySem.W.fnOf name qual params body scope dV kV doc pm an cdv ct),osl⟩) (hcd:PySem.W.codeIn K cdv qual=vG) (S:FnScope N ps scope)
  (len:∀vs H Q E,sp vs H Q E->vs.length=ps.length)
  (hbody:∀(A:xJ)(outer:List Env)(s:xq)(H:Hp)(vs:List V)(Q:VK)(E:XK),Room k (A.deeper (envOfC qual scope s.heap.objs.size f cdv))->sp vs H Q E->
   ∃t,PSs (Nx CX P w K mg base N qual scope f cdv A outer s H E) body t/\t {nx:=λ_ H'=>Q .non H',rt:=Q} (start N vs) H):
  FnOk P w K mg base CX (k+1) f (PySem.W.fnOf name qual params body scope dV kV doc pm an cdv ct) ps sp:=by
 refine⟨len,λA outer s H args us vs Q E hr e0 hb r hsp=>?_⟩;have hl:=len _ _ _ _ hsp;have KX:K.In s.heap:=e0.mod.kin.keeps λb o e=>(e0.bs b o e).1
 have lim:s.heap.NoLimit:=e0.mod.nolimit.keeps λb o e=>(e0.bs b o e).1
 have hkind:∀y∈ps.zip us,scope.names.lookup y.1=vE .local∨(scope.names.lookup y.1=vE .cell/\((cellsFrom (s.heap.objs.size+1) scope.names []).lookup y.1).isSome=vG):=λ⟨n,v⟩ hy=>by
  rcases S.par n (List.of_mem_zip hy).1 with q|q
  ·exact .inl q
  ·exact .inr ⟨q,PySem.W.cellsFrom_some _ _ _ (.inl q)⟩
 refine codeAny_call_function hr.depth (KX _ _ lk) rfl S.co S.gen rfl (PySem.W.codeRec_of KX hcd) (hb _ _ _ _ ?_);refine wpAny_newFunctionEnv_cells S.kind hkind λenv he s1 x=>?_
 subst he;refine⟨lim.keeps x.toInCall.keep,codeAny_func ?_⟩;obtain⟨t,ht,hq⟩:=hbody A outer s H vs Q E (hr.deeper _) hsp;have I:Inv (Nx CX P w K mg base N qual scope f cdv A outer s H E) [] (start N vs) H s1:=ZLQ S hr.hd e0 hl r x;refine v4 (ht [] s1 (start N vs) H _ I hq) (λfl s' hs=>?_) λe s' hs=>hs
 have fin:∀{σ':St}{H':Hp}{v:V}{u:xj},Inv (Nx CX P w K mg base N qual scope f cdv A outer s H E) [] σ' H' s'->RelV v u->Q v H'->CE outer P w H s Q u s':=
  λ{σ' H' v u}J rv q=>⟨v,H',J.os,J.bare,J.base,J.hok,rv,q⟩
 cases fl with
 |ret u=>
  obtain⟨v,σ',H',J,rv,q⟩:=hs;exact fin J rv q
 |next=>
  obtain⟨σ',H',J,q⟩:=hs;exact fin (v:=V.non) (u:=Value.none) J rfl q
 |brk=>
  obtain⟨_,_,_,q⟩:=hs;exact False.elim q
 |cont=>
  obtain⟨_,_,_,q⟩:=hs;exact False.elim q
section
variable{X:Cx}{x:Str}{p pos:Pos}{e:xX}{es:List xX}{t:TA}{id T:String}{r:List V->Hp->VK->Prop}
noncomputable def tCB(r:List V->Hp->VK->Prop)(t:TA):TE:=λσ H Q=>t σ H λvs H1=>r vs H1 Q
theorem ZSa(hc:CallR X (.builtin id) r)(hg:Gl X x)(hm:X.mg x=vF)(hv:xE x=vE (.builtin id))(ha:PA X (e::es) t)(hn:x≠"__name__":=by decide)(hdb:(x==("__debug__":Str))=vH:=by decide)
  (he:vW (e::es) X.env=(vH,eval e X.env)::vW es X.env:=by rfl) (hpl:(x0 pos (vW es X.env)).any (·.1)=vH:=by rfl):PE X (.Call (.Name x p) (e::es) [] pos) (tCB r t):=by
 intro vD s σ H Q I h;refine vq (Jq I hg hm hv ?_ hn hdb);exact PyProof.Rows.callWith_builtin1 (thn (ha pos vD s σ H _ I h) λus s1 ⟨vs,H1,I1,r1,q1⟩=>hc vD s1 σ H1 vs us Q I1 r1 q1) he hpl
theorem ZRz(hc:CallR X (.type T) r)(hg:Gl X x)(hm:X.mg x=vF)(hv:xE x=vE (.type T))(ha:PA X (e::es) t)(hn:x≠"__name__":=by decide)(hdb:(x==("__debug__":Str))=vH:=by decide)
  (he:vW (e::es) X.env=(vH,eval e X.env)::vW es X.env:=by rfl) (hpl:(x0 pos (vW es X.env)).any (·.1)=vH:=by rfl):PE X (.Call (.Name x p) (e::es) [] pos) (tCB r t):=by
 intro vD s σ H Q I h;refine vq (Jq I hg hm hv ?_ hn hdb);exact PyProof.Rows.callWith_type1 (thn (ha pos vD s σ H _ I h) λus s1 ⟨vs,H1,I1,r1,q1⟩=>hc vD s1 σ H1 vs us Q I1 r1 q1) he hpl
end
end L2
namespace HT
open PySem PyProof.Rows
section
open PySem.SeqAt
open PySem.AutoSeq1 (wpAny_loadPart')
open PySem.MeetsSeq PySem.MeetsSeq2 PySem.MeetsSeq3
end
section
variable{prog:xK}{w:xw}{A:xJ}{E:xj->xq->Prop}{s:xq}
theorem ZQa{t b:xZ}{vs ws:List xj}{Q:xj->xq->Prop}(ht:IsTup s.heap t vs.toArray)(hb:IsTup s.heap b ws.toArray)(hv:vs≠[])
  (h1:ws=[]->Q (.ref t) s) (h2:ws≠[]->Q (.ref s.heap.objs.size) {s with heap:=s.heap.push {cls:=.type "tuple",data:=.seq (vs++ws).toArray}})
  (hsz:vs.length+ws.length<=sizeLine):vY (vZ prog w) A (xD .Add (.ref t) (.ref b)) Q E s:=by
 obtain⟨⟨cls,dd,data,sl⟩,ho,hc,n,hd⟩:=id ht;obtain⟨⟨cls2,dd2,data2,sl2⟩,ho2,hc2,n2,hd2⟩:=id hb;simp only at hc hd hc2 hd2;subst hc hd hc2 hd2;have e:vs.toArray++ws.toArray=(vs++ws).toArray:=by simp
 by_cases hw:ws=[]
 ·exact concat_meets ⟨_,ho,rfl⟩ ⟨_,ho2,rfl⟩ noFill_tuple_add seq_tuple_add PySem.F.slot_tuple_add PySem.F.entry_tuple_add (PySem.F.args_tuple_add_2 _ _)
   (tuple_addW1 t b vs.toArray ws.toArray n n2 dd dd2 sl sl2 (by simpa using hv) (by simp[hw])) ⟨ho,ho2,h1 hw⟩
 ·refine concat_meets ⟨_,ho,rfl⟩ ⟨_,ho2,rfl⟩ noFill_tuple_add seq_tuple_add PySem.F.slot_tuple_add PySem.F.entry_tuple_add (PySem.F.args_tuple_add_2 _ _)
   (tuple_addW2 t b vs.toArray ws.toArray n n2 dd dd2 sl sl2 (by simpa using hv) (by simpa using hw) (by rw[zY,zY];exact hsz)) ⟨ho,ho2,?_⟩
  rw[e];exact h2 hw
noncomputable def sIx(n d:Nat):Option Int->Nat
 |none=>d
 |some v=>if v<0 then(v+(n:Int)).toNat else min v.toNat n
theorem ZHi(n d:Nat)(hd:d<=n)(o:Option Int):sIx n d o<=n:=by
 cases o with
 |none=>exact hd
 |some v=>
  show(if v<0 then(v+(n:Int)).toNat else min v.toNat n)<=n;by_cases hv:v<0
  ·rw[if_pos hv];lia
  ·rw[if_neg hv];exact Nat.min_le_right _ _
theorem ZGZ(v:Int)(n d:Nat):(if v<0 then max (v+(n:Int)) 0 else min v (n:Int))=((sIx n d (vE v):Nat):Int):=by
 show(if v<0 then max (v+(n:Int)) 0 else min v (n:Int))=(((if v<0 then(v+(n:Int)).toNat else min v.toNat n):Nat):Int);by_cases hv:v<0
 ·simp only[if_pos hv];lia
 ·simp only[if_neg hv];lia
theorem ZPl(lo hi:Option Int)(n:Nat):Builtin.Slice.sliceAdjust lo hi 1 (n:Int)=(((sIx n 0 lo:Nat):Int),((sIx n n hi:Nat):Int)):=by
 have h1:¬((1:Int)<0):=by lia
 unfold Builtin.Slice.sliceAdjust;simp only[h1,if_false];refine Prod.ext ?_ ?_
 ·cases lo with
  |none=>rfl
  |some v=>exact ZGZ v n 0
 ·cases hi with
  |none=>rfl
  |some v=>exact ZGZ v n n
theorem ZKx(i j:Nat):Builtin.Slice.slicePlaces (i:Int) (j:Int) 1=j-i:=by
 unfold Builtin.Slice.slicePlaces;have h1:(1:Int)>0:=by lia
 simp only[h1,if_true,Int.ediv_one]
 split <;> lia
theorem ZKO{v:xj}{o:Option Int}{Q:Option Int->xq->Prop}(p:IsPart v o)(h:Q o s):vY (vZ prog w) A (Builtin.Slice.slicePartIndex v) Q E s:=by
 cases p with
 |none=>exact slicePart_none h
 |int i t=>exact slicePart_int h
theorem ZJ9{sl:xZ}{vl vu:xj}{lo hi:Option Int}{n:Nat}{Q:Int×Int×Nat->xq->Prop}(hs:s.heap.IsSliceOf sl vl vu .none)(pl:IsPart vl lo)(pu:IsPart vu hi)
  (h:Q (((sIx n 0 lo:Nat):Int),1,sIx n n hi-sIx n 0 lo) s):vY (vZ prog w) A (Builtin.Slice.sliceApplied (.ref sl) (pure (n:Int))) Q E s:=by
 obtain⟨os,hos,hcs,hds⟩:=id hs;unfold Builtin.Slice.sliceApplied Builtin.Slice.sliceFields;refine vz (vz (vv hos hds (x:=vl) rfl (vz (vv hos hds (x:=vu) rfl (vz (vv hos hds (x:=.none) rfl (v7 ?_)))))));refine vz (slicePart_none ?_);show vY _ _ (if((1:Int)==0)=vG then _ else _) _ _ s;rw[if_neg (by decide)];refine vz (ZKO pl (vz (ZKO pu (vz (v7 ?_)))))
 show vY _ _ (match Builtin.Slice.sliceAdjust lo hi 1 (n:Int)with |(lo,hi)=>pure (lo,(1:Int),Builtin.Slice.slicePlaces lo hi 1)) _ _ s
 rw[ZPl lo hi n];show vY _ _ (pure (((sIx n 0 lo:Nat):Int),(1:Int),Builtin.Slice.slicePlaces ((sIx n 0 lo:Nat):Int) ((sIx n n hi:Nat):Int) 1)) _ _ s;rw[ZKx];exact v7 h
theorem ZRS(xs:Array xj)(i k:Nat):((zZ k).filterMap λ(m:Nat)=>xs[((i:Int)+(m:Int)*1).toNat]?).toArray=((xs.toList.drop i).take k).toArray:=by
 have e:(λ(m:Nat)=>xs[((i:Int)+(m:Int)*1).toNat]?)=λm=>xs[i+m]? :=by
  funext m;have:((i:Int)+(m:Int)*1).toNat=i+m:=by lia
  rw[this]
 rw[e];have:=pick_run xs i k;rw[qX]at this;have e2:((λx=>xs[x]?) ∘ λx=>i+x)=λm=>xs[i+m]? :=rfl
 rw[e2]at this;rw[this]
theorem ZKy{t sl:xZ}{items:Array xj}{vl vu:xj}{lo hi:Option Int}{Q:xj->xq->Prop}(ht:IsTup s.heap t items)(hs:s.heap.IsSliceOf sl vl vu .none)(pl:IsPart vl lo)(pu:IsPart vu hi)
  (hw:¬(sIx items.size 0 lo=0/\sIx items.size items.size hi=items.size))
  (h:Q (.ref s.heap.objs.size) {s with heap:=s.heap.push {cls:=.type "tuple",data:=.seq ((items.toList.drop (sIx items.size 0 lo)).take (sIx items.size items.size hi-sIx items.size 0 lo)).toArray}})
  (hsz:items.size<=sizeLine):vY (vZ prog w) A (getItem (.ref t) (.ref sl)) Q E s:=by
 have htake:sizeOk (.seq ((items.toList.drop (sIx items.size 0 lo)).take (sIx items.size items.size hi-sIx items.size 0 lo)).toArray):=by show((items.toList.drop (sIx items.size 0 lo)).take (sIx items.size items.size hi-sIx items.size 0 lo)).toArray.size<=sizeLine;rw[zY,j4,jG,qw];lia
 have hj:sIx items.size items.size hi<=items.size:=ZHi _ _ (zK _) hi;obtain⟨os,hos,hcs,hds⟩:=id hs;have hTs:s.TypeIs (.ref sl) "slice":=⟨os,hos,hcs⟩;unfold getItem
 try with_reducible refine vk ?_
 first|refine vz (v7 ?_)|skip
 refine vz (wpAny_sequenceKey ht.typeIs (by decide) ?_);refine vz (vj (name:=Str.ofString "__getitem__") ht.typeIs PyProof.Rows.slot_tuple_getitem
  (vx PyProof.Rows.slot_tuple_getitem ht.typeIs entry_tuple_getitem ?_ (args_tuple_getitem _ _)))
 show vY _ _ (Builtin.Tuple.tupleItemsOf (.ref t) >>=_) _ _ s;refine vz (tupleItemsOf_ ht ?_);refine vz (wpAny_typeOf hTs ?_);rw[if_pos (by decide)];refine vz (ZJ9 hs pl pu ?_);have hno:¬((((sIx items.size 0 lo:Nat):Int)==0&&(1:Int)==1&&(sIx items.size items.size hi-sIx items.size 0 lo)==items.size)=vG):=by intro q;rw[zC,zC]at q;have q1:((sIx items.size 0 lo:Nat):Int)=0:=eq_of_beq q.1.1;have q2:sIx items.size items.size hi-sIx items.size 0 lo=items.size:=eq_of_beq q.2;exact hw ⟨by lia,by lia⟩
 show vY _ _ (if(((sIx items.size 0 lo:Nat):Int)==0&&(1:Int)==1&&(sIx items.size items.size hi-sIx items.size 0 lo)==items.size)=vG then _ else _) _ _ s;rw[if_neg hno,ZRS]
 first
  |exact vz (m:=Builtin.Tuple.tupleExact _) (v5 (v7 ⟨_,rfl,v7 h⟩) htake)
  |exact vz (m:=Builtin.Tuple.tupleExact _) (v5 (vz (v7 (v7 ⟨_,rfl,v7 h⟩))) htake)
  |exact vz (vz (m:=Builtin.Tuple.tupleExact _) (v5 (v7 (v7 ⟨_,rfl,v7 h⟩)) htake))
  |exact vz (vz (m:=Builtin.Tuple.tupleExact _) (v5 (v7 ⟨_,rfl,v7 h⟩) htake))
end
end HT
namespace L2
open PySem PySem.Spec PyProof.Rows
variable{xs:List V}{vD:List (xZ×Obj)}{σ:St}{H:Hp}{s:xq}{its:List xj}
noncomputable abbrev TO:=St->Hp->(Option Int->Hp->Prop)->Prop
def PO(X:Cx)(e:Option xX)(t:TO):Prop:=
 ∀(vD:List (xZ×Obj))(s:xq)(σ:St)(H:Hp)(Q:Option Int->Hp->Prop),Inv X vD σ H s->t σ H Q->
  vY (vZ X.prog X.w) X.A (evalPart e X.env) (λu s'=>∃o H',Inv X vD σ H' s'/\IsPart u o/\Q o H') X.xe s
noncomputable def ZNR:TO:=λ_ H Q=>Q vF H
noncomputable def ZQZ(t:TE):TO:=λσ H Q=>t σ H λx H1=>∃i,x=.int i/\Q (vE i) H1
section
variable{X:Cx}{e:xX}{te:TE}{lo hi:Option xX}{tl th:TO}{pos p2:Pos}
theorem ZPm:PO X vF ZNR:=by intro vD s σ H Q I h;rw[evalPart_none];exact v7 ⟨vF,H,I,.none,h⟩
theorem ZRD(h:PE X e te):PO X (vE e) (ZQZ te):=by
 intro vD s σ H Q I hw;rw[evalPart_some];refine thn (h vD s σ H _ I hw) λu s1 ⟨x,H1,I1,r1,q1⟩=>?_
 obtain⟨i,rfl,q⟩:=q1;obtain⟨t,rfl⟩:=r1;exact⟨vE i,H1,I1,.int i t,q⟩
def SlR(X:Cx)(r:V->Option Int->Option Int->Hp->VK->Prop):Prop:=
 ∀(vD:List (xZ×Obj))(s:xq)(σ:St)(H:Hp)(x:V)(v vl vu:xj)(lo hi:Option Int)(sl:xZ)(Q:VK),Inv X vD σ H s->RelV x v->s.heap.IsSliceOf sl vl vu .none->IsPart vl lo->IsPart vu hi->r x lo hi H Q->
  ∃T id,typeLookup (.type T) "__getitem__"=pure (vE (.builtin id))/\s.TypeIs v T/\vY (vZ X.prog X.w) X.A (getItem v (.ref sl)) (EP X vD σ Q) X.xe s
theorem SlR.or{r r':V->Option Int->Option Int->Hp->VK->Prop}(h:SlR X r)(h':SlR X r'):SlR X (λx lo hi H Q=>r x lo hi H Q∨r' x lo hi H Q):=by
 intro vD s σ H x v vl vu lo hi sl Q I rx hs pl pu q;rcases q with q|q
 ·exact h vD s σ H x v vl vu lo hi sl Q I rx hs pl pu q
 ·exact h' vD s σ H x v vl vu lo hi sl Q I rx hs pl pu q
noncomputable def tSl(r:V->Option Int->Option Int->Hp->VK->Prop)(te:TE)(tl th:TO):TE:=λσ H Q=>te σ H λx H1=>tl σ H1 λl H2=>th σ H2 λu H3=>r x l u H3 Q
theorem ZRk{r:V->Option Int->Option Int->Hp->VK->Prop}(hr:SlR X r)(he:PE X e te)(hl:PO X lo tl)(hu:PO X hi th):PE X (.Subscript e (.Slice lo hi vF p2) pos) (tSl r te tl th):=by
 intro vD s σ H Q I h;refine Subscript_ (thn (he vD s σ H _ I h) λv s1 ⟨x,H1,I1,r1,q1⟩=>?_);refine wpAny_Slice (thn (hl vD s1 σ H1 _ I1 q1) λvl s2 ⟨l,H2,I2,pl,q2⟩=>thn (hu vD s2 σ H2 _ I2 q2) λvu s3 ⟨u,H3,I3,pu,q3⟩=>?_);rw[evalPart_none];refine v7 ?_;have I4:Inv X vD σ H3 {s3 with heap:=s3.heap.push {cls:=.type "slice",data:=.fields #[vl,vu,.none]}}:=I3.kept (t':=s3.toks) λb ob q=>zQ _ q
 obtain⟨T,id,hT,ht,hg⟩:=hr vD {s3 with heap:=s3.heap.push {cls:=.type "slice",data:=.fields #[vl,vu,.none]}} σ H3 x v vl vu l u s3.heap.objs.size Q I4 r1 (Heap.IsSliceOf.new ..) pl pu q3;show vY (vZ X.prog X.w) X.A (subscriptTail e (.Slice lo hi vF p2) v (.ref s3.heap.objs.size)) (EP X vD σ Q) X.xe {s3 with heap:=s3.heap.push {cls:=.type "slice",data:=.fields #[vl,vu,.none]}}
 exact tail_any (ops:=[.ref s3.heap.objs.size,v]) ht hT hg (by with_unfolding_all rfl)
def Lr(xs:List V)(lo hi:Option Int):List V:=(xs.drop (HT.sIx xs.length 0 lo)).take (HT.sIx xs.length xs.length hi-HT.sIx xs.length 0 lo)
theorem ZFI(xs:List V)(lo hi:Option Int):(Lr xs lo hi).length<=xs.length:=by unfold Lr;rw[j4,jG];lia
def rSlT(K:PySem.W.Frag):V->Option Int->Option Int->Hp->VK->Prop:=λx lo hi H Q=>∃a xs,x=.ref a/\SqT K H a xs/\
 ¬(HT.sIx xs.length 0 lo=0/\HT.sIx xs.length xs.length hi=xs.length)/\∀p,H p=vF->Q (.ref p) (upd H p (.tup (Lr xs lo hi)))
theorem ZOU:SlR X (rSlT X.K):=by
 intro vD s σ H x v vl vu lo hi sl Q I rx hs pl pu h;obtain⟨a,xs,rfl,hx,hw,q⟩:=h;cases rx;obtain⟨its,r,ht,hz⟩:=I.tuple hx;have hlen:its.toArray.size=xs.length:=by rw[zY];exact r.length.symm
 refine⟨"tuple",_,PyProof.Rows.slot_tuple_getitem.lookup,ht.typeIs,?_⟩;refine HT.ZKy ht hs pl pu (by rw[hlen];exact hw) ?_ (by rw[hlen];exact hz);rw[hlen];refine⟨.ref s.heap.objs.size,_,I.laid (t':=s.toks) (o:=.tup (Lr xs lo hi)) (λb ob q=>zQ _ q) (zK _) ?_,rfl,q _ (I.hok.fresh (zK _))⟩;exact⟨zB (ZFI xs lo hi) hz,_,(r.drop (HT.sIx xs.length 0 lo)).take (HT.sIx xs.length xs.length hi-HT.sIx xs.length 0 lo),IsTup.new _ _⟩
def ZGV(K:PySem.W.Frag):R2:=λx y H Q=>∃a b xs ys,x=.ref a/\y=.ref b/\SqT K H a xs/\SqT K H b ys/\xs≠[]/\xs.length+ys.length<=sizeLine/\
 (ys=[]->Q (.ref a) H)/\(ys≠[]->∀p,H p=vF->Q (.ref p) (upd H p (.tup (xs++ys))))
theorem Vals.ZCH{us:List xj}(r:Vals xs us):us=[]↔xs=[]:=by
 cases r with
 |nil=>simp
 |cons _ _=>simp
theorem ZOC:OpR X (xD .Add) (ZGV X.K):=by
 intro vD s σ H x y v u Q I rx ry h;obtain⟨a,b,xs,ys,rfl,rfl,ha,hb,hx,hz,q1,q2⟩:=h;cases rx;cases ry;obtain⟨its,r1,p1,_⟩:=I.tuple ha;obtain⟨its2,r2,p2,_⟩:=I.tuple hb;refine HT.ZQa p1 p2 (λz=>hx (r1.ZCH.mp z)) (λz=>⟨.ref a,H,I,rfl,q1 (r2.ZCH.mp z)⟩) (λz=>?_) (by rw[<-r1.length,<-r2.length];exact hz);refine⟨.ref s.heap.objs.size,_,I.laid (t':=s.toks) (o:=.tup (xs++ys)) (λb ob q=>zQ _ q) (zK _) ?_,rfl,q2 (λw=>z (r2.ZCH.mpr w)) _ (I.hok.fresh (zK _))⟩
 exact⟨by rw[qZ];exact hz,_,r1.append r2,IsTup.new _ _⟩
end
noncomputable def ixN(n:Nat)(i:Int):Option Nat:=if 0<=i then(if i<n then vE i.toNat else vF)else if -(n:Int)<=i then vE (i+n).toNat else vF
def atI{α:Type}(xs:List α)(i:Int):Option α:=(ixN xs.length i).bind λj=>xs[j]?
theorem ZJK{n:Nat}{i:Int}{j:Nat}(h:ixN n i=vE j):seqIndex? i n=vE j/\j<n/\ -(n:Int)<=i/\i<n:=by
 unfold ixN at h;by_cases h0:0<=i
 ·rw[if_pos h0]at h;by_cases h1:i<n
  ·rw[if_pos h1]at h;have e:i.toNat=j:=Option.some.inj h;exact⟨by rw[seqIndex_of h0 h1,e],by lia,by lia,h1⟩
  ·rw[if_neg h1]at h;cases h
 ·rw[if_neg h0]at h;by_cases h1: -(n:Int)<=i
  ·rw[if_pos h1]at h;have e:(i+n).toNat=j:=Option.some.inj h;exact⟨by rw[seqIndex_neg (by lia) h1,e],by lia,h1,by lia⟩
  ·rw[if_neg h1]at h;cases h
theorem Wl{α:Type}{xs:List α}{i:Int}{v:α}(h:atI xs i=vE v):∃j,seqIndex? i xs.length=vE j/\xs[j]?=vE v/\j<xs.length/\ -(xs.length:Int)<=i/\i<xs.length:=by
 unfold atI at h;cases e:ixN xs.length i with
 |none=>rw[e]at h;cases h
 |some j=>
  rw[e]at h;obtain⟨h1,h2,h3,h4⟩:=ZJK e;exact⟨j,h1,h,h2,h3,h4⟩
def PlainIx(b:xX):Prop:=∀o i,subscripted b vH o i=operate [o,i] (getItem o i)
def IxR(X:Cx)(r:R2):Prop:=
 ∀(value slice:xX)(vD:List (xZ×Obj))(s:xq)(σ:St)(H:Hp)(x y:V)(v u:xj)(Q:VK),Inv X vD σ H s->RelV x v->RelV y u->r x y H Q->
  subscripted slice vH v u=operate [v,u] (getItem v u)->vY (vZ X.prog X.w) X.A (subscriptTail value slice v u) (EP X vD σ Q) X.xe s
def MtR(X:Cx)(id:String)(r:V->List V->Hp->VK->Prop):Prop:=
 ∀(vD:List (xZ×Obj))(s:xq)(σ:St)(H:Hp)(x:V)(xs:List V)(v:xj)(us:List xj)(Q:VK),Inv X vD σ H s->RelV x v->Vals xs us->r x xs H Q->
  vY (vZ X.prog X.w) X.A (call (.builtin id) (v::us)) (EP X vD σ Q) X.xe s
section
variable{X:Cx}{a b:xX}{ta tb:TE}{pos:Pos}
theorem IxR.or{r r':R2}(h:IxR X r)(h':IxR X r'):IxR X (λx y H Q=>r x y H Q∨r' x y H Q):=by
 intro value slice vD s σ H x y v u Q I rx ry q hs;rcases q with q|q
 ·exact h value slice vD s σ H x y v u Q I rx ry q hs
 ·exact h' value slice vD s σ H x y v u Q I rx ry q hs
theorem ZGp{r:R2}(hr:IxR X r)(ha:PE X a ta)(hb:PE X b tb)(hs:PlainIx b):PE X (.Subscript a b pos) (tOp r ta tb):=by intro vD s σ H Q I h;exact Subscript_ (ZAi ha hb I h λv u s2 x y H2 I2 rx ry q=>hr a b vD s2 σ H2 x y v u Q I2 rx ry q (hs _ _))
def rIxL(K:PySem.W.Frag):R2:=λx y H Q=>∃p xs i v,x=.ref p/\y=.int i/\SqL K H p xs/\atI xs i=vE v/\Q v H
def rIxT(K:PySem.W.Frag):R2:=λx y H Q=>∃p xs i v,x=.ref p/\y=.int i/\SqT K H p xs/\atI xs i=vE v/\Q v H
def rIxS:R2:=λx y H Q=>∃z i c,x=.str z/\y=.int i/\z.length<=sizeLine/\atI z.cps.toList i=vE c/\Q (.str ⟨#[c]⟩) H
theorem ZRF:IxR X (rIxL X.K):=by
 intro value slice vD s σ H x y v u Q I rx ry h hs;obtain⟨p,xs,i,z,rfl,rfl,hq,he,q⟩:=h;cases rx;obtain⟨t,rfl⟩:=ry;obtain⟨its,r,pl,hz⟩:=I.list hq;obtain⟨j,h1,h2,h3,h4,h5⟩:=Wl he;obtain⟨w,ew,rw'⟩:=r.get h2;have hl:=r.length;have hn:=line63;have fin:EP X vD σ Q w s:=⟨z,H,I,rw',q⟩;by_cases h0:0<=i
 ·have hj:i.toNat=j:=by rw[seqIndex_of h0 h5]at h1;exact Option.some.inj h1
  exact item_listR pl.isList h0 (by lia) (by rw[hj];simpa using ew) fin hs
 ·have hj:(i+(its.toArray.size:Int)).toNat=j:=by rw[seqIndex_neg (by lia) h4]at h1;rw[zY,<-hl];exact Option.some.inj h1
  exact subscriptTail_builtinR (x:=w) pl.isList.typeIs slot_list_getitem.lookup
   (wpAny_getItem_list_neg (Q:=λr s'=>r=w/\EP X vD σ Q r s') pl.isList (by lia) (by rw[zY]<;>lia) (by lia) (by rw[hj];simpa using ew) ⟨rfl,fin⟩) hs
theorem ZRX:IxR X (rIxT X.K):=by
 intro value slice vD s σ H x y v u Q I rx ry h hs;obtain⟨p,xs,i,z,rfl,rfl,hq,he,q⟩:=h;cases rx;obtain⟨t,rfl⟩:=ry;obtain⟨its,r,pl,hz⟩:=I.tuple hq;obtain⟨j,h1,h2,h3,h4,h5⟩:=Wl he;obtain⟨w,ew,rw'⟩:=r.get h2;have hl:=r.length;have hn:=line63;have fin:EP X vD σ Q w s:=⟨z,H,I,rw',q⟩;exact subscriptTail_builtinR (x:=w) pl.typeIs slot_tuple_getitem.lookup
  (getItem_tuple (j:=j) (Q:=λr s'=>r=w/\EP X vD σ Q r s') pl (by lia) (by lia) (by rw[zY,<-hl];exact h1) (by simpa using ew) ⟨rfl,fin⟩) hs
theorem ZQl:IxR X rIxS:=by
 intro value slice vD s σ H x y v u Q I rx ry h hs;obtain⟨z,i,c,rfl,rfl,hz,he,q⟩:=h;obtain⟨t,rfl⟩:=rx;obtain⟨t',rfl⟩:=ry;obtain⟨j,h1,h2,h3,h4,h5⟩:=Wl he;have hl:z.cps.toList.length=z.length:=by simp[Str.length]
 rw[hl]at h1 h4 h5;have hn:=line63;exact tail_any (typeIs_str s z t) slot_str_getitem.lookup (getItem_str (c:=c) (by have e1:decide (i < -(2^63:Int))=vH:=decide_eq_false (by lia);have e2:decide (i ≥ 2^63)=vH:=decide_eq_false (by lia);rw[e1,e2,Bool.or_false]) (by rw[h1];simpa using h2) ⟨.str ⟨#[c]⟩,H,I.tok _,⟨_,rfl⟩,q⟩) hs
def rIx(K:PySem.W.Frag):R2:=λx y H Q=>rIxL K x y H Q∨rIxT K x y H Q∨rIxS x y H Q
theorem ZLl:IxR X (rIx X.K):=ZRF.or (ZRX.or ZQl)
theorem ZLw(its:List xj)(n j:Nat)(u:xj):Obj.mapSeq (·.setIfInBounds j u) {cls:=.type "list",data:=.seq its.toArray n}={cls:=.type "list",data:=.seq (its.set j u).toArray n}:=by simp[Obj.mapSeq]
theorem Inv.lst{p:xZ}(I:Inv X vD σ H s)(h:H p=vE (.lst xs)):
  ∃(its:List xj)(n:Nat),Vals xs its/\s.heap.get? p=vE {cls:=.type "list",data:=.seq its.toArray n}/\xs.length<=sizeLine:=by
 obtain⟨z,its,n,r,e⟩:=I.hok p _ h;exact⟨its,n,r,e,z⟩
theorem Inv.ZLx{p:xZ}{ys:List V}{its':List xj}{n n':Nat}{f:Obj->Obj}(I:Inv X vD σ H s)(h:H p=vE (.lst xs))
  (ho:s.heap.get? p=vE {cls:=.type "list",data:=.seq its.toArray n}) (hf:f {cls:=.type "list",data:=.seq its.toArray n}={cls:=.type "list",data:=.seq its'.toArray n'}) (r:Vals ys its') (hz:ys.length<=sizeLine) (t:Nat):
  Inv X vD σ (upd H p (.lst ys)) {s with heap:=s.heap.update p f,toks:=t}:=by
 have e:(s.heap.update p f).get? p=vE {cls:=.type "list",data:=.seq its'.toArray n'}:=by rw[jH f ho (by rw[hf]<;>rfl),hf]
 refine I.write (x:=p) (e:=p) (by rw[h];trivial) (.inl rfl) (λb u hb q=>(Heap.get?_update_other _ _ (Ne.symm hb)).trans q) ⟨_,e⟩ ?_;exact⟨hz,its',n',r,e⟩
def ZQi:V->V->V->Hp->(Hp->Prop)->Prop:=λo i v H Q=>∃p xs k j,o=.ref p/\i=.int k/\H p=vE (.lst xs)/\ixN xs.length k=vE j/\Q (upd H p (.lst (xs.set j v)))
theorem set_list:PSet X ZQi:=by
 intro vD s σ H o i v ov iv u Q I ro ri rv h;obtain⟨p,xs,k,j,rfl,rfl,hp,hj,q⟩:=h;cases ro;obtain⟨t,rfl⟩:=ri;obtain⟨its,n,r,ho,hz⟩:=I.lst hp;obtain⟨h1,h2,h3,h4⟩:=ZJK hj;have hl:=r.length;have hn:=line63
 have I':Inv X vD σ (upd H p (.lst (xs.set j v))) {s with heap:=s.heap.update p (Obj.mapSeq (·.setIfInBounds j u))}:=
  I.ZLx hp ho (ZLw its n j u) (r.set rv j) (by rw[jv];exact hz) s.toks
 by_cases h0:0<=k
 ·have hk:k.toNat=j:=by rw[seqIndex_of h0 h4]at h1;exact Option.some.inj h1
  exact PySem.W.ki_setAt ho h0 (by lia) (by rw[zY,<-hl];exact h4) (by rw[hk];exact⟨_,I',q⟩)
 ·have hk:(k+(its.toArray.size:Int)).toNat=j:=by rw[seqIndex_neg (by lia) h3]at h1;rw[zY,<-hl];exact Option.some.inj h1
  exact PySem.W.ki_setBack ho (by lia) (by rw[zY,<-hl];exact h3) (by lia) (by rw[hk];exact⟨_,I',q⟩)
theorem ZQh(lo hi:Option Int)(n:Nat):(vV lo hi vF n).1=((HT.sIx n 0 lo:Nat):Int)/\(vV lo hi vF n).2.1=((HT.sIx n n hi:Nat):Int)/\(vV lo hi vF n).2.2=1:=by
 refine⟨?_,?_,rfl⟩
 ·cases lo with
  |none=>simp[vV,HT.sIx]
  |some i=>
   simp only[vV,HT.sIx,Option.getD_none,show(1:Int)>0 by decide,if_true];by_cases h:i<0
   ·simp only[h,if_true]<;>lia
   ·simp only[h,if_false]<;>lia
 ·cases hi with
  |none=>simp[vV,HT.sIx]
  |some i=>
   simp only[vV,HT.sIx,Option.getD_none,show(1:Int)>0 by decide,if_true];by_cases h:i<0
   ·simp only[h,if_true]<;>lia
   ·simp only[h,if_false]<;>lia
theorem ZOe(its:List xj)(lo hi:Option Int):slicePick its.toArray lo hi vF=((its.drop (HT.sIx its.length 0 lo)).take (HT.sIx its.length its.length hi-HT.sIx its.length 0 lo)).toArray:=by
 obtain⟨h1,h2,h3⟩:=ZQh lo hi its.toArray.size;unfold slicePick;rw[h1,h2,h3]
 simp only[sliceRange_one,pick_run,zY]<;>rfl
def rSlL(K:PySem.W.Frag):V->Option Int->Option Int->Hp->VK->Prop:=λx lo hi H Q=>∃a xs,x=.ref a/\SqL K H a xs/\∀p,H p=vF->Q (.ref p) (upd H p (.lst (Lr xs lo hi)))
theorem ZQV:SlR X (rSlL X.K):=by
 intro vD s σ H x v vl vu lo hi sl Q I rx hs pl pu h;obtain⟨a,xs,rfl,hx,q⟩:=h;cases rx;obtain⟨its,r,ht,hz⟩:=I.list hx;have hlen:=r.length;refine⟨"list",_,slot_list_getitem.lookup,ht.isList.typeIs,?_⟩
 refine wpAny_getItem_list_slice ht.isList hs pl pu .none (by simp) ?_ (by rw[zY]<;>lia)
 rw[ZOe,<-hlen];refine⟨.ref s.heap.objs.size,_,I.laid (t':=s.toks) (o:=.lst (Lr xs lo hi)) (λb ob q=>zQ _ q) (zK _) ?_,rfl,q _ (I.hok.fresh (zK _))⟩;exact⟨zB (ZFI xs lo hi) hz,_,0,(r.drop (HT.sIx xs.length 0 lo)).take (HT.sIx xs.length xs.length hi-HT.sIx xs.length 0 lo),z0 _ rfl⟩
noncomputable def Ef:V->Bool
 |.non=>vG
 |.bl _=>vG
 |.int _=>vG
 |.str _=>vG
 |_=>vH
noncomputable def eqV:V->V->Bool
 |.non,.non=>vG
 |.bl a,.bl b=>a==b
 |.bl a,.int b=>(if a then 1 else 0)==b
 |.int a,.bl b=>a==(if b then 1 else 0)
 |.int a,.int b=>a==b
 |.str a,.str b=>a==b
 |_,_=>vH
theorem ZIJ{A:xJ}{y x:V}{u v:xj}(ry:RelV y u)(rx:RelV x v)(fy:Ef y=vG)(fx:Ef x=vG):SeqAt.EqAt A s u v (eqV y x):=by
 cases y with
 |non=>
  cases ry;cases x with
  |non=>cases rx;exact SeqAt.EqAt.same _
  |bl b=>cases rx;exact SeqAt.EqAt.none_bool b
  |int b=>obtain⟨t,rfl⟩:=rx;exact SeqAt.EqAt.none_int b t
  |str b=>obtain⟨t,rfl⟩:=rx;exact SeqAt.EqAt.none_str b t
  |_=>exact absurd (show vH=vG from fx) zy
 |bl a=>
  cases ry;cases x with
  |non=>cases rx;exact SeqAt.EqAt.bool_none a
  |bl b=>cases rx;exact SeqAt.EqAt.bool_bool a b
  |int b=>obtain⟨t,rfl⟩:=rx;exact SeqAt.EqAt.bool_int a b t
  |str b=>obtain⟨t,rfl⟩:=rx;exact SeqAt.EqAt.bool_str a b t
  |_=>exact absurd (show vH=vG from fx) zy
 |int a=>
  obtain⟨t',rfl⟩:=ry;cases x with
  |non=>cases rx;exact SeqAt.EqAt.int_none a t'
  |bl b=>cases rx;exact SeqAt.EqAt.int_bool a t' b
  |int b=>obtain⟨t,rfl⟩:=rx;exact SeqAt.EqAt.int_int a t' b t
  |str b=>obtain⟨t,rfl⟩:=rx;exact SeqAt.EqAt.int_str a t' b t
  |_=>exact absurd (show vH=vG from fx) zy
 |str a=>
  obtain⟨t',rfl⟩:=ry;cases x with
  |non=>cases rx;exact SeqAt.EqAt.str_none a t'
  |bl b=>cases rx;exact SeqAt.EqAt.str_bool a t' b
  |int b=>obtain⟨t,rfl⟩:=rx;exact SeqAt.EqAt.str_int a t' b t
  |str b=>obtain⟨t,rfl⟩:=rx;exact SeqAt.EqAt.str_str a t' b t
  |_=>exact absurd (show vH=vG from fx) zy
 |_=>exact absurd (show vH=vG from fy) zy
def eqU(x:V)(u:xj):Bool:=match u with
 |.none=>eqV .non x
 |.bool b=>eqV (.bl b) x
 |.int i _=>eqV (.int i) x
 |.str z _=>eqV (.str z) x
 |_=>vH
theorem ZJv{x y:V}{u:xj}(r:RelV y u)(f:Ef y=vG):eqU x u=eqV y x:=by
 cases y with
 |non=>cases r;rfl
 |bl b=>cases r;rfl
 |int i=>obtain⟨t,rfl⟩:=r;rfl
 |str z=>obtain⟨t,rfl⟩:=r;rfl
 |_=>exact absurd (show vH=vG from f) zy
theorem ZBV{x:V}:∀{xs:List V}{us:List xj},Vals xs us->xs.all Ef=vG->us.any (eqU x)=xs.any λy=>eqV y x
 |_,_,.nil,_=>rfl
 |y::xs,u::us,.cons r t,f=>by rw[qB,zC]at f;rw[j5,j5,ZJv r f.1,ZBV t f.2]
theorem ZBu{A:xJ}{x:V}{v:xj}(rx:RelV x v)(fx:Ef x=vG):∀{xs:List V}{us:List xj},Vals xs us->xs.all Ef=vG->∀u∈us,SeqAt.EqAt A s u v (eqU x u)
 |_,_,.nil,_=>λu hu=>by cases hu
 |y::xs,u::us,.cons r t,f=>λu' hu=>by
  rw[qB,zC]at f;rcases zw.mp hu with rfl|hu
  ·rw[ZJv r f.1];exact ZIJ r rx f.1 fx
  ·exact ZBu rx fx t f.2 u' hu
def inV(x:V)(xs:List V):Bool:=xs.any λy=>eqV y x
def rIn(K:PySem.W.Frag)(neg:Bool):R2:=λx y H Q=>∃p xs,y=.ref p/\(SqL K H p xs∨SqT K H p xs)/\Ef x=vG/\xs.all Ef=vG/\Q (.bl (if neg then !inV x xs else inV x xs)) H
theorem ZQM:OpR X (xI .NotIn) (rIn X.K vG):=by
 intro vD s σ H x y v u Q I rx ry h;obtain⟨p,xs,rfl,hq,fx,fs,q⟩:=h;cases ry;rcases hq with hq|hq
 ·obtain⟨its,r,pl,hz⟩:=I.list hq;refine SeqAt.notIn_listAt (eqU x) pl.isList (λw hw=>ZBu rx fx r fs w (by simpa using hw)) ⟨.bl _,H,I,rfl,?_⟩;rw[show its.toArray.any (eqU x)=its.any (eqU x) by simp,ZBV r fs];exact q
 ·obtain⟨its,r,pl,hz⟩:=I.tuple hq;refine SeqAt.notIn_tupleAt (eqU x) pl (λw hw=>ZBu rx fx r fs w (by simpa using hw)) ⟨.bl _,H,I,rfl,?_⟩;rw[show its.toArray.any (eqU x)=its.any (eqU x) by simp,ZBV r fs];exact q
theorem ZSo:CallR X (.builtin "len") (λxs H Q=>∃p ys,xs=[.ref p]/\(SqL X.K H p ys∨SqT X.K H p ys)/\Q (.int ys.length) H):=by
 intro vD s σ H xs us Q I r h;obtain⟨p,ys,rfl,hq,q⟩:=h;obtain⟨u,rfl,rx⟩:=vals1 r;cases rx;have hn:=line63;rcases hq with hq|hq
 ·obtain⟨its,r',pl,hz⟩:=I.list hq;have hlen:=r'.length
  exact Calls.call_len_list pl.isList (by simp only[zY]<;>lia) ⟨.int ys.length,H,I.tok _,⟨s.toks+1,by rw[zY,hlen]⟩,q⟩
 ·obtain⟨its,r',pl,hz⟩:=I.tuple hq;have hlen:=r'.length
  exact len_tuple pl (by simp only[zY]<;>lia) ⟨.int ys.length,H,I.tok _,⟨s.toks+1,by rw[zY,hlen]⟩,q⟩
theorem ZLd:CallR X (.builtin "len") (λxs H Q=>∃z,xs=[.str z]/\z.length<=sizeLine/\Q (.int z.length) H):=by intro vD s σ H xs us Q I r h;obtain⟨z,rfl,hz,q⟩:=h;obtain⟨u,rfl,t,rfl⟩:=vals1 r;have hn:=line63;exact len_str (by lia) ⟨.int z.length,H,I.tok _,⟨_,rfl⟩,q⟩
theorem CallR.or{f:xj}{r r':List V->Hp->VK->Prop}(h:CallR X f r)(h':CallR X f r'):CallR X f (λxs H Q=>r xs H Q∨r' xs H Q):=by
 intro vD s σ H xs us Q I rs q;rcases q with q|q
 ·exact h vD s σ H xs us Q I rs q
 ·exact h' vD s σ H xs us Q I rs q
theorem ZLZ:CallR X (.type "list") (λxs H Q=>∃p ys,xs=[.ref p]/\(SqL X.K H p ys∨SqT X.K H p ys)/\∀l,H l=vF->Q (.ref l) (upd H l (.lst ys))):=by
 intro vD s σ H xs us Q I r h;obtain⟨p,ys,rfl,hq,q⟩:=h;obtain⟨u,rfl,rx⟩:=vals1 r;cases rx;have fin:∀(its:List xj),Vals ys its->ys.length<=sizeLine->∀(h':Heap)(c':Nat),(∀b o',s.heap.get? b=vE o'->h'.get? b=vE o')->
   h'.get? s.heap.objs.size=vE {cls:=.type "list",dict:=vF,data:=.seq its.toArray c',slots:= #[]}->EP X vD σ Q (.ref s.heap.objs.size) {s with heap:=h'}:=λits r' hz h' c' kp e=>
  ⟨.ref s.heap.objs.size,_,I.laid (t':=s.toks) kp (zK _) (show ObjOk X.prog X.w _ h' _ (.lst ys)from⟨hz,its,c',r',e⟩),rfl,q _ (I.hok.fresh (zK _))⟩
 rcases hq with hq|hq
 ·obtain⟨its,r',pl,hz⟩:=I.list hq;have hlen:=r'.length;obtain⟨o,ho,hc,n,hd⟩:=pl.isList
  exact call_list_seq p (.inl rfl) ho hc hd (λh' c' kp e=>fin its r' hz h' c' kp e) (by simp only[zY]<;>lia)
 ·obtain⟨its,r',pl,hz⟩:=I.tuple hq;have hlen:=r'.length;obtain⟨o,ho,hc,n,hd⟩:=pl
  exact call_list_seq p (.inr rfl) ho hc hd (λh' c' kp e=>fin its r' hz h' c' kp e) (by simp only[zY]<;>lia)
theorem ZNk:CallR X (.type "tuple") (λxs H Q=>∃p ys,xs=[.ref p]/\((SqL X.K H p ys/\∀l,H l=vF->Q (.ref l) (upd H l (.tup ys)))∨(SqT X.K H p ys/\Q (.ref p) H))):=by
 intro vD s σ H xs us Q I r h;obtain⟨p,ys,rfl,h⟩:=h;obtain⟨u,rfl,rx⟩:=vals1 r;cases rx;rcases h with⟨hq,q⟩|⟨hq,q⟩
 ·obtain⟨its,r',pl,hz⟩:=I.list hq;have hlen:=r'.length
  refine call_tuple_list pl.isList (λh' kp=>?_) (by simp only[zY]<;>lia)
  have I1:Inv X vD σ H {s with heap:=h'}:=I.kept (t':=s.toks) kp;have I2:Inv X vD σ (upd H h'.objs.size (.tup ys)) {s with heap:=h'.push {cls:=.type "tuple",data:=.seq its.toArray}}:=
   I1.laid (t':=s.toks) (λb o e=>zQ _ e) (zK _) (show ObjOk X.prog X.w _ _ _ (.tup ys)from⟨hz,its,r',IsTup.new _ _⟩)
  exact⟨.ref h'.objs.size,_,I2,rfl,q _ (I1.hok.fresh (zK _))⟩
 ·obtain⟨its,r',pl,hz⟩:=I.tuple hq;exact call_tuple_same pl ⟨.ref p,H,I,rfl,q⟩
def tyV(K:PySem.W.Frag)(T:String)(x:V)(H:Hp):Prop:=match x with
 |.str _=>T="str"
 |.int _=>T="int"
 | .ref p=>(T="list"/\∃xs,SqL K H p xs)∨(T="tuple"/\∃o,K.lookup p=vE o/\o.cls=.type "tuple"/\o.dict=vF)∨
   (T="dict"/\((∃kvs,H p=vE (.dK kvs))∨∃kvs,H p=vE (.dT kvs)))∨(T="set"/\∃S n,H p=vE (.set S n))
 |_=>False
theorem ZPa{T:String}{x:V}{v:xj}(I:Inv X vD σ H s)(r:RelV x v)(ty:tyV X.K T x H):
  s.TypeIs v T/\∀a,v=.ref a->∃ob,s.heap.get? a=vE ob/\ob.dict=vF:=by
 cases x with
 |str z=>
  obtain⟨t,rfl⟩:=r
  cases(show T="str" from ty)
  exact⟨typeIs_str s z t,λ_ e=>nomatch e⟩
 |int i=>
  obtain⟨t,rfl⟩:=r
  cases(show T="int" from ty)
  exact⟨typeIs_int s i t,λ_ e=>nomatch e⟩
 | ref p=>
  cases r;rcases ty with⟨rfl,xs,hq⟩|⟨rfl,o,hk,hc,hd⟩|⟨rfl,hk⟩|⟨rfl,S,n,hk⟩
  ·obtain⟨its,_,pl,_⟩:=I.list hq;refine⟨pl.isList.typeIs,λa e=>?_⟩;cases e;obtain⟨o,n,e,c,hd,_⟩:=pl;exact⟨o,e,hd⟩
  ·refine⟨⟨o,I.kIn p o hk,hc⟩,λa e=>?_⟩;cases e;exact⟨o,I.kIn _ o hk,hd⟩
  ·have z:∃o,s.heap.get? p=vE o/\o.ExactDict:=by
    rcases hk with⟨kvs,hk⟩|⟨kvs,hk⟩
    ·obtain⟨_,_,_,_,o,_,_,e,ex,_⟩:=I.hok p _ hk;exact⟨o,e,ex⟩
    ·obtain⟨_,_,_,_,o,_,_,e,ex,_⟩:=I.hok p _ hk;exact⟨o,e,ex⟩
   obtain⟨o,e,ex⟩:=z;refine⟨⟨o,e,ex.1⟩,λa e2=>?_⟩;cases e2;exact⟨o,e,ex.2.1⟩
  ·obtain⟨o,_,_,_,e,ex,_⟩:=I.hok p _ hk;refine⟨⟨o,e,ex.1⟩,λa e2=>?_⟩;cases e2;exact⟨o,e,ex.2.1⟩
 |_=>exact False.elim ty
noncomputable def tBM(K:PySem.W.Frag)(T:String)(r:V->List V->Hp->VK->Prop)(to:TE)(t:TA):TE:=λσ H Q=>to σ H λx H1=>tyV K T x H1/\t σ H1 λxs H2=>r x xs H2 Q
variable{o e:xX}{es:List xX}{to:TE}{t:TA}{name:Str}{apos cpos:Pos}{T id:String}{r:V->List V->Hp->VK->Prop}
theorem ZSe(pa:PlainAttrs T)(slot:Slot T name id)(hty:typeOf (.builtin id)=pure (.type "method_descriptor"))(hm:MtR X id r)(ho:PE X o to)(ha:PA X (e::es) t)
  (hbase:xy o name X.env (eval o X.env)=eval o X.env:=by rfl)
  (hfew:((x0 cpos (vW (e::es) X.env)).all (λx=> !x.1)&&(xB cpos (xT [] X.env)).all (λx=>x.1.isSome)
   && decide ((e::es).length+([]:List Keyword).length+(if([]:List Keyword).isEmpty then 0 else 1)<30))=vG:=by rfl)
  (hline:(apos.endLine==cpos.line)=vG:=by rfl) (hs:vW (e::es) X.env=(vH,eval e X.env)::vW es X.env:=by rfl) (hplain:(x0 cpos (vW es X.env)).any (·.1)=vH:=by rfl):
  PE X (.Call (.Attribute o name apos) (e::es) [] cpos) (tBM X.K T r to t):=by
 intro vD s σ H Q I h;refine wpAny_Call_method_late hbase hfew hline rfl (thn (ho vD s σ H _ I h) λv s1 ⟨x,H1,I1,r1,ty,q1⟩=>?_);obtain⟨h1,h2⟩:=ZPa I1 r1 ty;refine⟨T,id,pa,slot,hty,h1,h2,?_⟩;have hA:=ha cpos vD s1 σ H1 _ I1 q1;rw[hs]at hA⊢
 refine Calls.callWith_builtin (by show(vH||(x0 cpos (vW es X.env)).any (·.1))=vH;rw[hplain]<;>rfl) (Calls.evalArgs_plain ?_)
 exact thn hA λus s2 ⟨vs,H2,I2,r2,q2⟩=>hm vD s2 σ H2 x vs v us Q I2 r1 r2 q2
end
def MtM(X:Cx)(id:String)(r:V->List V->Hp->VK->Prop):Prop:=
 ∀(vD:List (xZ×Obj))(s:xq)(σ:St)(H:Hp)(x:V)(xs:List V)(v:xj)(us:List xj)(Q:VK),Inv X vD σ H s->RelV x v->Vals xs us->r x xs H Q->
  vY (vZ X.prog X.w) X.A (call (.builtin id) (v::us)) (EP X vD σ Q) X.xe s
theorem Vals.one:∀{x:V}{us:List xj},Vals [x] us->∃u,us=[u]/\RelV x u
 |_,_,.cons r .nil=>⟨_,rfl,r⟩
theorem Vals.rep{us:List xj}(h:Vals xs us):∀k:Nat,Vals (zV k xs).flatten (zV k us).flatten
 |0=>.nil
 |k+1=>by rw[zS,zS,q8,q8];exact Vals.append h (Vals.rep h k)
theorem foldl_rep(its:List xj):∀(k:Nat)(acc:List xj),
  List.foldl (λx1 x2=>x1++x2) acc.toArray (zV k its.toArray)=(acc++(zV k its).flatten).toArray
 |0,acc=>by simp
 |k+1,acc=>by
  have e:acc.toArray++its.toArray=(acc++its).toArray:=by simp
  have e2:(acc++its)++(zV k its).flatten=acc++(zV (k+1) its).flatten:=by rw[zS,q8,jy]
  rw[<-e2,<-foldl_rep its k (acc++its),<-e,zS,jV]
section
variable{X:Cx}{vD:List (xZ×Obj)}{σ:St}{H:Hp}{s:xq}{l b:xZ}{xs ys zs:List V}
theorem Inv.lset{its':List xj}{n:Nat}{f:Array xj->Array xj}{t':Nat}(I:Inv X vD σ H s)(hH:H l=vE (.lst xs))
  (e:s.heap.get? l=vE {cls:=.type "list",data:=.seq its.toArray n}) (hf:f its.toArray=its'.toArray) (hv:Vals ys its') (hz:ys.length<=sizeLine):
  Inv X vD σ (upd H l (.lst ys)) {s with heap:=s.heap.update l (Obj.mapSeq f),toks:=t'}:=by
 have q:=PySem.IsL.update e f;rw[hf]at q;refine I.write (x:=l) (e:=l) (by rw[hH];exact trivial) (.inl rfl) (λb' u hb hu=>(Heap.get?_update_other s.heap (Obj.mapSeq f) (Ne.symm hb)).trans hu) ⟨_,q⟩ ?_;exact⟨hz,its',_,hv,q⟩
theorem Inv.lnew{t':Nat}(I:Inv X vD σ H s)(hv:Vals ys its)(hz:ys.length<=sizeLine):
  Inv X vD σ (upd H s.heap.objs.size (.lst ys)) {s with heap:=s.heap.push {cls:=.type "list",data:=.seq its.toArray},toks:=t'}:=
 I.laid (λ_ _ q=>zQ _ q) (zK _) ⟨hz,its,0,hv,z0 _ rfl⟩
theorem Inv.fresh(I:Inv X vD σ H s):H s.heap.objs.size=vF:=I.hok.fresh (zK _)
theorem Inv.lstM(I:Inv X vD σ H s)(hH:H l=vE (.lst xs)):xs.length<=sizeLine/\∃(its:List xj)(n:Nat),Vals xs its/\xs.length=its.length/\s.heap.get? l=vE {cls:=.type "list",data:=.seq its.toArray n}:=by obtain⟨z,its,n,r,e⟩:=I.hok l _ hH;exact⟨z,its,n,r,r.length,e⟩
theorem ZPM{n:Nat}(h:n<=sizeLine):Builtin.List.listTooLong n=vH:=by unfold Builtin.List.listTooLong;exact decide_eq_false (by lia)
end
section
variable{X:Cx}
def ZSB:V->List V->Hp->VK->Prop:=λx vs H Q=>∃l xs y,x=.ref l/\vs=[y]/\H l=vE (.lst xs)/\xs.length<sizeLine/\Q .non (upd H l (.lst (xs++[y])))
theorem ZRb:MtM X "list.append" ZSB:=by
 intro vD s σ H x vs v us Q I rx rv h;obtain⟨l,xs,y,rfl,rfl,hH,hz,q⟩:=h;cases rx;obtain⟨u,rfl,ru⟩:=rv.one;obtain⟨z,its,n,r,hl,e⟩:=I.lstM hH;refine call_meets F.slot_list_append ⟨_,e,rfl⟩ F.entry_list_append (F.args_list_append_2 _ _) (PySem.list_append l its.toArray n u (by rw[zY];lia)) ⟨e,?_⟩;refine⟨.non,_,I.lset (its':=its++[u]) hH e (by simp) (r.append (.cons ru .nil)) ?_,rfl,q⟩
 rw[qZ,j0];lia
def rRep:R2:=λx y H Q=>∃l k xs,x=.ref l/\y=.int k/\H l=vE (.lst xs)/\ -(2^63)<=k/\k<2^63/\xs.length*k.toNat<=sizeLine/\
 ∀p,H p=vF->Q (.ref p) (upd H p (.lst (zV k.toNat xs).flatten))
theorem len_rep{α:Type}(xs:List α)(k:Nat):(zV k xs).flatten.length=k*xs.length:=by
 induction k with
 |zero=>simp
 |succ k ih=>rw[zS,q8,qZ,ih,Nat.succ_mul,Nat.add_comm]
theorem ZQA:OpR X (xD .Mult) rRep:=by
 intro vD s σ H x y v u Q I rx ry h;obtain⟨l,k,xs,rfl,rfl,hH,h1,h2,hz,q⟩:=h;cases rx;obtain⟨t,rfl⟩:=ry;obtain⟨z,its,n,r,hl,e⟩:=I.lstM hH;have hlen:its.toArray.size*k.toNat<=sizeLine:=by rw[zY,<-hl];exact hz
 have hcap:¬its.toArray.size*k.toNat>(2^63-1)/8:=by
  have:(sizeLine:Nat)<=(2^63-1)/8:=by decide
  lia
 have hfit:¬(!Builtin.List.listFitsIndex k)=vG:=by rw[fitsIndex_both h1 h2];exact zy
 have hlong:¬Builtin.List.listTooLong (its.toArray.size*k.toNat)=vG:=by rw[ZPM hlen];exact zy
 have hnew:List.foldl (λx1 x2=>x1++x2) #[] (zV (if its.toArray.isEmpty=vG then 0 else k.toNat) its.toArray)=(zV k.toNat its).flatten.toArray:=by
  have f0:∀m:Nat,List.foldl (λx1 x2=>x1++x2) #[] (zV m its.toArray)=(zV m its).flatten.toArray:=λm=>by have:=foldl_rep its m [];rw[jP]at this;exact this
  rw[f0];cases its with
  |nil=>simp
  |cons a r'=>rw[if_neg (by simp)]
 refine wpAny_binaryOp_repeat_ref (T:="list") (U:="int") (by decide) ⟨_,e,rfl⟩ (λs'=>typeIs_int s' k t) noFill_list_mul F.fills_int_mul F.slot_int_rmul repeat_list F.slot_int_index.lookup
  (call_meets F.slot_int_rmul (typeIs_int s k t) F.entry_int_rmul (F.args_int_rmul_2 _ _) (int___rmul___int_list k t l its.toArray n)
   ⟨e,rfl,⟨_,e,rfl⟩,call_meets F.slot_list_mul ⟨_,e,rfl⟩ F.entry_list_mul (F.args_list_mul_2 _ _) (AutoListH.list___mul___list_int_3 l its.toArray n k t hfit hcap hlong) ⟨e,?_⟩⟩)
 rw[hnew];exact⟨.ref _,_,I.lnew (t':=s.toks) (r.rep k.toNat) (by rw[len_rep,Nat.mul_comm];exact hz),rfl,q _ I.fresh⟩
end
section
variable{prog:xK}{w:xw}{A:xJ}{E:xj->xq->Prop}{s:xq}
end
section
variable{X:Cx}
end
end L2
namespace Att
open PySem PySem.W PySem.Calls PyProof.Rows
variable{h:Heap}
theorem ZLP{P:Params}:∀(ns:List Int)(vs:List xj),WellAll P h vs (ns.map WData.int)->IntsAre vs ns:=by
 intro ns
 induction ns with
 |nil=>
  intro vs w;rw[jC]at w;cases w;exact .nil
 | cons n ns ih=>
  intro vs w;rw[zk]at w;cases w with
  |cons a b=>
   cases a;exact .cons _ _ (ih _ b)
theorem ZSk{l:OpenLaw}{n:Nat}(hn:l.most=vE n){P:Params}{args:List WData}{vals:List xj}
  (hpre:l.row.toRowW.claim.pre args=vG) (hwl:WellAll P h vals args):
  ∃a vs ns,vals=[Value.ref a]/\args=[WData.list (ns.map WData.int)]/\h.get? a=vE {cls:=.type "list",data:=.seq vs.toArray}/\IntsAre vs ns/\ns.length<=n:=by
 have hsh:WShape.hasAll [] args [.list .int]=vG:=(pre_splitW hpre).1;have hc:l.pre.holds [] {args:=args}=vG:=(pre_splitW hpre).2;obtain⟨d,r,rfl,h1,h2⟩:=hasAllW_cons hsh;obtain rfl:=hasAllW_nil h2;obtain⟨xs,rfl,h3⟩:=hasW_list h1;obtain⟨ns,rfl⟩:=items_int h3;have hlen:ns.length<=n:=by
  unfold OpenLaw.pre at hc;have h4:(WTm.not (.lt (.lit (.int (n:Int))) (.len (.arg 0)))).holds [] {args:=[.list (ns.map .int)]}=vG:=by have h4:=(holds_andW hc).1;rw[hn]at h4;exact h4
  have h5:=condW_of h4 (w_not (w_lt w_lit (w_len_list (w_arg rfl))));rw[qQ]at h5;refine Nat.le_of_not_lt λq=>?_
  have q':(n:Int)<((ns.length:Nat):Int):=by lia
  first
   |(rw[decide_eq_true q']at h5;exact absurd h5 (by decide))
   |(simp at h5;lia)
 cases hwl with
 |cons w1 w2=>
  cases w2;cases w1 with
  |list ho hall=>exact⟨_,_,ns,rfl,rfl,ho,ZLP ns _ hall,hlen⟩
theorem ZPO(l:OpenLaw)(args:List WData):l.row.toRowW.claim.post args (.bool vG) args=vG:=
 postW_of (r:=l.row.toRowW) (X:=(vG==vG))
  (show WShape.has [] (.bool vG) .bool=vG by first|rfl|decide|simp[WShape.has,WShape.arms,WShape.armsAll])
  (show(WTm.eq .res (.lit (.bool vG))).value [] {args:=args,res:=vE (.bool vG),after:=args}=vE (.bool (vG==vG))from w_eq_bool (w_res rfl) w_lit) rfl
theorem ZQW{l:OpenLaw}{n:Nat}{q:xK}{loose:List Str}{XP:(Str->Option xj)->Heap->Prop}{YP:xw->Heap->Prop}{d:DefRec}
  (hn:l.most=vE n) (hdf:d.params.defaults=[])
  (call:∀(w:xw)(s₀ s₁:xq)(mg mb:Str->Option xj)(fa:xZ)(o:Obj)(pm cd doc:xj)(a:xZ)(vs:List xj)(ns:List Int),
   Ground q loose [] XP w s₀ mg mb s₁.heap->YP w s₁.heap->
   s₁.heap.get? fa=vE o->o.data=.func (docDef d.name d.params d.body d.scope pm cd doc)->s₁.heap.CodeRec cd d.name->mg d.name=vE (.ref fa)->
   s₁.heap.get? a=vE {cls:=.type "list",data:=.seq vs.toArray}->IntsAre vs ns->ns.length<=n->s₁.gens= #[]->
   codeAny (vZ l.prog w) callerA (.call (.ref fa) ⟨[.ref a],[]⟩) (λr s'=>r=.ok (.ret (.bool vG))/\OldK s₁.heap s'.heap/\s'.os=s₁.os/\AllBare s'.gens) s₁):
  WalkO q loose XP YP l.row.toRowW d [] (λf vs=>PySem.call f vs):=by
 intro w s₀ s₁ mg mb G Y fa o pm cd doc dV kV ho hd hcd hD hmg hg args vals as hpre hlay hrd hwl hlo;obtain rfl:dV=.none:=Dflts.none hD hdf;obtain rfl:kV=.none:=Dflts.noKw hD;obtain⟨a,vs,ns,rfl,rfl,hobj,hints,hlen⟩:=ZSk hn hpre hwl;refine enter_call (xH (call w s₀ s₁ mg mb fa o pm cd doc a vs ns G Y ho (fd_plain hd) hcd hmg hobj hints hlen hg) λr s' hq=>?_);obtain⟨rfl,h2,h3,h4⟩:=hq
 exact⟨.inl ⟨.bool vG,.bool vG,[],rfl,λ_=>rfl,.bool vG,ZPO l _,λ_=>⟨List.Pairwise.nil,λ_ hm=>(nomatch hm)⟩⟩,h2,h3,h4⟩
section
variable{prog:xK}{w:xw}{A:xJ}{E:xj->xq->Prop}{s:xq}{K:vA}
noncomputable def Zx(h:Heap):Heap:={h with objs:= #[]}
theorem ZDN(h:Heap)(b:xZ):(Zx h).get? b=vF:=by
 cases e:(Zx h).get? b with
 |none=>rfl
 |some o=>exact absurd (zj e) (Nat.not_lt_zero _)
noncomputable def ledger(h:Heap)(L d:xZ):List (xZ×Obj):=(zZ h.objs.size).filterMap λa=>if a=L∨a=d then vF else(h.get? a).map λo=>(a,o)
theorem U8{L d a:xZ}{o:Obj}:(a,o)∈ledger h L d↔a≠L/\a≠d/\h.get? a=vE o:=by
 unfold ledger;rw[List.mem_filterMap];constructor
 ·rintro⟨b,_,e⟩;split at e
  ·cases e
  ·rename_i hb;obtain⟨o',ho,e'⟩:=zI.mp e;cases e';exact⟨λq=>hb (.inl q),λq=>hb (.inr q),ho⟩
 ·rintro⟨n1,n2,ho⟩;refine⟨a,qW.mpr (zj ho),?_⟩
  rw[if_neg (show¬(a=L∨a=d)from λq=>q.elim n1 n2),ho]<;>rfl
theorem ZNj{L:xZ}{m:Str->Option xj}(n:h.Ns L m):Fr (Zx h) L h m:=
 ⟨n,λb o e=>(by rw[ZDN]at e;cases e),j8 _⟩
end
end Att
namespace L2
open PySem PySem.Spec PyProof.Rows
variable{P:xK}{w:xw}{a:xZ}{fd:xV}{x:Str}{X:Cx}{y:V}{u:xj}{H:Hp}{kvs:List (Key×V)}{pos:Pos}
theorem Sy:∀{vs:List xj}{ns:List Int},IntsAre vs ns->Vals (ns.map V.int) vs
 |_,_,.nil=>.nil
 |_,_,.cons n t h=>.cons ⟨t,rfl⟩ (Sy h)
def Only(H:Hp):Prop:=∀b,H b=vF∨∃o xs,H b=vE (.frz o (.lst xs))
theorem ZLJ{K:PySem.W.Frag}{mg mb:Str->Option xj}{CX:CXT}{k:Nat}{fa:xZ}{sp:Sp}{s₁:xq}{vs:List xj}{ns:List Int}
  (KX:K.In s₁.heap) (hns:s₁.heap.Ns vQ mg) (hb:s₁.heap.Ns builtinsNs mb) (hbb:∀x:Str,x≠"__name__"->mb x=xE x) (hlim:s₁.heap.NoLimit) (hg:s₁.gens= #[])
  (ha:s₁.heap.get? a=vE {cls:=.type "list",data:=.seq vs.toArray}) (hi:IntsAre vs ns) (hl:ns.length<=sizeLine) (hr:Room k callerA)
  (F:∀base:Heap,K.In base->base.Ns vQ mg->FnOk P w K mg base CX k fa fd [x] sp) (hbind:∀(s:xq)(u:xj),BindsTo s fd ⟨[u],[]⟩ [(x,u)])
  (hsp:∀H:Hp,Only H->SqL K H a (ns.map V.int)->sp [.ref a] H (λv _=>v=.bl vG) λ_ _ _=>False)
  (hCX:∀H e s',CX [] H s₁ (λ_ _ _=>False) e s'->False):
  codeAny (vZ P w) callerA (.call (.ref fa) ⟨[.ref a],[]⟩) (λr s'=>r=.ok (.ret (.bool vG))/\OldK s₁.heap s'.heap/\s'.os=s₁.os/\AllBare s'.gens) s₁:=by
 have rv:=Sy hi;have lenV:=hi.length;have core:∀H:Hp,Only H->SqL K H a (ns.map V.int)->HOk P w H s₁.heap->(∀b,H b≠vF->b=a)->(H a≠vF->K.lookup a=vF)->
   codeAny (vZ P w) callerA (.call (.ref fa) ⟨[.ref a],[]⟩) (λr s'=>r=.ok (.ret (.bool vG))/\OldK s₁.heap s'.heap/\s'.os=s₁.os/\AllBare s'.gens) s₁:=by
  intro H hO hS hok hA hK;have base_of:∀{b:xZ}{o:Obj},s₁.heap.get? b=vE o->H b=vF->(Lj s₁.heap H).get? b=vE o:=λe n=>ZRP e n
  have noA:∀{b:xZ}{o:Obj}{es:Array DictEntry}{ep:Nat},s₁.heap.get? b=vE o->o.data=.dict es ep->H b=vF:=λ{b o es ep}e d=>by
   cases q:H b with
   |none=>rfl
   |some u=>
    have e':b=a:=hA b (by rw[q];simp);subst e';rw[ha]at e;cases e;have d':Data.seq vs.toArray _=Data.dict es ep:=d;cases d'
  have nsK:∀{b:xZ}{m:Str->Option xj},s₁.heap.Ns b m->(Lj s₁.heap H).Ns b m:=λ{b m}⟨o,es,ep,e,d,r⟩=>⟨o,es,ep,base_of e (noA e d),d,r⟩
  have hKb:K.In (Lj s₁.heap H):=λb o e=>base_of (KX b o e) (by
   cases q:H b with
   |none=>rfl
   |some u=>
    have e':b=a:=hA b (by rw[q];simp);subst e';rw[hK (by rw[q];simp)]at e;cases e)
  have hM:Mod K mg (Lj s₁.heap H):=⟨hKb,nsK hns,⟨mb,nsK hb,hbb⟩,let⟨mc,h1,h2⟩:=hlim;⟨mc,nsK h1,h2⟩⟩
  have e0:Env0 P w K mg (Lj s₁.heap H) callerA [] s₁ H:=⟨rfl,hM,λb o e=>ZK2 e,Nat.le_of_eq (ZS7 _ _),trivial,λb hb=>absurd (show b∈([]:List xZ)from hb) (by simp),hok,.of_eq hg⟩
  refine xH ((F _ hKb (nsK hns)).run callerA [] s₁ H ⟨[.ref a],[]⟩ [.ref a] [.ref a] _ _ hr e0 (hbind s₁ (.ref a)) (.cons rfl .nil) (hsp H hO hS)) λr s' h=>?_
  cases r with
  |error e=>exact(hCX H e s' h).elim
  | ok fl=>
   cases fl with
   |next=>exact False.elim h
   |brk=>exact False.elim h
   |cont=>exact False.elim h
   | ret u=>
    obtain⟨v,H',os,bare,un,hok',r',q⟩:=h;have q':v=.bl vG:=q;subst q';obtain rfl:u=Value.bool vG:=r';refine⟨rfl,OldK.of_keep λb o e=>?_,os,bare⟩;cases q:H b with
    |none=>exact un.keep b o e q (by intro z;exact absurd (show b∈([]:List xZ)from z) (by simp)) (by simp)
    |some u=>
     rcases hO b with z|⟨ob,xs,z⟩
     ·rw[q]at z;cases z
     ·have z2:=un.frzs b ob _ z;obtain⟨e1,_⟩:=hok b _ z;obtain⟨e2,_⟩:=hok' b _ z2;rw[e]at e1;cases e1;exact e2
 cases hk:K.lookup a with
 |some o=>
  have e:=KX a o hk;rw[ha]at e;cases e;refine core (λ_=>vF) (λ_=>.inl rfl) (.inr ⟨_,vs.toArray,_,hk,rfl,rfl,rfl,by rw[zY,lenV];exact hl,by simpa using rv⟩) (λb u z=>by have z':(vF:Option HO)=vE u:=z;cases z') (λb z=>absurd rfl z) λz=>absurd rfl z
 | none=>
  refine core (λb=>if b=a then vE (.frz {cls:=.type "list",data:=.seq vs.toArray} (.lst (ns.map V.int)))else vF) (λb=>?_) (.inl (.inr ⟨{cls:=.type "list",data:=.seq vs.toArray},if_pos rfl⟩)) (λb u z=>?_) (λb z=>?_) λ_=>hk
  ·by_cases hb:b=a
   ·exact .inr ⟨_,_,if_pos hb⟩
   ·exact .inl (if_neg hb)
  ·by_cases hb:b=a
   ·have z':=(if_pos hb).symm.trans z;cases z';subst hb;exact⟨ha,by rw[qQ];exact hl,vs,_,rv,ha⟩
   ·have z':=(if_neg hb).symm.trans z;cases z'
  ·by_cases hb:b=a
   ·exact hb
   ·exact absurd (if_neg hb) z
theorem ZN0{l:PySem.W.OpenLaw}{n k:Nat}{q:xK}{loose:List Str}{XP:(Str->Option xj)->Heap->Prop}{YP:xw->Heap->Prop}{d:DefRec}{K:xw->PySem.W.Frag}{CX:xw->CXT}{sp:xw->Sp} 
  (hn:l.most=vE n) (hn2:n<=sizeLine) (hdf:d.params.defaults=[]) (hr:Room k callerA)
  (hY:∀(w:xw)(h:Heap),YP w h->(K w).In h)
  (F:∀(w:xw)(mg:Str->Option xj)(fa:xZ)(h:Heap),(K w).In h->h.Ns vQ mg->mg d.name=vE (.ref fa)->
   ∃fd:xV,(∀(s:xq)(u:xj),BindsTo s fd ⟨[u],[]⟩ [(x,u)])/\
    ∀base:Heap,(K w).In base->base.Ns vQ mg->FnOk l.prog w (K w) mg base (CX w) k fa fd [x] (sp w))
  (hsp:∀(w:xw)(H:Hp)(a:xZ)(ns:List Int),ns.length<=n->Only H->SqL (K w) H a (ns.map V.int)->sp w [.ref a] H (λv _=>v=.bl vG) λ_ _ _=>False)
  (hCX:∀(w:xw)(H:Hp)(s:xq)(e:xj)(s':xq),CX w [] H s (λ_ _ _=>False) e s'->False):
  PySem.W.WalkO q loose XP YP l.row.toRowW d [] (λf vs=>PySem.call f vs):=by
 refine Att.ZQW hn hdf λw s₀ s₁ mg mb fa o pm cd doc a vs ns G Y ho hd hcd hmg hobj hints hlen hg=>?_
 have KX:=hY w _ Y;obtain⟨fd,hb,hF⟩:=F w mg fa _ KX G.T.g hmg;exact ZLJ KX G.T.g G.T.b G.T.builtins G.T.nolimit hg hobj hints (zB hlen hn2) hr hF hb (λH hO hS=>hsp w H a ns hlen hO hS) λH e s'=>hCX w H s₁ e s'
noncomputable def Jz(s:xz):Arguments:=match s with
 |.FunctionDef _ a _ _ _ _ _ _ _ _=>a
 |_=>{posonlyargs:=[],args:=[],vararg:=vF,kwonlyargs:=[],kw_defaults:=[],kwarg:=vF,defaults:=[]}
noncomputable def J1(s:xz):List xz:=match s with
 |.FunctionDef _ _ b _ _ _ _ _ _ _=>b
 |_=>[]
noncomputable def Ar(s:xz):xY:=match s with
 |.FunctionDef _ _ _ _ _ _ sc _ _ _=>sc
 |_=>{kind:=.function,names:=[],isGenerator:=vH,isCoroutine:=vH}
noncomputable abbrev CX0:CXT:=λ_ _ _ _ _ _=>False
noncomputable abbrev E0:XK:=λ_ _ _=>False
theorem pass0:Passes CX0 X E0:=λ_ _ _ _ _ _ _ h=>h.elim
structure Fun (K:PySem.W.Frag) (x qual:Str) (st:xz) (f:xZ) (fd:xV):Prop where
 ex:∃(oc:xj)(od:Option xZ)(kV doc pm:xj)(an:Option xZ)(cdv ct:xj)(osl:Array (Option xj)),
  fd=PySem.W.fnOf x qual (Jz st) (J1 st) (Ar st) .none kV doc pm an cdv ct/\K.lookup f=vE ⟨oc,od,.func fd,osl⟩/\PySem.W.codeIn K cdv qual=vG
 kp:PySem.W.keepIn K (.ref f)=vG
section
variable{P:xK}{w:xw}{K:PySem.W.Frag}{mg:Str->Option xj}{base:Heap}
theorem Fun.ok{qual:Str}{st:xz}{f:xZ}{N ps:List Str}{k:Nat}{sp:Sp}(F:Fun K x qual st f fd)(S:FnScope N ps (Ar st))(len:∀vs H Q E,sp vs H Q E->vs.length=ps.length)
  (hbody:∀(cdv:xj)(A:xJ)(outer:List Env)(s:xq)(H:Hp)(vs:List V)(Q:VK)(E:XK),Room k (A.deeper (envOfC qual (Ar st) s.heap.objs.size f cdv))->sp vs H Q E->
   ∃t,PSs (Nx CX0 P w K mg base N qual (Ar st) f cdv A outer s H E).nox (J1 st) t/\t {nx:=λ_ H'=>Q .non H',rt:=Q} (start N vs) H):FnOk P w K mg base CX0 (k+1) f fd ps sp:=by
 obtain⟨oc,od,kV,doc,pm,an,cdv,ct,osl,rfl,lk,hcd⟩:=F.ex;refine ZMa lk hcd S len λA outer s H vs Q E hr hsp=>?_
 obtain⟨t,h,q⟩:=hbody cdv A outer s H vs Q E hr hsp;exact⟨t,h.nox,q⟩
theorem Fun.binds{qual:Str}{st:xz}{f:xZ}{ps:List Str}(F:Fun K x qual st f fd)
  (h:∀(kV doc pm:xj)(an:Option xZ)(cdv ct:xj)(us:List xj),us.length=ps.length->bindArgs (PySem.W.fnOf x qual (Jz st) (J1 st) (Ar st) .none kV doc pm an cdv ct) ⟨us,[]⟩=pure (ps.zip us)):Binds K fd ps []:=by
 obtain⟨oc,od,kV,doc,pm,an,cdv,ct,osl,rfl,lk,hcd⟩:=F.ex;exact .all (h kV doc pm an cdv ct)
end
section
variable{X:Cx}
end
section
variable{κ:Type}[DecidableEq κ]
noncomputable def Hq(kvs:List (κ×V))(k:κ):Option V:=(kvs.find? λkv=>decide (kv.1=k)).map (·.2)
noncomputable def putK(kvs:List (κ×V))(k:κ)(v:V):List (κ×V):=
 if(kvs.any λkv=>decide (kv.1=k))=vG then kvs.map (λkv=>if kv.1=k then(kv.1,v)else kv)else kvs++[(k,v)]
theorem ZFq{p:κ×V}{r:List (κ×V)}{k:κ}(e:p.1=k):Hq (p::r) k=vE p.2:=by simp[Hq,qV,e]
theorem ZIn{p:κ×V}{r:List (κ×V)}{k:κ}(e:¬p.1=k):Hq (p::r) k=Hq r k:=by simp[Hq,qV,e]
theorem ZS1(kvs:List (κ×V))(k:κ)(v:V):(putK kvs k v).length<=kvs.length+1:=by
 unfold putK;split
 ·rw[qQ];lia
 ·rw[qZ,zO,qN];lia
theorem KV.val{kvs:List (κ×V)}{vs:List (κ×xj)}(r:KV kvs vs)(k:κ):RelO (Hq kvs k) (valueAt vs k):=by
 unfold KV at r
 induction r with
 |nil=>exact True.intro
 | @cons p q ps qs h t ih=>
  obtain⟨h1,h2⟩:=h;by_cases e:p.1=k
  ·have e':q.1=k:=h1.symm.trans e;have b:valueAt (q::qs) k=vE q.2:=by simp[valueAt,qV,e']
   rw[ZFq e,b];exact h2
  ·have e':¬q.1=k:=λz=>e (h1.trans z)
   have b:valueAt (q::qs) k=valueAt qs k:=by simp[valueAt,qV,e']
   rw[ZIn e,b];exact ih
theorem KV.any{kvs:List (κ×V)}{vs:List (κ×xj)}(r:KV kvs vs)(k:κ):(kvs.any λkv=>decide (kv.1=k))=vs.any λkv=>decide (kv.1=k):=by
 unfold KV at r
 induction r with
 |nil=>rfl
 |cons h t ih=>rw[j5,j5,ih,h.1]
theorem KV.repl{kvs:List (κ×V)}{vs:List (κ×xj)}(r:KV kvs vs)(k:κ)(ry:RelV y u):
  KV (kvs.map λkv=>if kv.1=k then(kv.1,y)else kv) (vs.map λkv=>if kv.1=k then(kv.1,u)else kv):=by
 unfold KV at r⊢
 induction r with
 |nil=>exact .nil
 |@cons p q ps qs h t ih=>
  rw[zk,zk];refine .cons ?_ ih;obtain⟨h1,h2⟩:=h;by_cases e:p.1=k
  ·rw[if_pos e,if_pos (h1.symm.trans e)];exact⟨h1,ry⟩
  ·rw[if_neg e,if_neg (λz=>e (h1.trans z))];exact⟨h1,h2⟩
theorem KV.put{kvs:List (κ×V)}{vs:List (κ×xj)}(r:KV kvs vs)(k:κ)(ry:RelV y u):KV (putK kvs k y) (stored vs k u):=by
 unfold putK stored;rw[r.any k];by_cases e:(vs.any λkv=>decide (kv.1=k))=vG
 ·rw[if_pos e,if_pos e];exact r.repl k ry
 ·rw[if_neg e,if_neg e];exact Paired.snoc r ⟨rfl,ry⟩
end
theorem ZBp{k:Key}(r:RelV (kV k) u):(Ig P w).is k u=vG:=by
 cases k with
 |inl i=>obtain⟨t,e⟩:=(show∃t,u=Value.int i t from r);subst e;exact ZOY P w i t
 |inr x=>obtain⟨t,e⟩:=(show∃t,u=Value.str x t from r);subst e;exact ZRY P w x t
theorem ZEu:∀{ks:List Key}{us:List xj},Vals (ks.map kV) us->ItemsAre (Ig P w) ks us
 |[],_,r=>by rw[jC]at r;cases r;exact .nil
 |k::ks,_,r=>by
  rw[zk]at r;cases r with
  |cons h t=>exact .cons (ZBp h) (ZEu t)
abbrev KT(H:Hp):List (List Key×V)->List (List Key×xZ×xj)->Prop:=Paired λp q=>p.1=q.1/\H q.2.1=vE (.tup (p.1.map kV))/\RelV p.2 q.2.2
theorem KT.val{kvs:List (List Key×V)}{xs:List (List Key×xZ×xj)}(r:KT H kvs xs)(k:List Key):RelO (Hq kvs k) ((atKey xs k).map (·.2)):=by
 induction r with
 |nil=>exact True.intro
 | @cons p q ps qs h t ih=>
  obtain⟨h1,_,h2⟩:=h;by_cases e:p.1=k
  ·have e':q.1=k:=h1.symm.trans e;have b:atKey (q::qs) k=vE q.2:=by simp[atKey,qV,e']
   rw[ZFq e,b];exact h2
  ·have e':¬q.1=k:=λz=>e (h1.trans z)
   have b:atKey (q::qs) k=atKey qs k:=by simp[atKey,qV,e']
   rw[ZIn e,b];exact ih
section
variable{P:xK}{w:xw}{H:Hp}{h:Heap}{a:xZ}
theorem ZGG{u:HO}(ok:HOk P w H h)(e:Rd H a u):ObjOk P w H h a u:=e.ok ok
theorem ZBz(ok:HOk P w H h)(e:Rd H a (.dK kvs)):kvs.length<=sizeLine/\(a==sysModules)=vH/\∃vs,KV kvs vs/\h.DictOf (Ig P w) a vs:=
 show ObjOk P w H h a (.dK kvs)from ZGG ok e
theorem ZRh(ok:HOk P w H h)(e:H a=vE (.dK kvs)):kvs.length<=sizeLine/\(a==sysModules)=vH/\∃vs,KV kvs vs/\h.DictOf (Ig P w) a vs:=ZBz ok (.inl e)
theorem ZKK{ks:List Key}(ok:HOk P w H h)(e:H a=vE (.tup (ks.map kV))):(tupleKind (Ig P w)).is h ks a:=by
 obtain⟨_,its,r,o,h1,h2,n,h3⟩:=(show ObjOk P w H h a (.tup (ks.map kV))from ok a _ e)
 exact⟨o,its.toArray,n,h1,h2,h3,by simpa using ZEu r⟩
theorem ZFp{kvs:List (List Key×V)}(ok:HOk P w H h)(e:Rd H a (.dT kvs)):kvs.length<=sizeLine/\(a==sysModules)=vH/\
  ∃xs,KT H kvs xs/\h.DictOfH (tupleKind (Ig P w)) a xs:=by
 obtain⟨z,y,xs,r,o,es,ep,h1,h2,h3,h4,h5⟩:=(show ObjOk P w H h a (.dT kvs)from ZGG ok e)
 refine⟨z,y,xs,r,o,es,ep,h1,h2,h3,h4,λx hx=>?_,h5⟩;have all:∀{l:List (List Key×V)}{m:List (List Key×xZ×xj)},KT H l m->∀x∈m,(tupleKind (Ig P w)).is h x.1 x.2.1:=by
  intro l m q
  induction q with
  |nil=>intro x hx;exact nomatch hx
  |@cons p q ps qs hq t ih=>
   intro x hx;rcases zw.mp hx with e|hx
   ·subst e;exact ZKK ok (by rw[<-hq.1];exact hq.2.1)
   ·exact ih x hx
 exact all r x hx
end
def DGet(H:Hp)(a:xZ)(y:V)(r:Option V):Prop:=
 (∃kvs k,Rd H a (.dK kvs)/\y=kV k/\r=Hq kvs k)∨∃kvs k b,Rd H a (.dT kvs)/\y=.ref b/\H b=vE (.tup (k.map kV))/\r=Hq kvs k
theorem DGet.k{k:Key}(e:H a=vE (.dK kvs)):DGet H a (kV k) (Hq kvs k):=.inl ⟨kvs,k,.inl e,rfl,rfl⟩
section
variable{X:Cx}{vD:List (xZ×Obj)}{σ:St}{H:Hp}{s:xq}{a:xZ}{y v:V}{u r:xj}{o:Option V}{A:xJ}{E:xj->xq->Prop}
theorem Inv.big(I:Inv X vD σ H s):sysModules<s.heap.objs.size:=by have h:vQ<s.heap.objs.size:=(I.mod.glob.keeps I.bk).lt;exact Nat.lt_trans (by decide) h
theorem ZOy{Q:xj->xq->Prop}(hu:A.units+1<cLine)(I:Inv X vD σ H s)(g:DGet H a y (vE v))(ry:RelV y u)(h:∀w' s',Inv X vD σ H s'->RelV v w'->Q w' s'):
  vY (vZ X.prog X.w) A (getItem (.ref a) u) Q E s:=by
 rcases g with⟨kvs,k,e,ey,l⟩|⟨kvs,k,b,e,ey,eb,l⟩
 ·subst ey;obtain⟨z,hd,vs,rel,dd⟩:=ZBz I.hok e;obtain⟨w',hw,rw'⟩:=RelO.some_of (v:=v) (o:=valueAt vs k) (by rw[l];exact rel.val k);exact wpAny_getItem_of (ZBp ry) dd.mapOf hw (h w' _ (I.tok _) rw')
 ·subst ey
  cases(show u=Value.ref b from ry)
  obtain⟨z,hd,xs,rel,dd⟩:=ZFp I.hok e
  obtain⟨w',hw,rw'⟩:=RelO.some_of (v:=v) (o:=(atKey xs k).map (·.2)) (by rw[l];exact rel.val k)
  obtain⟨p,hp,hp2⟩:=zI.mp hw;refine wpAny_getItem_heap (tupleKind_room_in1 hu) (ZKK I.hok eb) dd hp ?_;rw[hp2];exact h w' _ (I.tok _) rw'
theorem ZLL{h':Heap}{t':Nat}{ob:HO}(I:Inv X vD σ H s)(mu:Mut (H a))(hs:qj a s.heap h')(he:∃q,h'.get? a=vE q)(new:ObjOk X.prog X.w (upd H a ob) h' a ob):
  Inv X vD σ (upd H a ob) {s with heap:=h',toks:=t'}:=
 I.write (x:=a) (e:=a) mu (.inl rfl) (λb q hb z=>(hs.2 b hb).trans z) he new
theorem ZMZ{H':Hp}{h':Heap}{vs:List (Key×xj)}(z:kvs.length<=sizeLine)(hd:(a==sysModules)=vH)(rel:KV kvs vs)(dd:h'.DictOf (Ig P w) a vs):
  ObjOk P w H' h' a (.dK kvs):=⟨z,hd,vs,rel,dd⟩
end
section
variable{X:Cx}{vD:List (xZ×Obj)}{σ:St}{H:Hp}{s:xq}{a:xZ}{kvs:List (Key×V)}{k:Key}{u:xj}{A:xJ}{E:xj->xq->Prop}
end
theorem ZMh{vD:List (xZ×Obj)}{σ:St}{s:xq}{o:Option V}(I:Inv X vD σ H s)(g:DGet H a y o):s.TypeIs (.ref a) "dict":=by
 rcases g with⟨kvs,k,e,_,_⟩|⟨kvs,k,b,e,_,_,_⟩
 ·obtain⟨_,_,vs,_,dd⟩:=ZBz I.hok e;exact dd.typeIs
 ·obtain⟨_,_,xs,_,dd⟩:=ZFp I.hok e;exact dd.typeIs
section
variable{X:Cx}{o i e value:xX}{pos pos' tpos:Pos}{td ty tv:TE}
end
theorem ZSQ(h:Heap)(hb:sysModules<h.objs.size):ObjOk P w H (h.push {cls:=.type "dict",data:=.dict #[]}) h.objs.size (.dK []):=
 ⟨j8 _,beq_eq_false_iff_ne.mpr (Ne.symm (zE hb)),[],.nil,Heap.DictOf.new h⟩
section
variable{X:Cx}{pos:Pos}
end
def Yj:List (TE×TE)->St->Hp->(List (V×V)->Hp->Prop)->Prop
 |[],_,H,Q=>Q [] H
 |(tk,tv)::r,σ,H,Q=>tk σ H λx H1=>tv σ H1 λy H2=>Yj r σ H2 λps H3=>Q ((x,y)::ps) H3
abbrev VV:List (V×V)->List (xj×xj)->Prop:=Paired λp q=>RelV p.1 q.1/\RelV p.2 q.2
def PPs(X:Cx)(pos:Pos)(keys:List (Option xX))(values:List xX)(trs:List (TE×TE)):Prop:=
 ∀(vD:List (xZ×Obj))(s:xq)(σ:St)(H:Hp)(Q:List (V×V)->Hp->Prop),Inv X vD σ H s->Yj trs σ H Q->
  vY (vZ X.prog X.w) X.A (evalPairs (pairTrees keys values X.env pos)) (λvs s'=>∃ps H',Inv X vD σ H' s'/\VV ps vs/\Q ps H') X.xe s
theorem ZL1:PPs X pos [] [] []:=λvD s σ H Q I h=>pairTrees_nil_walk ⟨[],H,I,.nil,h⟩
theorem ZR0{k v:xX}{ks:List (Option xX)}{vs:List xX}{tk tv:TE}{trs:List (TE×TE)}(hk:PE X k tk)(hv:PE X v tv)(hr:PPs X pos ks vs trs):
  PPs X pos (vE k::ks) (v::vs) ((tk,tv)::trs):=λvD s σ H Q I h=>
 pairTrees_cons_walk (thn (hk vD s σ H _ I h) λu s1 ⟨x,H1,I1,rx,q1⟩=>thn (hv vD s1 σ H1 _ I1 q1) λw2 s2 ⟨y,H2,I2,ry,q2⟩=>
  thn (hr vD s2 σ H2 _ I2 q2) λws s3 ⟨ps,H3,I3,rel,q3⟩=>⟨(x,y)::ps,H3,I3,.cons ⟨rx,ry⟩ rel,q3⟩)
def Oh(kvs more:List (Key×V)):List (Key×V):=more.foldl (λacc kv=>putK acc kv.1 kv.2) kvs
theorem KV.merge:∀{more:List (Key×V)}{rs:List (Key×xj)}{kvs:List (Key×V)}{vs:List (Key×xj)},KV more rs->KV kvs vs->KV (Oh kvs more) (merged vs rs):=by
 intro more rs kvs vs r;unfold KV at r
 induction r generalizing kvs vs with
 |nil=>intro q;exact q
 |@cons p q ps qs h t ih=>
  intro r0;have e:KV (putK kvs p.1 p.2) (stored vs q.1 q.2):=by have:=r0.put p.1 h.2;rw[<-h.1];exact this
  exact ih e
theorem ZH6:∀(more kvs:List (Key×V)),(Oh kvs more).length<=kvs.length+more.length
 |[],kvs=>by show kvs.length<=kvs.length+0;lia
 |p::r,kvs=>by have h1:=ZH6 r (putK kvs p.1 p.2);have h2:=ZS1 kvs p.1 p.2;show(Oh (putK kvs p.1 p.2) r).length<=_;rw[zO];lia
theorem ZFJ{P:xK}{w:xw}:∀{kvs:List (Key×V)}{ws:List (xj×xj)},VV (kvs.map λkv=>(kV kv.1,kv.2)) ws->∃rs,Carries (Ig P w) ws rs/\KV kvs rs
 |[],_,r=>by rw[jC]at r;cases r;exact⟨[],True.intro,.nil⟩
 | p::kvs,_,r=>by
  rw[zk]at r;cases r with
  |@cons a b as bs h t=>
   obtain⟨rs,c,q⟩:=ZFJ (P:=P) (w:=w) t;obtain⟨b1,b2⟩:=b;exact⟨(p.1,b2)::rs,⟨ZBp h.1,rfl,c⟩,.cons ⟨rfl,h.2⟩ q⟩
def ZL2(trs:List (TE×TE)):TE:=λσ H Q=>∀p,H p=vF->Yj trs σ (upd H p (.dK [])) λps H2=>H2 p=vE (.dK [])/\∃kvs:List (Key×V),ps=kvs.map (λkv=>(kV kv.1,kv.2))/\kvs.length<=15/\Q (.ref p) (upd H2 p (.dK (Oh [] kvs)))
theorem ZNU{keys:List (Option xX)}{values:List xX}{trs:List (TE×TE)}(h:PPs X pos keys values trs)(hall:keys.all (·.isSome)=vG)(hl:keys.length=values.length)(h0:keys≠[])
  (h15:keys.length<=15):PE X (.Dict keys values pos) (ZL2 trs):=by
 intro vD s σ H Q I q;have hn:=I.hok.fresh (zK s.heap.objs.size);have I1:=I.laid (a:=s.heap.objs.size) (o:=.dK []) (h':=s.heap.push {cls:=.type "dict",data:=.dict #[]}) (t':=s.toks) (λ_ _ q=>zQ _ q) (zK _) (ZSQ s.heap I.big);refine wpAny_Dict_walk (knd:=Ig X.prog X.w) hall hl h0 h15 (thn (h vD _ σ _ _ I1 (q _ hn)) λws s2 ⟨ps,H2,I2,rel,e,kvs,ep,lk,q2⟩=>?_)
 subst ep;obtain⟨rs,c,rk⟩:=ZFJ (P:=X.prog) (w:=X.w) rel;obtain⟨z,hd,vs0,r0,dd⟩:=ZRh I2.hok e;cases r0;refine⟨rs,c,dd,λh' dd' hs=>⟨.ref s.heap.objs.size,_,?_,rfl,q2⟩⟩;have hz:(Oh [] kvs).length<=sizeLine:=by have h1:=ZH6 kvs [];rw[qN]at h1;rw[vX];lia
 have he:∃q,h'.get? s.heap.objs.size=vE q:=let⟨q,_,_,hq,_⟩:=dd';⟨q,hq⟩;exact ZLL I2 (by rw[e];exact True.intro) hs he (ZMZ hz hd (rk.merge .nil) dd')
section
variable{X:Cx}{vD:List (xZ×Obj)}{σ:St}{H:Hp}{s:xq}{a:xZ}{y d:V}{u r:xj}{o:Option V}{A:xJ}{E:xj->xq->Prop}
end
section
variable{X:Cx}{o e f:xX}{apos cpos:Pos}{td ty tx:TE}
end
section
variable{X:Cx}{vD:List (xZ×Obj)}{σ:St}{H:Hp}{s:xq}{a:xZ}{kvs:List (Key×V)}{A:xJ}{E:xj->xq->Prop}
end
section
variable{X:Cx}{vD:List (xZ×Obj)}{σ:St}{H:Hp}{s:xq}{a:xZ}{y:V}{u:xj}{A:xJ}{E:xj->xq->Prop}
end
section
variable{X:Cx}
end
end L2
namespace L2
section
variable{κ:Type}[DecidableEq κ]
end
end L2
namespace DL
open PySem PySem.Spec L2
open PyProof.Rows hiding St
variable{α β:Type}{K:PySem.W.Frag}{H:Hp}{p:xZ}{v y:V}{vs:List V}{σ:St}{E:XK}{Q:VK}{W:Ends}{e tg:xX}{ho:HO}{i j nt:Nat}{x:Str}{A:xJ}{s:xq}{P:xK}{w:xw}{scope:xY}{env:Env}{X:Cx}
inductive D where
 |non|bl (b:Bool)|int (i:Int)|str (x:Str)|ty (n:String)
 |tup (xs:List D)
 |fl (xs:List D)
 |ref (i:Nat)
variable{d:D}{ds xs:List D}{kvs:List (Key×D)}
inductive DO where
 |lst (xs:List D)
 |dct (kvs:List (Key×D))
 |ins (c:Str) (fs:List (Str×D))
 |tab (c m:Str)
 |gone
variable{o:DO}
abbrev DH:=List DO
variable{G G' L:DH}
noncomputable abbrev DSt:=List (Option D)
variable{S:DSt}
structure Xn where
 cls:Str
 fs:List (Str×D)
inductive R (α:Type) where
 |ok (a:α) (G:DH)
 |err (x:Xn) (G:DH)
 |bad
variable{r:R D}{f:D->D->DH->R D}
noncomputable def R.bind{α β:Type}(r:R α)(f:α->DH->R β):R β:=match r with
 |.ok a G=>f a G
 |.err x G=>.err x G
 |.bad=>.bad
@[simp]theorem R.Jo(a:α)(G:DH)(f:α->DH->R β):(R.ok a G).bind f=f a G:=id rfl
@[simp]theorem R.ZUa(f:α->DH->R β):(R.bad:R α).bind f=.bad:=id rfl
inductive SR where
 |nx (S:DSt) (G:DH)
 |rt (d:D) (G:DH)
 |bk (S:DSt) (G:DH)
 |ct (S:DSt) (G:DH)
 |err (x:Xn) (G:DH)
 |bad
noncomputable abbrev DE:=DSt->DH->R D
variable{t te:DE}
noncomputable abbrev DB:=DSt->DH->R Bool
noncomputable abbrev DA:=DSt->DH->R (List D)
noncomputable abbrev DS:=DSt->DH->SR
variable{u:DS}
def FzL(K:PySem.W.Frag)(H:Hp)(a:xZ)(xs:List V):Prop:=
 (∃o,H a=vE (.frz o (.lst xs)))∨
  ∃(o:Obj)(its:Array xj)(n:Nat),K.lookup a=vE o/\o.cls=.type "list"/\o.dict=vF/\o.data=.seq its n/\its.size<=sizeLine/\Vals xs its.toList
theorem FzL.sq{a:xZ}{xs:List V}(h:FzL K H a xs):SqL K H a xs:=by
 rcases h with⟨o,h⟩|h
 ·exact .inl (.inr ⟨o,h⟩)
 ·exact .inr h
structure Wd where
 K:PySem.W.Frag
 n:Nat
 m:Nat->xZ
 H:Hp
variable{a b c:Wd}
mutual
def Rep(a:Wd):D->V->Prop
 |.non,v=>v=.non
 |.bl b,v=>v=.bl b
 |.int i,v=>v=.int i
 |.str x,v=>v=.str x
 |.ty n,v=>v=.ty n
 |.tup ds,v=>∃p vs,v=.ref p/\SqT a.K a.H p vs/\Reps a ds vs
 |.fl ds,v=>∃p vs,v=.ref p/\FzL a.K a.H p vs/\Reps a ds vs
 |.ref i,v=>i<a.n/\v=.ref (a.m i)
def Reps(a:Wd):List D->List V->Prop
 |[],vs=>vs=[]
 |d::ds,vs=>∃v r,vs=v::r/\Rep a d v/\Reps a ds r
end
noncomputable def lamQ:Str:="Sending.send_by.<locals>.<lambda>"
def TabOk(H:Hp)(P:xZ):Prop:=
 ∃ps:Array xj,H P=vE (.tbl ps)/\TriplesOk ps.toList/\∀pos cv,codeAmong pos ps.toList=vE cv->∃(c:xZ)(oc:Obj)(vs:Array xj)(t:Tok),cv=.ref c/\H c=vE (.frz oc (.own 0))/\oc.data=.fields vs/\vs[1]?=vE (.str lamQ t)
theorem TabOk.mono{H':Hp}{P:xZ}(h:TabOk H P)(ht:∀p ps,H p=vE (.tbl ps)->H' p=vE (.tbl ps))(hf:∀p o u,H p=vE (.frz o u)->H' p=vE (.frz o u)):TabOk H' P:=by obtain⟨ps,e,t,k⟩:=h;refine⟨ps,ht _ _ e,t,λpos cv hc=>?_⟩;obtain⟨c,oc,vs,tk,e1,e2,e3,e4⟩:=k pos cv hc;exact⟨c,oc,vs,tk,e1,hf _ _ _ e2,e3,e4⟩
def TabAt(K:PySem.W.Frag)(C m:Str)(c P:xZ):Prop:=
 ∃(Ca f:xZ)(oc:xj)(od:Option xZ)(fd:xV)(sl:Array (Option xj)),PySem.W.nsIn K vQ C=vE (vE (.ref Ca))/\PySem.W.findIn K (.ref Ca) m=vE (vE (.ref f))/\K.lookup f=vE ⟨oc,od,.func fd,sl⟩/\fd.code=.ref c/\PySem.W.codeHdIn K c P=vG
structure Ext (a b:Wd):Prop where
 k:b.K=a.K
 n:a.n<=b.n
 m:∀i,i<a.n->b.m i=a.m i
 tup:∀p xs,a.H p=vE (.tup xs)->b.H p=vE (.tup xs)
 frz:∀p o u,a.H p=vE (.frz o u)->b.H p=vE (.frz o u)
 tab:∀p,TabOk a.H p->TabOk b.H p
theorem Ext.refl(a:Wd):Ext a a:=⟨rfl,zK _,λ_ _=>rfl,λ_ _ h=>h,λ_ _ _ h=>h,λ_ h=>h⟩
theorem Ext.trans(x:Ext a b)(y:Ext b c):Ext a c:=
 ⟨y.k.trans x.k,zB x.n y.n,λi h=>(y.m i (zq h x.n)).trans (x.m i h),λp xs h=>y.tup p xs (x.tup p xs h),λp o u h=>y.frz p o u (x.frz p o u h),λp h=>y.tab p (x.tab p h)⟩
theorem Ext.sqT(x:Ext a b){xs:List V}(h:SqT a.K a.H p xs):SqT b.K b.H p xs:=by
 rcases h with(h|⟨o,h⟩)|h
 ·exact .inl (.inl (x.tup _ _ h))
 ·exact .inl (.inr ⟨o,x.frz _ _ _ h⟩)
 ·exact .inr (by rw[x.k];exact h)
theorem Ext.fzL(x:Ext a b){xs:List V}(h:FzL a.K a.H p xs):FzL b.K b.H p xs:=by
 rcases h with⟨o,h⟩|h
 ·exact .inl ⟨o,x.frz _ _ _ h⟩
 ·exact .inr (by rw[x.k];exact h)
mutual
theorem Rep.mono(x:Ext a b):∀{d:D}{v:V},Rep a d v->Rep b d v
 |.non,_,h=>h
 |.bl _,_,h=>h
 |.int _,_,h=>h
 |.str _,_,h=>h
 |.ty _,_,h=>h
 |.tup ds,v,h=>by obtain⟨p,vs,e,q,r⟩:=h;exact⟨p,vs,e,x.sqT q,Reps.mono x r⟩
 |.fl ds,v,h=>by obtain⟨p,vs,e,q,r⟩:=h;exact⟨p,vs,e,x.fzL q,Reps.mono x r⟩
 |.ref i,v,h=>by obtain⟨l,e⟩:=h;exact⟨zq l x.n,by rw[x.m i l];exact e⟩
theorem Reps.mono(x:Ext a b):∀{ds:List D}{vs:List V},Reps a ds vs->Reps b ds vs
 |[],_,h=>h
 |d::ds,vs,h=>by obtain⟨v,r,e,h1,h2⟩:=h;exact⟨v,r,e,Rep.mono x h1,Reps.mono x h2⟩
end
theorem Reps.length:∀{ds:List D}{vs:List V},Reps a ds vs->ds.length=vs.length
 |[],vs,h=>by cases(show vs=[]from h);rfl
 |d::ds,vs,h=>by obtain⟨v,r,e,h1,h2⟩:=h;subst e;show ds.length+1=r.length+1;rw[Reps.length h2]
theorem Reps.get:∀{ds:List D}{vs:List V}{i:Nat}{d:D},Reps a ds vs->ds[i]?=vE d->∃v,vs[i]?=vE v/\Rep a d v
 |[],vs,_,_,h,e=>by simp at e
 |d::ds,vs,0,d',h,e=>by obtain⟨v,r,e1,h1,h2⟩:=h;subst e1;simp at e;subst e;exact⟨v,rfl,h1⟩
 |d::ds,vs,i+1,d',h,e=>by obtain⟨v,r,e1,h1,h2⟩:=h;subst e1;obtain⟨w,e2,h3⟩:=Reps.get (i:=i) (d:=d') h2 (by simpa using e);exact⟨w,by simpa using e2,h3⟩
theorem Reps.get':∀{ds:List D}{vs:List V}{i:Nat}{v:V},Reps a ds vs->vs[i]?=vE v->∃d,ds[i]?=vE d/\Rep a d v
 |[],vs,_,_,h,e=>by cases(show vs=[]from h);simp at e
 |d::ds,vs,0,v',h,e=>by obtain⟨v,r,e1,h1,h2⟩:=h;subst e1;simp at e;subst e;exact⟨d,rfl,h1⟩
 |d::ds,vs,i+1,v',h,e=>by obtain⟨v,r,e1,h1,h2⟩:=h;subst e1;obtain⟨w,e2,h3⟩:=Reps.get' (i:=i) (v:=v') h2 (by simpa using e);exact⟨w,by simpa using e2,h3⟩
theorem Reps.append:∀{ds es:List D}{vs us:List V},Reps a ds vs->Reps a es us->Reps a (ds++es) (vs++us)
 |[],_,vs,_,h,h'=>by cases(show vs=[]from h);exact h'
 |d::ds,es,vs,us,h,h'=>by obtain⟨v,r,e1,h1,h2⟩:=h;subst e1;exact⟨v,r++us,rfl,h1,Reps.append h2 h'⟩
theorem Reps.cons(h:Rep a d v)(r:Reps a ds vs):Reps a (d::ds) (v::vs):=⟨v,vs,rfl,h,r⟩
theorem Reps.nil:Reps a [] []:=rfl
theorem Reps.set(h:Rep a d v):∀{ds:List D}{vs:List V}(i:Nat),Reps a ds vs->Reps a (ds.set i d) (vs.set i v)
 |[],vs,_,r=>by cases(show vs=[]from r);exact rfl
 |d'::ds,vs,0,r=>by obtain⟨v',r',e1,h1,h2⟩:=r;subst e1;exact⟨v,r',rfl,h,h2⟩
 |d'::ds,vs,i+1,r=>by obtain⟨v',r',e1,h1,h2⟩:=r;subst e1;exact⟨v',r'.set i v,rfl,h1,Reps.set h i h2⟩
theorem Reps.take:∀{ds:List D}{vs:List V}(i:Nat),Reps a ds vs->Reps a (ds.take i) (vs.take i)
 |_,_,0,_=>rfl
 |[],vs,_+1,r=>by cases(show vs=[]from r);exact rfl
 |d'::ds,vs,i+1,r=>by obtain⟨v',r',e1,h1,h2⟩:=r;subst e1;exact⟨v',r'.take i,rfl,h1,Reps.take i h2⟩
theorem Reps.drop:∀{ds:List D}{vs:List V}(i:Nat),Reps a ds vs->Reps a (ds.drop i) (vs.drop i)
 |_,_,0,r=>r
 |[],vs,_+1,r=>by cases(show vs=[]from r);exact rfl
 |d'::ds,vs,i+1,r=>by obtain⟨v',r',e1,h1,h2⟩:=r;subst e1;exact Reps.drop i h2
theorem Reps.ints:∀(ns:List Int),Reps a (ns.map D.int) (ns.map V.int)
 |[]=>rfl
 |n::ns=>⟨.int n,ns.map V.int,rfl,rfl,Reps.ints ns⟩
def RepKV(a:Wd)(kvs:List (Key×D))(us:List (Key×V)):Prop:=kvs.map (·.1)=us.map (·.1)/\Reps a (kvs.map (·.2)) (us.map (·.2))
def RepF(a:Wd)(fs:List (Str×D))(us:List (Str×V)):Prop:=fs.map (·.1)=us.map (·.1)/\Reps a (fs.map (·.2)) (us.map (·.2))
def ORep(a:Wd):DO->Option HO->Prop
 |.lst ds,o=>∃vs,o=vE (.lst vs)/\Reps a ds vs
 |.dct kvs,o=>∃us,o=vE (.dK us)/\RepKV a kvs us
 |.ins c fs,o=>∃C dx us,PySem.W.nsIn a.K vQ c=vE (vE (.ref C))/\o=vE (.ins C dx us)/\RepF a fs us
 |.tab C m,_=>∃c P,TabAt a.K C m c P/\TabOk a.H P
 |.gone,_=>True
structure Sim (a:Wd) (G:DH):Prop where
 len:G.length=a.n
 inj:∀i j,i<a.n->j<a.n->a.m i=a.m j->i=j
 obj:∀(i:Nat)(o:DO),G[i]?=vE o->ORep a o (a.H (a.m i))
 tr:∀i,i<a.n->a.H (a.m i)≠vF
structure RepS (a:Wd) (S:DSt) (σ:St):Prop where
 len:S.length=σ.length
 get:∀(i:Nat)(d:D),S[i]?=vE (vE d)->∃v,σ[i]?=vE (vE v)/\Rep a d v
theorem RepS.mono(x:Ext a b)(r:RepS a S σ):RepS b S σ:=⟨r.len,λi d h=>let⟨v,e,q⟩:=r.get i d h;⟨v,e,q.mono x⟩⟩
theorem RepS.set(r:RepS a S σ)(i:Nat)(h:Rep a d v):RepS a (S.set i (vE d)) (σ.set i (vE v)):=by
 refine⟨by simpa using r.len,λj e he=>?_⟩;rw[qO]at he⊢;by_cases hij:i=j
 ·subst hij;rw[if_pos rfl]at he⊢;by_cases hl:i<S.length
  ·rw[if_pos hl]at he;have e1:d=e:=by simpa using he
   subst e1;rw[if_pos (by rw[<-r.len];exact hl)];exact⟨v,rfl,h⟩
  ·rw[if_neg hl]at he;cases he
 ·rw[if_neg hij]at he⊢;exact r.get j e he
def XOk(E:XK)(a:Wd)(x:Xn)(G:DH):Prop:=False
def out(E:XK)(a:Wd)(r:R D)(Q:VK):Prop:=match r with
 |.ok d G=>∀(b:Wd)(v:V),Ext a b->Sim b G->Rep b d v->Q v b.H
 |.err x G=>XOk E a x G
 |.bad=>False
def Hc(E:XK)(a:Wd)(r:R Bool)(Q:Bool->Hp->Prop):Prop:=match r with
 |.ok k G=>∀(b:Wd),Ext a b->Sim b G->Q k b.H
 |.err x G=>XOk E a x G
 |.bad=>False
def Hb(E:XK)(a:Wd)(r:R (List D))(Q:List V->Hp->Prop):Prop:=match r with
 |.ok ds G=>∀(b:Wd)(vs:List V),Ext a b->Sim b G->Reps b ds vs->Q vs b.H
 |.err x G=>XOk E a x G
 |.bad=>False
def Dh(E:XK)(a:Wd)(r:SR)(W:Ends):Prop:=match r with
 |.nx S G=>∀(b:Wd)(σ:St),Ext a b->Sim b G->RepS b S σ->W.nx σ b.H
 |.bk S G=>∀(b:Wd)(σ:St),Ext a b->Sim b G->RepS b S σ->W.bk σ b.H
 |.ct S G=>∀(b:Wd)(σ:St),Ext a b->Sim b G->RepS b S σ->W.ct σ b.H
 |.rt d G=>∀(b:Wd)(v:V),Ext a b->Sim b G->Rep b d v->W.rt v b.H
 |.err x G=>XOk E a x G
 |.bad=>False
theorem XOk.mono(x:Ext a b){e:Xn}(h:XOk E a e G):XOk E b e G:=h
theorem out.mono(x:Ext a b)(h:out E a r Q):out E b r Q:=by
 cases r with
 |ok d G=>exact λc v y s q=>h c v (x.trans y) s q
 |err e G=>exact XOk.mono (E:=E) (e:=e) (G:=G) x h
 |bad=>exact h
theorem Hc.mono(x:Ext a b){r:R Bool}{Q:Bool->Hp->Prop}(h:Hc E a r Q):Hc E b r Q:=by
 cases r with
 |ok d G=>exact λc y s=>h c (x.trans y) s
 |err e G=>exact XOk.mono (E:=E) (e:=e) (G:=G) x h
 |bad=>exact h
theorem Hb.mono(x:Ext a b){r:R (List D)}{Q:List V->Hp->Prop}(h:Hb E a r Q):Hb E b r Q:=by
 cases r with
 |ok d G=>exact λc vs y s q=>h c vs (x.trans y) s q
 |err e G=>exact XOk.mono (E:=E) (e:=e) (G:=G) x h
 |bad=>exact h
theorem Dh.mono(x:Ext a b){r:SR}(h:Dh E a r W):Dh E b r W:=by
 cases r with
 |nx d G=>exact λc vs y s q=>h c vs (x.trans y) s q
 |bk d G=>exact λc vs y s q=>h c vs (x.trans y) s q
 |ct d G=>exact λc vs y s q=>h c vs (x.trans y) s q
 |rt d G=>exact λc vs y s q=>h c vs (x.trans y) s q
 |err e G=>exact XOk.mono (E:=E) (e:=e) (G:=G) x h
 |bad=>exact h
def lE(K:PySem.W.Frag)(E:XK)(t:DE):TE:=λσ H Q=>∃(a:Wd)(S:DSt)(G:DH),a.K=K/\a.H=H/\Sim a G/\RepS a S σ/\out E a (t S G) Q
def lB(K:PySem.W.Frag)(E:XK)(t:DB):TT:=λσ H Q=>∃(a:Wd)(S:DSt)(G:DH),a.K=K/\a.H=H/\Sim a G/\RepS a S σ/\Hc E a (t S G) Q
def lA(K:PySem.W.Frag)(E:XK)(t:DA):TA:=λσ H Q=>∃(a:Wd)(S:DSt)(G:DH),a.K=K/\a.H=H/\Sim a G/\RepS a S σ/\Hb E a (t S G) Q
def lS(K:PySem.W.Frag)(E:XK)(t:DS):TS:=λW σ H=>∃(a:Wd)(S:DSt)(G:DH),a.K=K/\a.H=H/\Sim a G/\RepS a S σ/\Dh E a (t S G) W
noncomputable def lR2(K:PySem.W.Frag)(E:XK)(f:D->D->DH->R D):R2:=λx y H Q=>∃(a:Wd)(G:DH)(d e:D),a.K=K/\a.H=H/\Sim a G/\Rep a d x/\Rep a e y/\out E a (f d e G) Q
def lR1(K:PySem.W.Frag)(E:XK)(f:D->DH->R D):V->Hp->VK->Prop:=λx H Q=>∃(a:Wd)(G:DH)(d:D),a.K=K/\a.H=H/\Sim a G/\Rep a d x/\out E a (f d G) Q
def lRn(K:PySem.W.Frag)(E:XK)(f:List D->DH->R D):List V->Hp->VK->Prop:=λxs H Q=>∃(a:Wd)(G:DH)(ds:List D),a.K=K/\a.H=H/\Sim a G/\Reps a ds xs/\out E a (f ds G) Q
noncomputable def lF(K:PySem.W.Frag)(f:List D->DH->R D):Sp:=λxs H Q E=>∃(a:Wd)(G:DH)(ds:List D),a.K=K/\a.H=H/\Sim a G/\Reps a ds xs/\out E a (f ds G) Q
section
variable{X:Cx}{E:XK}
def QE(X:Cx)(E:XK)(e:xX)(t:DE):Prop:=PE X e (lE X.K E t)
def QT(X:Cx)(E:XK)(e:xX)(t:DB):Prop:=PT X e (lB X.K E t)
def QA(X:Cx)(E:XK)(es:List xX)(t:DA):Prop:=PA X es (lA X.K E t)
def QS(X:Cx)(E:XK)(st:xz)(t:DS):Prop:=PS X st (lS X.K E t)
def QSs(X:Cx)(E:XK)(st:List xz)(t:DS):Prop:=PSs X st (lS X.K E t)
theorem _root_.L2.PE.mono{t t':TE}(h:PE X e t)(w:∀σ H Q,t' σ H Q->t σ H Q):PE X e t':=λvD s σ H Q I q=>h vD s σ H Q I (w σ H Q q)
theorem _root_.L2.PT.mono{t t':TT}(h:PT X e t)(w:∀σ H Q,t' σ H Q->t σ H Q):PT X e t':=λvD s σ H Q I q=>h vD s σ H Q I (w σ H Q q)
theorem _root_.L2.PA.mono{e:List xX}{t t':TA}(h:PA X e t)(w:∀σ H Q,t' σ H Q->t σ H Q):PA X e t':=λpos vD s σ H Q I q=>h pos vD s σ H Q I (w σ H Q q)
theorem _root_.L2.PS.mono{e:xz}{t t':TS}(h:PS X e t)(w:∀W σ H,t' W σ H->t W σ H):PS X e t':=λvD s σ H W I q=>h vD s σ H W I (w W σ H q)
theorem _root_.L2.PSs.mono{e:List xz}{t t':TS}(h:PSs X e t)(w:∀W σ H,t' W σ H->t W σ H):PSs X e t':=λvD s σ H W I q=>h vD s σ H W I (w W σ H q)
theorem _root_.L2.OpR.mono{f:xj->xj->Sem xj}{r r':R2}(h:OpR X f r)(w:∀x y H Q,r' x y H Q->r x y H Q):OpR X f r':=λvD s σ H x y v u Q I rx ry q=>h vD s σ H x y v u Q I rx ry (w _ _ _ _ q)
end
theorem Gq{f:D->DH->R D}(h:out E a (r.bind f) Q):
  out E a r (λv H=>∃(b:Wd)(d:D)(G:DH),b.H=H/\Ext a b/\Sim b G/\Rep b d v/\r=.ok d G/\out E b (f d G) Q):=by
 cases r with
 |ok d G=>exact λb v x s q=>⟨b,d,G,rfl,x,s,q,rfl,out.mono x h⟩
 |err e G=>exact h
 |bad=>exact h
theorem O2{r:R (List D)}{f:List D->DH->R D}(h:out E a (r.bind f) Q):
  Hb E a r (λvs H=>∃(b:Wd)(ds:List D)(G:DH),b.H=H/\Ext a b/\Sim b G/\Reps b ds vs/\r=.ok ds G/\out E b (f ds G) Q):=by
 cases r with
 |ok d G=>exact λb v x s q=>⟨b,d,G,rfl,x,s,q,rfl,out.mono x h⟩
 |err e G=>exact h
 |bad=>exact h
theorem ZIp{r:R Bool}{f:Bool->DH->R D}(h:out E a (r.bind f) Q):
  Hc E a r (λk H=>∃(b:Wd)(G:DH),b.H=H/\Ext a b/\Sim b G/\r=.ok k G/\out E b (f k G) Q):=by
 cases r with
 |ok d G=>exact λb x s=>⟨b,G,rfl,x,s,rfl,out.mono x h⟩
 |err e G=>exact h
 |bad=>exact h
theorem ZR6{f:D->DH->R Bool}{Q:Bool->Hp->Prop}(h:Hc E a (r.bind f) Q):
  out E a r (λv H=>∃(b:Wd)(d:D)(G:DH),b.H=H/\Ext a b/\Sim b G/\Rep b d v/\r=.ok d G/\Hc E b (f d G) Q):=by
 cases r with
 |ok d G=>exact λb v x s q=>⟨b,d,G,rfl,x,s,q,rfl,Hc.mono x h⟩
 |err e G=>exact h
 |bad=>exact h
theorem ZC6{r:R Bool}{f:Bool->DH->R Bool}{Q:Bool->Hp->Prop}(h:Hc E a (r.bind f) Q):
  Hc E a r (λk H=>∃(b:Wd)(G:DH),b.H=H/\Ext a b/\Sim b G/\r=.ok k G/\Hc E b (f k G) Q):=by
 cases r with
 |ok d G=>exact λb x s=>⟨b,G,rfl,x,s,rfl,Hc.mono x h⟩
 |err e G=>exact h
 |bad=>exact h
theorem ZLO{f:D->DH->R (List D)}{Q:List V->Hp->Prop}(h:Hb E a (r.bind f) Q):
  out E a r (λv H=>∃(b:Wd)(d:D)(G:DH),b.H=H/\Ext a b/\Sim b G/\Rep b d v/\r=.ok d G/\Hb E b (f d G) Q):=by
 cases r with
 |ok d G=>exact λb v x s q=>⟨b,d,G,rfl,x,s,q,rfl,Hb.mono x h⟩
 |err e G=>exact h
 |bad=>exact h
theorem ZLt{r:R (List D)}{f:List D->DH->R (List D)}{Q:List V->Hp->Prop}(h:Hb E a (r.bind f) Q):
  Hb E a r (λvs H=>∃(b:Wd)(ds:List D)(G:DH),b.H=H/\Ext a b/\Sim b G/\Reps b ds vs/\r=.ok ds G/\Hb E b (f ds G) Q):=by
 cases r with
 |ok d G=>exact λb v x s q=>⟨b,d,G,rfl,x,s,q,rfl,Hb.mono x h⟩
 |err e G=>exact h
 |bad=>exact h
noncomputable def R.toS{α:Type}(r:R α)(f:α->DH->SR):SR:=match r with
 |.ok a G=>f a G
 |.err x G=>.err x G
 |.bad=>.bad
@[simp]theorem R.Dm(a:α)(G:DH)(f:α->DH->SR):(R.ok a G).toS f=f a G:=id rfl
@[simp]theorem R.ZUo(f:α->DH->SR):(R.bad:R α).toS f=.bad:=id rfl
theorem J0{f:D->DH->SR}(h:Dh E a (r.toS f) W):
  out E a r (λv H=>∃(b:Wd)(d:D)(G:DH),b.H=H/\Ext a b/\Sim b G/\Rep b d v/\r=.ok d G/\Dh E b (f d G) W):=by
 cases r with
 |ok d G=>exact λb v x s q=>⟨b,d,G,rfl,x,s,q,rfl,Dh.mono x h⟩
 |err e G=>exact h
 |bad=>exact h
theorem ZHf{r:R Bool}{f:Bool->DH->SR}(h:Dh E a (r.toS f) W):
  Hc E a r (λk H=>∃(b:Wd)(G:DH),b.H=H/\Ext a b/\Sim b G/\r=.ok k G/\Dh E b (f k G) W):=by
 cases r with
 |ok d G=>exact λb x s=>⟨b,G,rfl,x,s,rfl,Dh.mono x h⟩
 |err e G=>exact h
 |bad=>exact h
section
theorem out.imp{Q':VK}(h:out E a r Q)(w:∀v H,Q v H->Q' v H):out E a r Q':=by
 cases r with
 |ok d G=>exact λb v x s q=>w _ _ (h b v x s q)
 |err e G=>exact h
 |bad=>exact h
theorem Hb.imp{r:R (List D)}{Q Q':List V->Hp->Prop}(h:Hb E a r Q)(w:∀v H,Q v H->Q' v H):Hb E a r Q':=by
 cases r with
 |ok d G=>exact λb v x s q=>w _ _ (h b v x s q)
 |err e G=>exact h
 |bad=>exact h
theorem Hc.imp{r:R Bool}{Q Q':Bool->Hp->Prop}(h:Hc E a r Q)(w:∀v H,Q v H->Q' v H):Hc E a r Q':=by
 cases r with
 |ok d G=>exact λb x s=>w _ _ (h b x s)
 |err e G=>exact h
 |bad=>exact h
def Wd.push(a:Wd)(p:xZ)(ho:HO):Wd:=⟨a.K,a.n+1,λk=>if k=a.n then p else a.m k,upd a.H p ho⟩
def Wd.put(a:Wd)(p:xZ)(ho:HO):Wd:={a with H:=upd a.H p ho}
theorem Ext.put(h:a.H p=vF):Ext a (a.put p ho):=
 ⟨rfl,zK _,λ_ _=>rfl,λq xs e=>by show upd a.H p ho q=_;rw[Bd (J8 e h)];exact e,λq o u e=>by show upd a.H p ho q=_;rw[Bd (J8 e h)];exact e,λ_ t=>t.mono (λq ps e=>by show upd a.H p ho q=_;rw[Bd (J8 e h)];exact e) (λq o u e=>by show upd a.H p ho q=_;rw[Bd (J8 e h)];exact e)⟩
theorem Ext.push(h:a.H p=vF):Ext a (a.push p ho):=
 ⟨rfl,jk _,λi hi=>by show(if i=a.n then p else a.m i)=a.m i;rw[if_neg (zE hi)],λq xs e=>by show upd a.H p ho q=_;rw[Bd (J8 e h)];exact e,λq o u e=>by show upd a.H p ho q=_;rw[Bd (J8 e h)];exact e,λ_ t=>t.mono (λq ps e=>by show upd a.H p ho q=_;rw[Bd (J8 e h)];exact e) (λq o u e=>by show upd a.H p ho q=_;rw[Bd (J8 e h)];exact e)⟩
theorem ORep.mono(x:Ext a b){q:Option HO}(h:ORep a o q):ORep b o q:=by
 cases o with
 |lst ds=>obtain⟨vs,e,r⟩:=h;exact⟨vs,e,r.mono x⟩
 |dct kvs=>obtain⟨us,e,k,r⟩:=h;exact⟨us,e,k,r.mono x⟩
 |ins c fs=>obtain⟨C,dx,us,n,e,k,r⟩:=h;exact⟨C,dx,us,by rw[x.k];exact n,e,k,r.mono x⟩
 |tab C m=>obtain⟨c,P,e,t⟩:=h;exact⟨c,P,by rw[x.k];exact e,x.tab _ t⟩
 |gone=>trivial
theorem Sim.lt(s:Sim a G)(h:G[i]?=vE o):i<a.n:=by rw[<-s.len];exact(zF.mp h).1
theorem Sim.put(s:Sim a G)(h:a.H p=vF):Sim (a.put p ho) G:=by
 refine⟨s.len,s.inj,λi o e=>?_,λi hi=>?_⟩
 ·have z:a.H (a.m i)≠vF:=s.tr i (s.lt e);have ne:a.m i≠p:=λq=>z (by rw[q];exact h)
  show ORep _ o (upd a.H p ho (a.m i));rw[Bd ne];exact(s.obj i o e).mono (Ext.put h)
 ·have z:a.H (a.m i)≠vF:=s.tr i hi;have ne:a.m i≠p:=λq=>z (by rw[q];exact h)
  show upd a.H p ho (a.m i)≠vF;rw[Bd ne];exact z
theorem Sim.push(s:Sim a G)(h:a.H p=vF)(r:ORep (a.push p ho) o (vE ho)):Sim (a.push p ho) (G++[o]):=by
 have nep:∀i,i<a.n->a.m i≠p:=λi hi q=>s.tr i hi (by rw[q];exact h)
 have old:∀i,i<a.n->(a.push p ho).m i=a.m i:=λi hi=>by show(if i=a.n then p else a.m i)=_;rw[if_neg (zE hi)]
 have new:(a.push p ho).m a.n=p:=by show(if a.n=a.n then p else a.m a.n)=_;rw[if_pos rfl]
 refine⟨by simp[s.len,Wd.push],λi j hi hj e=>?_,λi u e=>?_,λi hi=>?_⟩
 ·have hi':i<a.n+1:=hi;have hj':j<a.n+1:=hj;by_cases h1:i<a.n
  ·by_cases h2:j<a.n
   ·rw[old i h1,old j h2]at e;exact s.inj i j h1 h2 e
   ·have:j=a.n:=by lia
    subst this;rw[old i h1,new]at e;exact absurd e (nep i h1)
  ·have:i=a.n:=by lia
   subst this;by_cases h2:j<a.n
   ·rw[old j h2,new]at e;exact absurd e.symm (nep j h2)
   ·lia
 ·by_cases h1:i<a.n
  ·rw[zR (by rw[s.len];exact h1)]at e;rw[old i h1];show ORep _ u (upd a.H p ho (a.m i));rw[Bd (nep i h1)];exact(s.obj i u e).mono (Ext.push h)
  ·have hl:i<(G++[o]).length:=(zF.mp e).1;have:i=a.n:=by rw[qZ,s.len]at hl;simp at hl;lia
   subst this;rw[zG (by rw[s.len];exact zK _),s.len]at e;simp at e;subst e;rw[new];show ORep _ o (upd a.H p ho p);rw[Gk];exact r
 ·have hi':i<a.n+1:=hi;by_cases h1:i<a.n
  ·rw[old i h1];show upd a.H p ho (a.m i)≠vF;rw[Bd (nep i h1)];exact s.tr i h1
  ·have:i=a.n:=by lia
   subst this;rw[new];show upd a.H p ho p≠vF;rw[Gk];simp
theorem Ext.wr(h:a.H p=vE (.lst vs)):Ext a (a.put p ho):=
 ⟨rfl,zK _,λ_ _=>rfl,λq xs e=>by
  show upd a.H p ho q=_;rw[Bd (λz=>by subst z;rw[h]at e;cases e)];exact e,λq o u e=>by
  show upd a.H p ho q=_;rw[Bd (λz=>by subst z;rw[h]at e;cases e)];exact e,λ_ t=>t.mono (λq ps e=>by show upd a.H p ho q=_;rw[Bd (λz=>by subst z;rw[h]at e;cases e)];exact e) (λq o u e=>by show upd a.H p ho q=_;rw[Bd (λz=>by subst z;rw[h]at e;cases e)];exact e)⟩
theorem Sim.wr(s:Sim a G)(hi:i<a.n){vs':List V}{ds':List D}(h:a.H (a.m i)=vE (.lst vs))(r:Reps (a.put (a.m i) (.lst vs')) ds' vs'):Sim (a.put (a.m i) (.lst vs')) (G.set i (.lst ds')):=by
 refine⟨by rw[jv];exact s.len,s.inj,λj o e=>?_,λj hj=>?_⟩
 ·rw[qO]at e;show ORep _ o (upd a.H (a.m i) (.lst vs') (a.m j));by_cases hij:i=j
  ·subst hij;rw[if_pos rfl,if_pos (by rw[s.len];exact hi)]at e;cases e;rw[Gk];exact⟨vs',rfl,r⟩
  ·rw[if_neg hij]at e;rw[Bd λz=>hij (s.inj _ _ (s.lt e) hi z).symm];exact(s.obj j o e).mono (Ext.wr h)
 ·show upd a.H (a.m i) (.lst vs') (a.m j)≠vF;by_cases hij:a.m j=a.m i
  ·rw[hij,Gk];simp
  ·rw[Bd hij];exact s.tr j hj
mutual
noncomputable def bel(n:Nat):D->Bool
 |.ref i=>decide (i<n)
 |.tup ds=>bels n ds
 |.fl ds=>bels n ds
 |_=>vG
noncomputable def bels(n:Nat):List D->Bool
 |[]=>vG
 |d::ds=>bel n d&&bels n ds
end
def Om(n:Nat):DO->Bool
 |.lst ds=>bels n ds
 |.dct kvs=>bels n (kvs.map (·.2))
 |.ins _ fs=>bels n (fs.map (·.2))
 |.tab _ _=>vG
 |.gone=>vG
mutual
theorem Rep.bel:∀{d:D}{v:V},Rep a d v->bel a.n d=vG
 |.non,_,_=>by simp[DL.bel]
 |.bl _,_,_=>by simp[DL.bel]
 |.int _,_,_=>by simp[DL.bel]
 |.str _,_,_=>by simp[DL.bel]
 |.ty _,_,_=>by simp[DL.bel]
 |.tup ds,v,h=>by obtain⟨p,vs,e,q,r⟩:=h;simp only[DL.bel];exact Reps.bels r
 |.fl ds,v,h=>by obtain⟨p,vs,e,q,r⟩:=h;simp only[DL.bel];exact Reps.bels r
 |.ref i,v,h=>by obtain⟨l,e⟩:=h;simp only[DL.bel];exact decide_eq_true l
theorem Reps.bels:∀{ds:List D}{vs:List V},Reps a ds vs->bels a.n ds=vG
 |[],_,_=>by simp[DL.bels]
 |d::ds,vs,h=>by
  obtain⟨v,r,e,h1,h2⟩:=h;simp only[DL.bels];rw[Rep.bel h1,Reps.bels h2]
  rfl
end
structure Cut (b c:Wd):Prop where
 k:c.K=b.K
 h:c.H=b.H
mutual
theorem Rep.cut(x:Cut b c){n:Nat}(hn:n<=c.n)(hm:∀i,i<n->c.m i=b.m i):∀{d:D}{v:V},Rep b d v->bel n d=vG->Rep c d v
 |.non,_,h,_=>h
 |.bl _,_,h,_=>h
 |.int _,_,h,_=>h
 |.str _,_,h,_=>h
 |.ty _,_,h,_=>h
 |.tup ds,v,h,q=>by obtain⟨p,vs,e,t,r⟩:=h;simp only[DL.bel]at q;exact⟨p,vs,e,by rw[x.k,x.h];exact t,Reps.cut x hn hm r q⟩
 |.fl ds,v,h,q=>by obtain⟨p,vs,e,t,r⟩:=h;simp only[DL.bel]at q;exact⟨p,vs,e,by rw[x.k,x.h];exact t,Reps.cut x hn hm r q⟩
 |.ref i,v,h,q=>by obtain⟨l,e⟩:=h;simp only[DL.bel]at q;have q':=of_decide_eq_true q;exact⟨zq q' hn,by rw[hm i q'];exact e⟩
theorem Reps.cut(x:Cut b c){n:Nat}(hn:n<=c.n)(hm:∀i,i<n->c.m i=b.m i):∀{ds:List D}{vs:List V},Reps b ds vs->bels n ds=vG->Reps c ds vs
 |[],_,h,_=>h
 |d::ds,vs,h,q=>by obtain⟨v,r,e,h1,h2⟩:=h;simp only[DL.bels,zC]at q;exact⟨v,r,e,Rep.cut x hn hm h1 q.1,Reps.cut x hn hm h2 q.2⟩
end
theorem ORep.cut(x:Cut b c){n:Nat}(hn:n<=c.n)(hm:∀i,i<n->c.m i=b.m i){q:Option HO}(h:ORep b o q)(l:Om n o=vG):ORep c o q:=by
 cases o with
 |lst ds=>obtain⟨vs,e,r⟩:=h;exact⟨vs,e,Reps.cut x hn hm r l⟩
 |dct kvs=>obtain⟨us,e,k,r⟩:=h;exact⟨us,e,k,Reps.cut x hn hm r l⟩
 |ins c fs=>obtain⟨C,dx,us,n,e,k,r⟩:=h;exact⟨C,dx,us,by rw[x.k];exact n,e,k,Reps.cut x hn hm r l⟩
 |tab C m=>obtain⟨c,P,e,t⟩:=h;exact⟨c,P,by rw[x.k];exact e,by rw[x.h];exact t⟩
 |gone=>trivial
theorem ORep.Om{q:Option HO}(h:ORep a o q):Om a.n o=vG:=by
 cases o with
 |lst ds=>obtain⟨vs,e,r⟩:=h;exact r.bels
 |dct kvs=>obtain⟨us,e,k,r⟩:=h;exact r.bels
 |ins c fs=>obtain⟨C,dx,us,n,e,k,r⟩:=h;exact r.bels
 |tab C m=>rfl
 |gone=>rfl
open Classical in
def tidy (G:DH) (r:R D):R D:=match r with
 | .ok d G'=>if G'.take G.length=G then
   (if bel G.length d=vG then .ok d G else match d with
    |.ref i=>match G'[i]? with
     |some o=>if Om G.length o=vG then .ok (.ref G.length) (G++[o])else .ok d G'
     |none=>.ok d G'
    |_=>.ok d G')else .ok d G'
 |r=>r
theorem ZEz (s:Sim a G) (h:out E a (tidy G r) Q):out E a r Q:=by
 cases r with
 |err e G'=>exact h
 |bad=>exact h
 | ok d G'=>
  intro b v x sb rb;unfold tidy at h;dsimp only at h;split at h
  ·rename_i hG;have hlen:∀i o,G[i]?=vE o->G'[i]?=vE o:=λi o e=>by have hi:i<G.length:=(zF.mp e).1;rw[<-hG,jY hi]at e;exact e
   have base:∀(c:Wd),Cut b c->a.n<=c.n->(∀i,i<a.n->c.m i=b.m i)->∀i o,G[i]?=vE o->ORep c o (c.H (c.m i)):=λc cc hn hm i o e=>by have q:=sb.obj i o (hlen i o e);rw[cc.h,hm i (s.lt e)];exact q.cut cc hn hm (s.obj i o e).Om
   split at h
   ·rename_i hb;rw[s.len]at hb;let c:Wd:=⟨b.K,a.n,b.m,b.H⟩;have cc:Cut b c:=⟨rfl,rfl⟩;refine h c v ⟨x.k,zK _,x.m,x.tup,x.frz,x.tab⟩ ⟨s.len,λi j hi hj=>sb.inj i j (zq hi x.n) (zq hj x.n),base c cc (zK _) (λ_ _=>rfl),λi hi=>sb.tr i (zq hi x.n)⟩ ?_;exact rb.cut cc (zK _) (λ_ _=>rfl) hb
   ·rename_i hb;split at h
    ·rename_i i;obtain⟨il,iv⟩:=rb;split at h
     ·rename_i o ho;split at h
      ·rename_i hbo;rw[s.len]at hbo hb h;simp only[DL.bel,decide_eq_true_eq]at hb;let c:Wd:=⟨b.K,a.n+1,λk=>if k=a.n then b.m i else b.m k,b.H⟩;have cc:Cut b c:=⟨rfl,rfl⟩;have cm:∀j,j<a.n->c.m j=b.m j:=λj hj=>by show(if j=a.n then b.m i else b.m j)=_;rw[if_neg (zE hj)]
       have cn:c.m a.n=b.m i:=by show(if a.n=a.n then b.m i else b.m a.n)=_;rw[if_pos rfl]
       have lt':∀j,j<a.n->j<b.n:=λj hj=>zq hj x.n
       refine h c v ⟨x.k,jk _,λj hj=>(cm j hj).trans (x.m j hj),x.tup,x.frz,x.tab⟩ ⟨by simp[s.len,c],λj k hj hk e=>?_,λj u e=>?_,λj hj=>?_⟩ ⟨zU _,by rw[cn];exact iv⟩
       ·have hj':j<a.n+1:=hj;have hk':k<a.n+1:=hk;by_cases h1:j<a.n
        ·by_cases h2:k<a.n
         ·rw[cm j h1,cm k h2]at e;exact sb.inj j k (lt' j h1) (lt' k h2) e
         ·have:k=a.n:=by lia
          subst this;rw[cm j h1,cn]at e;have:=sb.inj j i (lt' j h1) il e;lia
        ·have:j=a.n:=by lia
         subst this;by_cases h2:k<a.n
         ·rw[cm k h2,cn]at e;have:=sb.inj i k il (lt' k h2) e;lia
         ·lia
       ·by_cases h1:j<a.n
        ·rw[zR (by rw[s.len];exact h1)]at e;exact base c cc (jk _) cm j u e
        ·have hl:j<(G++[o]).length:=(zF.mp e).1;have:j=a.n:=by rw[qZ,s.len]at hl;simp at hl;lia
         subst this;rw[zG (by rw[s.len];exact zK _),s.len]at e;simp at e;subst e;rw[cn];exact(sb.obj i o ho).cut cc (jk _) cm hbo
       ·have hj':j<a.n+1:=hj;by_cases h1:j<a.n
        ·rw[cm j h1];exact sb.tr j (lt' j h1)
        ·have:j=a.n:=by lia
         subst this;rw[cn];exact sb.tr i il
      ·exact h b v x sb ⟨il,iv⟩
     ·exact h b v x sb ⟨il,iv⟩
    ·exact h b v x sb rb
  ·exact h b v x sb rb
end
noncomputable def dV(i:Nat):DE:=λS G=>match S[i]? with
 |some (vE d)=>.ok d G
 |_=>.bad
noncomputable def dC(d:D):DE:=λ_ G=>.ok d G
def dOp(f:D->D->DH->R D)(a b:DE):DE:=λS G=>(a S G).bind λx G1=>(b S G1).bind λy G2=>f x y G2
def dUn(f:D->DH->R D)(a:DE):DE:=λS G=>(a S G).bind f
noncomputable def Ad:DA:=λ_ G=>.ok [] G
def Ab(a:DE)(r:DA):DA:=λS G=>(a S G).bind λx G1=>(r S G1).bind λxs G2=>.ok (x::xs) G2
def dFn(f:List D->DH->R D)(t:DA):DE:=λS G=>(t S G).bind f
def Fd(t:DE):DE:=λS G=>tidy G (t S G)
noncomputable def asB:D->DH->R Bool
 |.bl k,G=>.ok k G
 |_,_=>.bad
def Ax(t:DE):DB:=λS G=>(t S G).bind asB
def K3(t u:DB):DB:=λS G=>(t S G).bind λk G1=>if k=vG then u S G1 else .ok vH G1
def dOr(t u:DB):DB:=λS G=>(t S G).bind λk G1=>if k=vG then .ok vG G1 else u S G1
def Jc(t:DB):DB:=λS G=>(t S G).bind λk G1=>.ok (!k) G1
def Nf(t u:DE):DE:=λS G=>(t S G).bind λx G1=>(asB x G1).bind λk G2=>if k=vG then u S G2 else .ok (.bl vH) G2
def dOrV(t u:DE):DE:=λS G=>(t S G).bind λx G1=>(asB x G1).bind λk G2=>if k=vG then .ok (.bl vG) G2 else u S G2
def dIf(c:DB)(t u:DE):DE:=λS G=>(c S G).bind λk G1=>if k=vG then t S G1 else u S G1
def Qq(f g:D->D->DH->R D)(a b c:DE):DE:=λS G=>(a S G).bind λx G1=>(b S G1).bind λy G2=>(f x y G2).bind λz G3=>(asB z G3).bind λk G4=>
 if k=vG then(c S G4).bind λw G5=>g y w G5 else .ok (.bl vH) G4
noncomputable def Bb(ds:List D)(G:DH):R D:=if ds.length<=1000000 then .ok (.tup ds) G else .bad
noncomputable def Av(ds:List D)(G:DH):R D:=if ds.length<=1000000 then .ok (.ref G.length) (G++[.lst ds])else .bad
noncomputable def Cj(d:D)(G:DH):Option (List D):=match d with
 |.tup xs=>vE xs
 |.fl xs=>vE xs
 |.ref i=>match G[i]? with
  |some (.lst xs)=>vE xs
  |_=>vF
 |_=>vF
theorem size6:(1000000:Nat)<=sizeLine:=by decide
section
variable{X:Cx}{E:XK}{a b c:xX}{ta tb tc:DE}{pos:Pos}
theorem two(h:lE K E (dOp f ta tb) σ H Q):tOp (lR2 K E f) (lE K E ta) (lE K E tb) σ H Q:=by obtain⟨a,S,G,hk,rfl,s,r,h⟩:=h;refine⟨a,S,G,hk,rfl,s,r,(Gq h).imp ?_⟩;rintro v _ ⟨b,d,G1,rfl,x,s1,q,_,h1⟩;refine⟨b,S,G1,x.k.trans hk,rfl,s1,r.mono x,(Gq h1).imp ?_⟩;rintro w _ ⟨c,e,G2,rfl,y,s2,q2,_,h2⟩;exact⟨c,G2,d,e,y.k.trans (x.k.trans hk),rfl,s2,q.mono y,q2,h2⟩
theorem Aa(i:Nat){pos:Pos}(hN:X.N[i]?=vE x:=by rfl)(hv:Vis X.env.scope x:=by first|exact Or.inl rfl|exact Or.inr (Or.inl rfl)|exact Or.inr (Or.inr rfl))(hd:(x==("__debug__":Str))=vH:=by decide)
  (hcd:(x==("__classdict__":Str))=vH:=by decide):QE X E (.Name x pos) (dV i):=by
 refine(ZME hN hv hd hcd).mono λσ H Q h=>?_
 obtain⟨a,S,G,hk,rfl,s,r,h⟩:=h;unfold dV at h;split at h
 ·rename_i d e;obtain⟨v,e',q⟩:=r.get i d e;exact⟨v,e',h a v (Ext.refl a) s q⟩
 ·exact h.elim
theorem R3(h:lE K E (dC d) σ H Q)(r:∀a:Wd,a.K=K->Rep a d v):Q v H:=by obtain⟨a,S,G,hk,rfl,s,_,h⟩:=h;exact h a v (Ext.refl a) s (r a hk)
theorem Af{i:Int}:QE X E (.Constant (.int i) j pos) (dC (.int i)):=ZRQ.mono λσ H Q h=>R3 h λ_ _=>rfl
theorem Oi{i:Bool}:QE X E (.Constant (.bool i) j pos) (dC (.bl i)):=ZSu.mono λσ H Q h=>R3 h λ_ _=>rfl
theorem Fw:QE X E (.Constant .none j pos) (dC .non):=ZNI.mono λσ H Q h=>R3 h λ_ _=>rfl
theorem Dc{i:Str}:QE X E (.Constant (.str i) j pos) (dC (.str i)):=ZJo.mono λσ H Q h=>R3 h λ_ _=>rfl
theorem Cq{u:xj}(hg:Gl X x)(hm:X.mg x=vE u)(r:RelV v u)(rd:∀a:Wd,a.K=X.K->Rep a d v)(hd:(x==("__debug__":Str))=vH:=by decide):QE X E (.Name x pos) (dC d):=
 (ZAt hg hm r hd).mono λσ H Q h=>R3 h rd
theorem Ag{op:Operator}(ho:OpR X (xD op) (lR2 X.K E f))(ha:QE X E a ta)(hb:QE X E b tb):QE X E (.BinOp a op b pos) (dOp f ta tb):=
 (ZNa ho ha hb).mono λ_ _ _ h=>two h
theorem Jg{op:CmpOp}(ho:OpR X (xI op) (lR2 X.K E f))(ha:QE X E a ta)(hb:QE X E b tb)(hm:xC op b=vH):QE X E (.Compare a [op] [b] pos) (dOp f ta tb):=
 (ZSx ho ha hb hm).mono λ_ _ _ h=>two h
theorem Vc{Q:Bool->Hp->Prop}(h:lB K E (Ax t) σ H Q):Rp (lE K E t) σ H Q:=by
 obtain⟨a,S,G,hk,rfl,s,r,h⟩:=h;refine⟨a,S,G,hk,rfl,s,r,(ZR6 h).imp ?_⟩;rintro v _ ⟨b,d,G1,rfl,x,s1,q,_,h1⟩;cases d with
 |bl k=>exact⟨k,q,h1 b (Ext.refl b) s1⟩
 |_=>exact h1.elim
theorem ZB2{t t':TE}(w:∀σ H Q,t' σ H Q->t σ H Q)(σ:St)(H:Hp)(Q:Bool->Hp->Prop)(h:Rp t' σ H Q):Rp t σ H Q:=w _ _ _ h
theorem Bs{op:CmpOp}(ho:OpR X (xI op) (lR2 X.K E f))(ha:QE X E a ta)(hb:QE X E b tb)(hm:xC op b=vH):QT X E (.Compare a [op] [b] pos) (Ax (dOp f ta tb)):=
 (ZKH ho ha hb hm).mono λσ H Q h=>ZB2 (λ_ _ _ z=>two z) σ H Q (Vc h)
theorem chain{g:D->D->DH->R D}(h:lE K E (Qq f g ta tb tc) σ H Q):ZH3 (lR2 K E f) (lR2 K E g) (lE K E ta) (lE K E tb) (lE K E tc) σ H Q:=by
 obtain⟨a,S,G,hk,rfl,s,r,h⟩:=h;refine⟨a,S,G,hk,rfl,s,r,(Gq h).imp ?_⟩;rintro v _ ⟨b,d,G1,rfl,x,s1,q,_,h1⟩;refine⟨b,S,G1,x.k.trans hk,rfl,s1,r.mono x,(Gq h1).imp ?_⟩;rintro w _ ⟨c,e,G2,rfl,y,s2,q2,_,h2⟩;refine⟨c,G2,d,e,y.k.trans (x.k.trans hk),rfl,s2,q.mono y,q2,(Gq h2).imp ?_⟩;rintro z _ ⟨c3,e3,G3,rfl,y3,s3,q3,_,h3⟩;cases e3 with
 | bl k=>
  refine⟨k,q3,?_⟩;cases k with
  |false=>exact h3 c3 (.bl vH) (Ext.refl _) s3 rfl
  |true=>
   refine⟨c3,S,G3,(y3.k.trans (y.k.trans (x.k.trans hk))),rfl,s3,((r.mono x).mono y).mono y3,(Gq h3).imp ?_⟩;rintro z4 _ ⟨c4,e4,G4,rfl,y4,s4,q4,_,h4⟩;exact⟨c4,G4,e,e4,y4.k.trans (y3.k.trans (y.k.trans (x.k.trans hk))),rfl,s4,(q2.mono y3).mono y4,q4,h4⟩
 |_=>exact h3.elim
theorem ZFl{op op':CmpOp}{g:D->D->DH->R D}(ho:OpR X (xI op) (lR2 X.K E f))(ho':OpR X (xI op') (lR2 X.K E g))(ha:QE X E a ta)(hb:QE X E b tb)(hc:QE X E c tc)
  (hm:lastMarks [op,op'] [b,c]=vH:=by with_unfolding_all rfl):QT X E (.Compare a [op,op'] [b,c] pos) (Ax (Qq f g ta tb tc)):=
 (ZTT ho ho' ha hb hc hm).mono λσ H Q h=>ZB2 (λ_ _ _ z=>chain z) σ H Q (Vc h)
theorem Hk(ha:QE X E a ta)(he:∀whole,isTrue a X.env whole=(do let v<-whole;standAt a.pos;holding [v] (truthy v)):=by intro _;rfl):QT X E a (Ax ta):=
 (ZNN ha he).mono λσ H Q h=>Vc h
theorem Gd(ha:QE X E a ta):QE X E a (Fd ta):=L2.PE.mono ha λσ H Q h=>by obtain⟨w,S,G,hk,rfl,s,r,h⟩:=h;exact⟨w,S,G,hk,rfl,s,r,ZEz s h⟩
def QW(X:Cx)(E:XK)(e:xX)(t:DB):Prop:=PW X e (lB X.K E t)
theorem _root_.L2.PW.mono{t t':TT}(h:PW X e t)(w:∀σ H Q,t' σ H Q->t σ H Q):PW X e t':=λwh vD s σ H Q I q=>h wh vD s σ H Q I (w σ H Q q)
variable{u t:DB}{rest:List xX}
theorem ZPL{Q:Bool->Hp->Prop}(h:lB K E (K3 t u) σ H Q):tAnd (lB K E t) (lB K E u) σ H Q:=by
 obtain⟨a,S,G,hk,rfl,s,r,h⟩:=h;refine⟨a,S,G,hk,rfl,s,r,(ZC6 h).imp ?_⟩;rintro k _ ⟨b,G1,rfl,x,s1,_,h1⟩;cases k with
 |true=>exact⟨b,S,G1,x.k.trans hk,rfl,s1,r.mono x,h1⟩
 |false=>exact h1 b (Ext.refl b) s1
theorem ZLe{Q:Bool->Hp->Prop}(h:lB K E (dOr t u) σ H Q):tOr (lB K E t) (lB K E u) σ H Q:=by
 obtain⟨a,S,G,hk,rfl,s,r,h⟩:=h;refine⟨a,S,G,hk,rfl,s,r,(ZC6 h).imp ?_⟩;rintro k _ ⟨b,G1,rfl,x,s1,_,h1⟩;cases k with
 |true=>exact h1 b (Ext.refl b) s1
 |false=>exact⟨b,S,G1,x.k.trans hk,rfl,s1,r.mono x,h1⟩
theorem O4(ha:QT X E a t):QW X E (.BoolOp .And [a] pos) t:=pw_and1 ha
theorem Lk(ha:QT X E a t):QW X E (.BoolOp .Or [a] pos) t:=pw_or1 ha
theorem Oo(ha:QT X E a t)(hb:QW X E (.BoolOp .And (b::rest) pos) u):QW X E (.BoolOp .And (a::b::rest) pos) (K3 t u):=(pw_and ha hb).mono λ_ _ _ h=>ZPL h
theorem Kc(ha:QT X E a t)(hb:QW X E (.BoolOp .Or (b::rest) pos) u):QW X E (.BoolOp .Or (a::b::rest) pos) (dOr t u):=(pw_or ha hb).mono λ_ _ _ h=>ZLe h
theorem Hd(h:QW X E a t):QT X E a t:=L2.PW.pt h
theorem Kw(ha:QT X E a t):QT X E (.UnaryOp .Not a pos) (Jc t):=(ZOR ha).mono λσ H Q h=>by obtain⟨a,S,G,hk,rfl,s,r,h⟩:=h;refine⟨a,S,G,hk,rfl,s,r,(ZC6 h).imp ?_⟩;rintro k _ ⟨b,G1,rfl,x,s1,_,h1⟩;exact h1 b (Ext.refl b) s1
theorem ZAY{op}(h:QE X E a ta):QE X E (.BoolOp op [a] pos) ta:=ZTA h
theorem ZCA(ha:QE X E a ta)(hb:QE X E (.BoolOp .And (b::rest) pos) tb):QE X E (.BoolOp .And (a::b::rest) pos) (Nf ta tb):=(ZSJ ha hb).mono λσ H Q h=>by
 obtain⟨a,S,G,hk,rfl,s,r,h⟩:=h;refine⟨a,S,G,hk,rfl,s,r,(Gq h).imp ?_⟩;rintro v _ ⟨b,d,G1,rfl,x,s1,q,_,h1⟩;cases d with
 |bl k=>
  refine⟨k,q,?_⟩;cases k with
  |true=>exact⟨b,S,G1,x.k.trans hk,rfl,s1,r.mono x,h1⟩
  |false=>exact h1 b _ (Ext.refl b) s1 rfl
 |_=>exact h1.elim
theorem ZS0(ha:QE X E a ta)(hb:QE X E (.BoolOp .Or (b::rest) pos) tb):QE X E (.BoolOp .Or (a::b::rest) pos) (dOrV ta tb):=(ZNv ha hb).mono λσ H Q h=>by
 obtain⟨a,S,G,hk,rfl,s,r,h⟩:=h;refine⟨a,S,G,hk,rfl,s,r,(Gq h).imp ?_⟩;rintro v _ ⟨b,d,G1,rfl,x,s1,q,_,h1⟩;cases d with
 |bl k=>
  refine⟨k,q,?_⟩;cases k with
  |false=>exact⟨b,S,G1,x.k.trans hk,rfl,s1,r.mono x,h1⟩
  |true=>exact h1 b _ (Ext.refl b) s1 rfl
 |_=>exact h1.elim
theorem ZIC(hc:QT X E c t)(ha:QE X E a ta)(hb:QE X E b tb):QE X E (.IfExp c a b pos) (dIf t ta tb):=(ZSD hc ha hb).mono λσ H Q h=>by
 obtain⟨a,S,G,hk,rfl,s,r,h⟩:=h;refine⟨a,S,G,hk,rfl,s,r,(ZIp h).imp ?_⟩;rintro k _ ⟨b,G1,rfl,x,s1,_,h1⟩;cases k with
 |true=>exact⟨b,S,G1,x.k.trans hk,rfl,s1,r.mono x,h1⟩
 |false=>exact⟨b,S,G1,x.k.trans hk,rfl,s1,r.mono x,h1⟩
variable{es:List xX}{tr:DA}
theorem Ae:QA X E [] Ad:=ZRJ.mono λσ H Q h=>by obtain⟨a,S,G,hk,rfl,s,r,h⟩:=h;exact h a [] (Ext.refl a) s rfl
noncomputable def notStar:xX->Bool
 |.Starred _ _=>vH
 |_=>vG
theorem O7(a:xX)(es:List xX)(env:Env)(h:notStar a=vG):vW (a::es) env=(vH,eval a env)::vW es env:=by
 cases a<;>first
  |exact absurd h zy
  |rfl
theorem Py(pos:Pos)(env:Env):∀es:List xX,es.all notStar=vG->(x0 pos (vW es env)).any (·.1)=vH
 |[],_=>rfl
 |a::es,h=>by
  rw[qB,zC]at h;rw[O7 a es env h.1];have ih:=Py pos env es h.2;unfold x0 at ih⊢;rw[zk,j5,ih]
  rfl
theorem Ac(ha:QE X E a ta)(hr:QA X E es tr)(hs:notStar a=vG:=by rfl):QA X E (a::es) (Ab ta tr):=(ZLU ha hr (O7 a es X.env hs)).mono λσ H Q h=>by obtain⟨a,S,G,hk,rfl,s,r,h⟩:=h;refine⟨a,S,G,hk,rfl,s,r,(ZLO h).imp ?_⟩;rintro v _ ⟨b,d,G1,rfl,x,s1,q,_,h1⟩;refine⟨b,S,G1,x.k.trans hk,rfl,s1,r.mono x,(ZLt h1).imp ?_⟩;rintro vs _ ⟨c,ds,G2,rfl,y,s2,q2,_,h2⟩;exact h2 c _ (Ext.refl c) s2 (Reps.cons (q.mono y) q2)
theorem Dp{x1}(h:QA X E es tr):QE X E (.Tuple es x1 pos) (dFn Bb tr):=(ZK7 h).mono λσ H Q h=>by
 obtain⟨a,S,G,hk,rfl,s,r,h⟩:=h;refine⟨a,S,G,hk,rfl,s,r,(O2 h).imp ?_⟩;rintro vs _ ⟨b,ds,G1,rfl,x,s1,q,_,h1⟩;unfold Bb at h1;split at h1
 ·rename_i hl;refine⟨by rw[<-q.length];exact zB hl size6,λp hp=>?_⟩;exact h1 (b.put p (.tup vs)) (.ref p) (Ext.put hp) (s1.put hp) ⟨p,vs,rfl,.of Gk,q.mono (Ext.put hp)⟩
 ·exact h1.elim
theorem Ep(h:QA X E es tr):QE X E (.List es pos) (dFn Av tr):=(ZL6 h).mono λσ H Q h=>by
 obtain⟨a,S,G,hk,rfl,s,r,h⟩:=h;refine⟨a,S,G,hk,rfl,s,r,(O2 h).imp ?_⟩;rintro vs _ ⟨b,ds,G1,rfl,x,s1,q,_,h1⟩;unfold Av at h1;split at h1
 ·rename_i hl;refine⟨by rw[<-q.length];exact zB hl size6,λp hp=>?_⟩;refine h1 (b.push p (.lst vs)) (.ref p) (Ext.push hp) (s1.push hp ⟨vs,rfl,q.mono (Ext.push hp)⟩) ⟨?_,?_⟩
  ·rw[s1.len];exact zU _
  ·rw[s1.len];show V.ref p=.ref (if b.n=b.n then p else b.m b.n);rw[if_pos rfl]
 ·exact h1.elim
variable{e:xX}{x:Str}{p:Pos}
theorem ZDn{f:List D->DH->R D}(h:lE K E (dFn f tr) σ H Q):lA K E tr σ H (λvs H1=>lRn K E f vs H1 Q):=by obtain⟨a,S,G,hk,rfl,s,r,h⟩:=h;refine⟨a,S,G,hk,rfl,s,r,(O2 h).imp ?_⟩;rintro vs _ ⟨b,ds,G1,rfl,x,s1,q,_,h1⟩;exact⟨b,G1,ds,x.k.trans hk,rfl,s1,q,h1⟩
theorem Cu{id:String}{f:List D->DH->R D}(hc:CallR X (.builtin id) (lRn X.K E f))(hg:Gl X x)(hm:X.mg x=vF)(hv:xE x=vE (.builtin id))(ha:QA X E (e::es) tr)(hn:x≠"__name__":=by decide)(hdb:(x==("__debug__":Str))=vH:=by decide)
  (he:notStar e=vG:=by rfl) (hpl:es.all notStar=vG:=by rfl):QE X E (.Call (.Name x p) (e::es) [] pos) (dFn f tr):=
 (ZSa hc hg hm hv ha hn hdb (O7 e es X.env he) (Py pos X.env es hpl)).mono λσ H Q h=>ZDn h
theorem Gn{id:String}{f:List D->DH->R D}(hc:CallR X (.type id) (lRn X.K E f))(hg:Gl X x)(hm:X.mg x=vF)(hv:xE x=vE (.type id))(ha:QA X E (e::es) tr)(hn:x≠"__name__":=by decide)(hdb:(x==("__debug__":Str))=vH:=by decide)
  (he:notStar e=vG:=by rfl) (hpl:es.all notStar=vG:=by rfl):QE X E (.Call (.Name x p) (e::es) [] pos) (dFn f tr):=
 (ZRz hc hg hm hv ha hn hdb (O7 e es X.env he) (Py pos X.env es hpl)).mono λσ H Q h=>ZDn h
theorem ZSy{CX:CXT}{k:Nat}{f:xZ}{fd:xV}{ps:List Str}{F:List D->DH->R D}(FF:FnOk X.prog X.w X.K X.mg X.base CX k f fd ps (lF X.K F))(hr:Room k X.A)(hg:Gl X x)(hm:X.mg x=vE (.ref f))(hk:PySem.W.keepIn X.K (.ref f)=vG)(hb:Binds X.K fd ps [])
  (hx:Passes CX X E) (ha:QA X E (e::es) tr) (hdb:(x==("__debug__":Str))=vH:=by decide) (he:notStar e=vG:=by rfl) (hpl:es.all notStar=vG:=by rfl):
  QE X E (.Call (.Name x p) (e::es) [] pos) (dFn F tr):=
 (ZNw FF hr hg hm hk hb .nil hx ha hdb (O7 e es X.env he) (Py pos X.env es hpl)).mono λσ H Q h=>by obtain⟨a,S,G,hk,rfl,s,r,h⟩:=ZDn h;refine⟨a,S,G,hk,rfl,s,r,h.imp ?_⟩;rintro vs _ ⟨b,G1,ds,hk,rfl,s1,q,h1⟩;exact⟨b,G1,ds,hk,rfl,s1,by rw[jX];exact q,h1⟩
theorem Ak(hr:IxR X (lR2 X.K E f))(ha:QE X E a ta)(hb:QE X E b tb)(hs:PlainIx b:=by intro _ _;rfl):QE X E (.Subscript a b pos) (dOp f ta tb):=
 (ZGp hr ha hb hs).mono λ_ _ _ h=>two h
end
noncomputable instance (i j:Int):Decidable (CMul i j):=by unfold CMul;infer_instance
noncomputable instance (i j:Int):Decidable (CPow i j):=by unfold CPow;infer_instance
def CDivL(j:Int):Prop:=0<j/\j.natAbs.log2<9000
noncomputable instance (j:Int):Decidable (CDivL j):=by unfold CDivL;infer_instance
noncomputable def Gb:D->D->DH->R D
 |.int i,.int j,G=>.ok (.int (i-j)) G
 |_,_,_=>.bad
noncomputable def Di:D->D->DH->R D
 |.int i,.int j,G=>if CDivL j then .ok (.int (i/j)) G else .bad
 |_,_,_=>.bad
noncomputable def Bo:D->D->DH->R D
 |.int i,.int j,G=>if 0<j then .ok (.int (i%j)) G else .bad
 |_,_,_=>.bad
noncomputable def Ka:D->D->DH->R D
 |.int i,.int j,G=>if CPow i j then .ok (.int (i^j.toNat)) G else .bad
 |_,_,_=>.bad
noncomputable def Hm:D->D->DH->R D
 |.int i,.int j,G=>.ok (.bl (decide (i<j))) G
 |.str i,.str j,G=>.ok (.bl (decide (i.cps.toList<j.cps.toList))) G
 |_,_,_=>.bad
noncomputable def Nz:D->D->DH->R D
 |.int i,.int j,G=>.ok (.bl (decide (i<=j))) G
 |.str i,.str j,G=>.ok (.bl (!decide (j.cps.toList<i.cps.toList))) G
 |_,_,_=>.bad
noncomputable def Iw:D->D->DH->R D
 |.int i,.int j,G=>.ok (.bl (decide (j<i))) G
 |.str i,.str j,G=>.ok (.bl (decide (j.cps.toList<i.cps.toList))) G
 |_,_,_=>.bad
noncomputable def opGe:D->D->DH->R D
 |.int i,.int j,G=>.ok (.bl (decide (j<=i))) G
 |.str i,.str j,G=>.ok (.bl (!decide (i.cps.toList<j.cps.toList))) G
 |_,_,_=>.bad
noncomputable def J6(d:D)(G:DH):Option (List D):=match d with
 |.fl xs=>vE xs
 |.ref i=>match G[i]? with
  |some (.lst xs)=>vE xs
  |_=>vF
 |_=>vF
def Ay:D->D->DH->R D
 |.int i,.int j,G=>.ok (.int (i+j)) G
 |.str i,.str j,G=>if i.length+j.length<=1000000 then .ok (.str (i++j)) G else .bad
 |.tup xs,.tup ys,G=>if xs≠[]/\xs.length+ys.length<=1000000 then .ok (.tup (xs++ys)) G else .bad
 |d,e,G=>match J6 d G,J6 e G with
  |some xs,vE ys=>if xs.length+ys.length<=1000000 then .ok (.ref G.length) (G++[.lst (xs++ys)])else .bad
  |_,_=>.bad
section
variable{X:Cx}{E:XK}
theorem Hn{f:xj->xj->Sem xj}{r:R2}{F:D->D->DH->R D}(ho:OpR X f r)
  (h:∀(a:Wd)(G:DH)(d e:D)(x y:V)(Q:VK),a.K=X.K->Sim a G->Rep a d x->Rep a e y->out E a (F d e G) Q->r x y a.H Q):OpR X f (lR2 X.K E F):=
 ho.mono λx y H Q ⟨a,G,d,e,hk,hH,s,rd,re,q⟩=>by subst hH;exact h a G d e x y Q hk s rd re q
theorem Ha:OpR X (xD .Sub) (lR2 X.K E Gb):=Hn ZKt λa G d e x y Q hk s rd re q=>by
 cases d<;>cases e<;>first
  |exact q.elim
  |exact⟨_,_,rd,re,q a _ (Ext.refl a) s rfl⟩
theorem ZLR:OpR X (xD .FloorDiv) (rI (λ_ j=>CDivL j) λi j=>.int (i/j)):=opI λi j _ _ _ _ _ hc q=>by have e:i.fdiv j=i/j:=Int.fdiv_eq_ediv_of_nonneg _ (Int.le_of_lt hc.1);refine floordiv_int (by have:=hc.1;lia) (by rw[e];exact q) (.inl (PyProof.noPylong_of_log2 hc.2))
theorem Dv:OpR X (xD .FloorDiv) (lR2 X.K E Di):=Hn ZLR λa G d e x y Q hk s rd re q=>by
 cases d<;>cases e<;>first
  |exact q.elim
  | (
    rename_i i j;unfold Di at q;dsimp only at q;split at q
    ·exact⟨_,_,rd,re,by assumption,q a _ (Ext.refl a) s rfl⟩
    ·exact q.elim)
theorem Bx:OpR X (xD .Mod) (lR2 X.K E Bo):=Hn ZQx λa G d e x y Q hk s rd re q=>by
 cases d<;>cases e<;>first
  |exact q.elim
  | (
    rename_i i j;unfold Bo at q;dsimp only at q;split at q
    ·exact⟨_,_,rd,re,by assumption,q a _ (Ext.refl a) s rfl⟩
    ·exact q.elim)
theorem O6:OpR X (xD .Pow) (lR2 X.K E Ka):=Hn ZLf λa G d e x y Q hk s rd re q=>by
 cases d<;>cases e<;>first
  |exact q.elim
  | (
    rename_i i j;unfold Ka at q;dsimp only at q;split at q
    ·exact⟨_,_,rd,re,by assumption,q a _ (Ext.refl a) s rfl⟩
    ·exact q.elim)
theorem Jd:OpR X (xI .Lt) (lR2 X.K E Hm):=Hn (ZOm.or ZMo) λa G d e x y Q hk s rd re q=>by
 cases d<;>cases e<;>first
  |exact q.elim
  |exact .inl ⟨_,_,rd,re,q a _ (Ext.refl a) s rfl⟩
  |exact .inr ⟨_,_,rd,re,q a _ (Ext.refl a) s rfl⟩
theorem ZMq:OpR X (xI .LtE) (λx y H Q=>∃i j,x=.str i/\y=.str j/\Q (.bl (!decide (j.cps.toList<i.cps.toList))) H):=by intro vD s σ H x y v u Q I rx ry h;obtain⟨i,j,rfl,rfl,q⟩:=h;obtain⟨t,rfl⟩:=rx;obtain⟨t',rfl⟩:=ry;exact PySem.P.le_str ⟨.bl _,H,I,rfl,q⟩
theorem ZRm:OpR X (xI .Gt) (λx y H Q=>∃i j,x=.str i/\y=.str j/\Q (.bl (decide (j.cps.toList<i.cps.toList))) H):=by intro vD s σ H x y v u Q I rx ry h;obtain⟨i,j,rfl,rfl,q⟩:=h;obtain⟨t,rfl⟩:=rx;obtain⟨t',rfl⟩:=ry;exact PySem.P.gt_str ⟨.bl _,H,I,rfl,q⟩
theorem ZQw:OpR X (xI .GtE) (λx y H Q=>∃i j,x=.str i/\y=.str j/\Q (.bl (!decide (i.cps.toList<j.cps.toList))) H):=by intro vD s σ H x y v u Q I rx ry h;obtain⟨i,j,rfl,rfl,q⟩:=h;obtain⟨t,rfl⟩:=rx;obtain⟨t',rfl⟩:=ry;exact PySem.P.ge_str ⟨.bl _,H,I,rfl,q⟩
theorem Z6:OpR X (xI .LtE) (lR2 X.K E Nz):=Hn (ZQQ.or ZMq) λa G d e x y Q hk s rd re q=>by
 cases d<;>cases e<;>first
  |exact q.elim
  |exact .inl ⟨_,_,rd,re,q a _ (Ext.refl a) s rfl⟩
  |exact .inr ⟨_,_,rd,re,q a _ (Ext.refl a) s rfl⟩
theorem Kr:OpR X (xI .Gt) (lR2 X.K E Iw):=Hn (ZP0.or ZRm) λa G d e x y Q hk s rd re q=>by
 cases d<;>cases e<;>first
  |exact q.elim
  |exact .inl ⟨_,_,rd,re,q a _ (Ext.refl a) s rfl⟩
  |exact .inr ⟨_,_,rd,re,q a _ (Ext.refl a) s rfl⟩
theorem o_ge:OpR X (xI .GtE) (lR2 X.K E opGe):=Hn (ZQj.or ZQw) λa G d e x y Q hk s rd re q=>by
 cases d<;>cases e<;>first
  |exact q.elim
  |exact .inl ⟨_,_,rd,re,q a _ (Ext.refl a) s rfl⟩
  |exact .inr ⟨_,_,rd,re,q a _ (Ext.refl a) s rfl⟩
theorem Sim.lst(s:Sim a G)(h:G[i]?=vE (.lst xs)):∃vs,a.H (a.m i)=vE (.lst vs)/\Reps a xs vs:=s.obj i _ h
theorem Mt(s:Sim a G)(r:Reps a ds vs)(h:out E a (.ok (.ref G.length) (G++[.lst ds])) Q)(p:xZ)(hp:a.H p=vF):Q (.ref p) (upd a.H p (.lst vs)):=by
 refine h (a.push p (.lst vs)) (.ref p) (Ext.push hp) (s.push hp ⟨vs,rfl,r.mono (Ext.push hp)⟩) ⟨?_,?_⟩
 ·rw[s.len];exact zU _
 ·rw[s.len];show V.ref p=.ref (if a.n=a.n then p else a.m a.n);rw[if_pos rfl]
theorem ZDF(s:Sim a G)(r:Reps a ds vs)(h:out E a (.ok (.tup ds) G) Q)(p:xZ)(hp:a.H p=vF):Q (.ref p) (upd a.H p (.tup vs)):=
 h (a.put p (.tup vs)) (.ref p) (Ext.put hp) (s.put hp) ⟨p,vs,rfl,.of Gk,r.mono (Ext.put hp)⟩
theorem Uj{x:V}(s:Sim a G)(r:Rep a d x)(h:J6 d G=vE xs):∃p vs,x=.ref p/\SqL a.K a.H p vs/\Reps a xs vs:=by
 cases d with
 |fl ys=>
  have e:ys=xs:=Option.some.inj h;subst e;obtain⟨p,vs,e,q,rr⟩:=r;exact⟨p,vs,e,q.sq,rr⟩
 |ref i=>
  unfold J6 at h;dsimp only at h;split at h
  ·rename_i ys hi;have e:ys=xs:=Option.some.inj h;subst e;obtain⟨vs,e1,r1⟩:=s.lst hi;exact⟨a.m i,vs,r.2,.of e1,r1⟩
  ·cases h
 |_=>cases h
def ZH1(K:PySem.W.Frag):R2:=λx y H Q=>∃l b xs zs,x=.ref l/\y=.ref b/\SqL K H l xs/\SqL K H b zs/\xs.length+zs.length<=sizeLine/\∀p,H p=vF->Q (.ref p) (upd H p (.lst (xs++zs)))
theorem ZPh:OpR X (xD .Add) (ZH1 X.K):=by
 intro vD s σ H x y v u Q I rx ry h;obtain⟨l,b,xs,zs,rfl,rfl,hH,hB,hz,q⟩:=h;cases rx;cases ry;obtain⟨its,r,p1,_⟩:=I.list hH;obtain⟨its2,r2,p2,_⟩:=I.list hB;obtain⟨⟨cls,dd,data,sl⟩,n,ho,hc,_,hd⟩:=p1;obtain⟨⟨cls2,dd2,data2,sl2⟩,n2,ho2,hc2,_,hd2⟩:=p2;cases hc;cases hd;cases hc2;cases hd2;have hl:=r.length;have hl2:=r2.length;refine concat_meets ⟨_,ho,rfl⟩ ⟨_,ho2,rfl⟩ noFill_list_add seq_list_add PySem.F.slot_list_add PySem.F.entry_list_add (PySem.F.args_list_add_2 _ _) (list_addW l b its.toArray its2.toArray n n2 dd dd2 sl sl2 (by rw[zY,zY];lia)) ⟨ho,ho2,?_⟩
 have ea:its.toArray++its2.toArray=(its++its2).toArray:=by simp
 rw[ea];exact⟨.ref _,_,I.lnew (t':=s.toks) (r.append r2) (by rw[qZ];lia),rfl,q _ I.fresh⟩
theorem Bc:OpR X (xD .Add) (lR2 X.K E Ay):=Hn (ZKp.or (ZQ2.or (ZPh.or ZOC))) λa G d e x y Q hk s rd re q=>by
 have lst:out E a (match J6 d G,J6 e G with
  |some xs,vE ys=>if xs.length+ys.length<=1000000 then .ok (.ref G.length) (G++[.lst (xs++ys)])else .bad
  |_,_=>.bad) Q->ZH1 X.K x y a.H Q:=λq=>by
  split at q
  ·rename_i xs ys h1 h2;split at q
   ·rename_i hl;obtain⟨p,vs,e1,q1,r1⟩:=Uj s rd h1;obtain⟨p',vs',e2,q2,r2⟩:=Uj s re h2;rw[hk]at q1 q2;exact⟨p,p',vs,vs',e1,e2,q1,q2,by rw[<-r1.length,<-r2.length];exact zB hl size6,λp hp=>Mt s (r1.append r2) q p hp⟩
   ·exact q.elim
  ·exact q.elim
 have L:=λq=>Or.inr (a:=rI0 (λi j=>V.int (i+j)) x y a.H Q) (Or.inr (a:=∃i j,x=.str i/\y=.str j/\i.length+j.length<=sizeLine/\Q (.str (i++j)) a.H) (Or.inl (b:=ZGV X.K x y a.H Q) (lst q)))
 cases d<;>cases e<;>first
  |exact .inl ⟨_,_,rd,re,q a _ (Ext.refl a) s rfl⟩
  |exact L q
  |skip
 ·rename_i i j;unfold Ay at q;dsimp only at q;split at q
  ·rename_i hl;exact .inr (.inl ⟨_,_,rd,re,zB hl size6,q a _ (Ext.refl a) s rfl⟩)
  ·exact q.elim
 ·rename_i xs ys;unfold Ay at q;dsimp only at q;split at q
  ·rename_i hl;obtain⟨p,vs,e1,h1,r1⟩:=rd;obtain⟨p',vs',e2,h2,r2⟩:=re;rw[hk]at h1 h2;refine .inr (.inr (.inr ⟨p,p',vs,vs',e1,e2,h1,h2,λz=>hl.1 (qP (by rw[r1.length,z];rfl)),by rw[<-r1.length,<-r2.length];exact zB hl.2 size6,λz=>?_,λ_ p0 hp=>?_⟩))
   ·refine q a (.ref p) (Ext.refl a) s ⟨p,vs,rfl,by rw[hk];exact h1,?_⟩;have e3:ys=[]:=qP (by rw[r2.length,z];rfl);rw[e3,jX];exact r1
   ·exact ZDF s (r1.append r2) q p0 hp
  ·exact q.elim
inductive VD where
 |flat (v:V)
 |lst (xs:List D)
 |tup (xs:List D)
 |bad
noncomputable def view(G:DH):D->VD
 |.non=>.flat .non
 |.bl b=>.flat (.bl b)
 |.int i=>.flat (.int i)
 |.str x=>.flat (.str x)
 |.ty _=>.bad
 |.tup xs=>.tup xs
 |.fl xs=>.lst xs
 |.ref i=>match G[i]? with
  |some (.lst xs)=>.lst xs
  |_=>.bad
noncomputable def eqZ(f:D->D->Option Bool):List D->List D->Option Bool
 |x::xs,y::ys=>match f x y,eqZ f xs ys with
  |some a,vE b=>vE (a&&b)
  |_,_=>vF
 |_,_=>vE vG
def eqD:Nat->DH->D->D->Option Bool
 |0=>λ_ _ _=>vF
 | n+1=>λG d e=>match view G d,view G e with
  |.flat a,.flat b=>vE (eqV a b)
  |.lst xs,.lst ys=>if xs.length=ys.length then eqZ (eqD n G) xs ys else vE vH
  |.tup xs,.tup ys=>match eqZ (eqD n G) xs ys with
   |some b=>vE (b&&xs.length==ys.length)
   |none=>vF
  |.bad,_=>vF
  |_,.bad=>vF
  |_,_=>vE vH
theorem Xh{f:D->D->Option Bool}:∀{xs ys:List D}{k:Bool},eqZ f xs ys=vE k->∃e:Nat->Bool,(∀(j:Nat)(x y:D),xs[j]?=vE x->ys[j]?=vE y->f x y=vE (e j))/\k=(zZ (min xs.length ys.length)).all e
 | [],ys,k,h=>⟨λ_=>vG,λj x y e1 _=>by simp at e1,by
   have h':vE vG=vE k:=by cases ys<;>exact h
   cases h';simp⟩
 |x::xs,[],k,h=>⟨λ_=>vG,λj x y _ e1=>by simp at e1,by have h':vE vG=vE k:=h;cases h';simp⟩
 | x::xs,y::ys,k,h=>by
  unfold eqZ at h;split at h
  ·rename_i a b h1 h2;obtain⟨e,he,hk⟩:=Xh h2;have h':(a&&b)=k:=Option.some.inj h
   refine⟨λj=>match j with |0=>a|j+1=>e j,λj x' y' e1 e2=>?_,?_⟩
   ·cases j with
    |zero=>simp at e1 e2;subst e1;subst e2;exact h1
    |succ j=>exact he j x' y' (by simpa using e1) (by simpa using e2)
   ·rw[<-h',hk];have:min (x::xs).length (y::ys).length=min xs.length ys.length+1:=by simp only[zO];lia
    rw[this,qE,qB,List.all_map]
    rfl
  ·cases h
theorem ZAQ(s:Sim a G){x:V}(r:Rep a d x):match view G d with
  |.flat v=>x=v/\Ef v=vG
  |.lst xs=>∃p vs,x=.ref p/\SqL a.K a.H p vs/\Reps a xs vs
  |.tup xs=>∃p vs,x=.ref p/\SqT a.K a.H p vs/\Reps a xs vs
  |.bad=>True:=by
 cases d with
 |non=>exact⟨r,rfl⟩
 |bl b=>exact⟨r,rfl⟩
 |int b=>exact⟨r,rfl⟩
 |str b=>exact⟨r,rfl⟩
 |ty n=>trivial
 |tup xs=>
  obtain⟨p,vs,e,h,q⟩:=r;exact⟨p,vs,e,h,q⟩
 |fl xs=>
  obtain⟨p,vs,e,h,q⟩:=r;exact⟨p,vs,e,h.sq,q⟩
 | ref i=>
  unfold view;dsimp only;split
  ·rename_i v hv
   split at hv<;>cases hv
  ·rename_i xs hv;split at hv
   ·rename_i ys hi;cases hv;obtain⟨vs,e1,r1⟩:=s.lst hi;exact⟨a.m i,vs,r.2,.of e1,r1⟩
   ·cases hv
  ·rename_i xs hv
   split at hv<;>cases hv
  ·trivial
theorem ZPn{x:V}{u v:xj}(ry:RelV y u)(rx:RelV x v)(fy:Ef y=vG)(fx:Ef x=vG):SeqAt.RcAt A s u v (eqV y x):=by
 cases y with
 |non=>
  cases ry;cases x with
  |non=>cases rx;exact SeqAt.RcAt.none_none
  |bl b=>cases rx;exact SeqAt.RcAt.none_bool b
  |int b=>obtain⟨t,rfl⟩:=rx;exact SeqAt.RcAt.none_int b t
  |str b=>obtain⟨t,rfl⟩:=rx;exact SeqAt.RcAt.none_str b t
  |_=>exact absurd (show vH=vG from fx) zy
 |bl a=>
  cases ry;cases x with
  |non=>cases rx;exact SeqAt.RcAt.bool_none a
  |bl b=>cases rx;exact SeqAt.RcAt.bool_bool a b
  |int b=>obtain⟨t,rfl⟩:=rx;exact SeqAt.RcAt.bool_int a b t
  |str b=>obtain⟨t,rfl⟩:=rx;exact SeqAt.RcAt.bool_str a b t
  |_=>exact absurd (show vH=vG from fx) zy
 |int a=>
  obtain⟨t',rfl⟩:=ry;cases x with
  |non=>cases rx;exact SeqAt.RcAt.int_none a t'
  |bl b=>cases rx;exact SeqAt.RcAt.int_bool a t' b
  |int b=>obtain⟨t,rfl⟩:=rx;exact SeqAt.RcAt.int_int a t' b t
  |str b=>obtain⟨t,rfl⟩:=rx;exact SeqAt.RcAt.int_str a t' b t
  |_=>exact absurd (show vH=vG from fx) zy
 |str a=>
  obtain⟨t',rfl⟩:=ry;cases x with
  |non=>cases rx;exact SeqAt.RcAt.str_none a t'
  |bl b=>cases rx;exact SeqAt.RcAt.str_bool a t' b
  |int b=>obtain⟨t,rfl⟩:=rx;exact SeqAt.RcAt.str_int a t' b t
  |str b=>obtain⟨t,rfl⟩:=rx;exact SeqAt.RcAt.str_str a t' b t
  |_=>exact absurd (show vH=vG from fx) zy
 |_=>exact absurd (show vH=vG from fy) zy
theorem ZQy{x:V}{u v:xj}(ry:RelV y u)(rx:RelV x v)(fy:Ef y=vG)(fx:Ef x=vG):SeqAt.RcNeAt A s u v (!eqV y x):=by
 cases y with
 |non=>
  cases ry;cases x with
  |non=>cases rx;exact SeqAt.RcNeAt.none_none
  |bl b=>cases rx;exact SeqAt.RcNeAt.none_bool b
  |int b=>obtain⟨t,rfl⟩:=rx;exact SeqAt.RcNeAt.none_int b t
  |str b=>obtain⟨t,rfl⟩:=rx;exact SeqAt.RcNeAt.none_str b t
  |_=>exact absurd (show vH=vG from fx) zy
 |bl a=>
  cases ry;cases x with
  |non=>cases rx;exact SeqAt.RcNeAt.bool_none a
  |bl b=>cases rx;exact SeqAt.RcNeAt.bool_bool a b
  |int b=>obtain⟨t,rfl⟩:=rx;exact SeqAt.RcNeAt.bool_int a b t
  |str b=>obtain⟨t,rfl⟩:=rx;exact SeqAt.RcNeAt.bool_str a b t
  |_=>exact absurd (show vH=vG from fx) zy
 |int a=>
  obtain⟨t',rfl⟩:=ry;cases x with
  |non=>cases rx;exact SeqAt.RcNeAt.int_none a t'
  |bl b=>cases rx;exact SeqAt.RcNeAt.int_bool a t' b
  |int b=>obtain⟨t,rfl⟩:=rx;exact SeqAt.RcNeAt.int_int a t' b t
  |str b=>obtain⟨t,rfl⟩:=rx;exact SeqAt.RcNeAt.int_str a t' b t
  |_=>exact absurd (show vH=vG from fx) zy
 |str a=>
  obtain⟨t',rfl⟩:=ry;cases x with
  |non=>cases rx;exact SeqAt.RcNeAt.str_none a t'
  |bl b=>cases rx;exact SeqAt.RcNeAt.str_bool a t' b
  |int b=>obtain⟨t,rfl⟩:=rx;exact SeqAt.RcNeAt.str_int a t' b t
  |str b=>obtain⟨t,rfl⟩:=rx;exact SeqAt.RcNeAt.str_str a t' b t
  |_=>exact absurd (show vH=vG from fx) zy
 |_=>exact absurd (show vH=vG from fy) zy
end
section
variable{X:Cx}{E:XK}{vD:List (xZ×Obj)}{σ:St}{s:xq}
theorem ZOZ(v:V)(h:Ef v=vG):eqV v v=vG:=by cases v<;>first|rfl|exact absurd (show vH=vG from h) zy|(simp[eqV])
theorem ZJD(I:Inv X vD σ a.H s)(hk:a.K=X.K)(sm:Sim a G):∀(n:Nat){d e:D}{x:V}{k:Bool},Rep a d x->Rep a e x->eqD n G d e=vE k->k=vG
 |0,_,_,_,_,_,_,h=>by cases h
 | n+1,d,e,x,k,rd,re,h=>by
  have vd:=ZAQ sm rd;have ve:=ZAQ sm re;have items:∀{xs ys:List D}{vs:List V}{b:Bool},Reps a xs vs->Reps a ys vs->eqZ (eqD n G) xs ys=vE b->b=vG:=λ{xs ys vs b}r1 r2 hz=>by obtain⟨f,hf,hb⟩:=Xh hz;rw[hb,qK];intro j hj;have hj':j<min xs.length ys.length:=qW.mp hj;have h1:xs[j]?=vE (xs[j]'(by lia)):=zJ (by lia);have h2:ys[j]?=vE (ys[j]'(by lia)):=zJ (by lia);obtain⟨v1,e1,q1⟩:=r1.get h1;obtain⟨v2,e2,q2⟩:=r2.get h2;rw[e1]at e2;cases e2;exact ZJD I hk sm n q1 q2 (hf j _ _ h1 h2)
  unfold eqD at h
  try dsimp only at h
  revert h vd ve
  cases view G d<;>cases view G e<;>intro vd ve h<;>dsimp only at h vd ve<;>first
   |cases h
   |skip
  ·
   rename_i v w;obtain⟨rfl,f1⟩:=vd;obtain⟨rfl,f2⟩:=ve;exact ZOZ _ f1
  ·obtain⟨rfl,f1⟩:=vd;obtain⟨p,vs,e1,_⟩:=ve;subst e1;cases f1
  ·obtain⟨rfl,f1⟩:=vd;obtain⟨p,vs,e1,_⟩:=ve;subst e1;cases f1
  ·obtain⟨rfl,f1⟩:=ve;obtain⟨p,vs,e1,_⟩:=vd;subst e1;cases f1
  ·obtain⟨p,vs,e1,h1,r1⟩:=vd;obtain⟨p',vs',e2,h2,r2⟩:=ve;rw[e1]at e2;cases e2;rw[hk]at h1 h2;cases I.ZCl h1 h2;split at h
   ·exact items r1 r2 h
   ·rename_i hl;exact absurd (r1.length.trans r2.length.symm) hl
  ·obtain⟨p,vs,e1,h1,r1⟩:=vd;obtain⟨p',vs',e2,h2,r2⟩:=ve;rw[e1]at e2;cases e2;rw[hk]at h1 h2;obtain⟨_,_,pl,_⟩:=I.list h1;obtain⟨_,_,pt,_⟩:=I.tuple h2;exact absurd rfl (SeqAt.ne_of_list_tuple pl.isList pt)
  ·obtain⟨rfl,f1⟩:=ve;obtain⟨p,vs,e1,_⟩:=vd;subst e1;cases f1
  ·obtain⟨p,vs,e1,h1,r1⟩:=vd;obtain⟨p',vs',e2,h2,r2⟩:=ve;rw[e1]at e2;cases e2;rw[hk]at h1 h2;obtain⟨_,_,pl,_⟩:=I.list h2;obtain⟨_,_,pt,_⟩:=I.tuple h1;exact absurd rfl (SeqAt.ne_of_list_tuple pl.isList pt)
  ·obtain⟨p,vs,e1,h1,r1⟩:=vd;obtain⟨p',vs',e2,h2,r2⟩:=ve;rw[e1]at e2;cases e2;rw[hk]at h1 h2;cases I.ZDI h1 h2;split at h
   ·rename_i b hz;have h':(b&&_)=k:=Option.some.inj h;rw[<-h',items r1 r2 hz,r1.length,r2.length];simp
   ·cases h
theorem ZAW{its:List xj}(r:Reps a xs vs)(q:Vals vs its)(h:j<its.toArray.size):∃d v,xs[j]?=vE d/\Rep a d v/\RelV v its.toArray[j]:=by
 have hl:j<its.length:=by simpa using h
 have h2:j<vs.length:=by rw[q.length];exact hl
 obtain⟨v,e1⟩:∃v,vs[j]?=vE v:=⟨vs[j],zJ h2⟩;obtain⟨d,e2,rd⟩:=r.get' e1;obtain⟨u,e3,ru⟩:=q.get e1;have e4:u=its.toArray[j]:=by have:its[j]?=vE its[j]:=zJ hl;rw[this]at e3;simpa using(Option.some.inj e3).symm
 exact⟨d,v,e2,rd,by rw[<-e4];exact ru⟩
theorem Z0(I:Inv X vD σ a.H s)(hk:a.K=X.K)(sm:Sim a G):∀(n:Nat){A:xJ}{d e:D}{x y:V}{u w:xj}{k:Bool},A.units+n<cLine->Rep a d x->Rep a e y->RelV x u->RelV y w->eqD n G d e=vE k->
  SeqAt.EqAt A s u w k/\SeqAt.RcAt A s u w k/\SeqAt.RcNeAt A s u w (!k)
 |0,_,_,_,_,_,_,_,_,_,_,_,_,_,h=>by cases h
 | n + 1,A,d,e,x,y,u,w,k,hu,rd,re,ru,rw',h=>by
  have vd:=ZAQ sm rd;have ve:=ZAQ sm re;have hu1:A.units<cLine:=by lia
  have hu2:A.in1.units+n<cLine:=by show A.units+1+n<cLine;lia
  have same:∀{z:V},Rep a d z->Rep a e z->eqD (n+1) G d e=vE k->k=vG:=λr1 r2 r3=>ZJD I hk sm (n+1) r1 r2 r3
  have h0:=h;unfold eqD at h
  try dsimp only at h
  have refs:∀{p q:xZ}{k:Bool},(p=q->k=vG)->SeqAt.RcAt A s (.ref p) (.ref q) k->SeqAt.EqAt A s (.ref p) (.ref q) k:=λ{p q k}hs hr=>by
   by_cases e:p=q
   ·rw[hs e,e];exact SeqAt.EqAt.same _
   ·exact SeqAt.EqAt.of_refs e hr
  revert h vd ve
  cases hvd:view G d<;>cases hve:view G e<;>intro vd ve h<;>dsimp only at h vd ve<;>first
   |cases h
   |skip
  ·
   obtain⟨rfl,f1⟩:=vd;obtain⟨rfl,f2⟩:=ve;exact⟨ZIJ ru rw' f1 f2,ZPn ru rw' f1 f2,ZQy ru rw' f1 f2⟩
  ·
   obtain⟨rfl,f1⟩:=vd;obtain⟨q,vs,rfl,h2,r2⟩:=ve;cases rw';rw[hk]at h2;obtain⟨its,qv,pl,_⟩:=I.list h2;cases x with
   |non=>cases ru;exact⟨SeqAt.EqAt.none_list pl.isList hu1,SeqAt.RcAt.none_list pl.isList hu1,SeqAt.RcNeAt.none_list pl.isList hu1⟩
   |bl b=>cases ru;exact⟨SeqAt.EqAt.bool_list b pl.isList hu1,SeqAt.RcAt.bool_list b pl.isList hu1,SeqAt.RcNeAt.bool_list b pl.isList hu1⟩
   |int b=>obtain⟨t,rfl⟩:=ru;exact⟨SeqAt.EqAt.int_list b t pl.isList hu1,SeqAt.RcAt.int_list b t pl.isList hu1,SeqAt.RcNeAt.int_list b t pl.isList hu1⟩
   |str b=>obtain⟨t,rfl⟩:=ru;exact⟨SeqAt.EqAt.str_list b t pl.isList hu1,SeqAt.RcAt.str_list b t pl.isList hu1,SeqAt.RcNeAt.str_list b t pl.isList hu1⟩
   |_=>exact absurd (show vH=vG from f1) zy
  ·
   obtain⟨rfl,f1⟩:=vd;obtain⟨q,vs,rfl,h2,r2⟩:=ve;cases rw';rw[hk]at h2;obtain⟨its,qv,pl,_⟩:=I.tuple h2;cases x with
   |non=>cases ru;exact⟨SeqAt.EqAt.none_tuple pl hu1,SeqAt.RcAt.none_tuple pl hu1,SeqAt.RcNeAt.none_tuple pl hu1⟩
   |bl b=>cases ru;exact⟨SeqAt.EqAt.bool_tuple b pl hu1,SeqAt.RcAt.bool_tuple b pl hu1,SeqAt.RcNeAt.bool_tuple b pl hu1⟩
   |int b=>obtain⟨t,rfl⟩:=ru;exact⟨SeqAt.EqAt.int_tuple b t pl hu1,SeqAt.RcAt.int_tuple b t pl hu1,SeqAt.RcNeAt.int_tuple b t pl hu1⟩
   |str b=>obtain⟨t,rfl⟩:=ru;exact⟨SeqAt.EqAt.str_tuple b t pl hu1,SeqAt.RcAt.str_tuple b t pl hu1,SeqAt.RcNeAt.str_tuple b t pl hu1⟩
   |_=>exact absurd (show vH=vG from f1) zy
  ·
   obtain⟨rfl,f1⟩:=ve;obtain⟨q,vs,rfl,h2,r2⟩:=vd;cases ru;rw[hk]at h2;obtain⟨its,qv,pl,_⟩:=I.list h2;cases y with
   |non=>cases rw';exact⟨SeqAt.EqAt.list_none pl.isList hu1,SeqAt.RcAt.list_none pl.isList hu1,SeqAt.RcNeAt.list_none pl.isList hu1⟩
   |bl b=>cases rw';exact⟨SeqAt.EqAt.list_bool b pl.isList hu1,SeqAt.RcAt.list_bool b pl.isList hu1,SeqAt.RcNeAt.list_bool b pl.isList hu1⟩
   |int b=>obtain⟨t,rfl⟩:=rw';exact⟨SeqAt.EqAt.list_int b t pl.isList hu1,SeqAt.RcAt.list_int b t pl.isList hu1,SeqAt.RcNeAt.list_int b t pl.isList hu1⟩
   |str b=>obtain⟨t,rfl⟩:=rw';exact⟨SeqAt.EqAt.list_str b t pl.isList hu1,SeqAt.RcAt.list_str b t pl.isList hu1,SeqAt.RcNeAt.list_str b t pl.isList hu1⟩
   |_=>exact absurd (show vH=vG from f1) zy
  ·
   obtain⟨p,vs,rfl,h1,r1⟩:=vd;obtain⟨q,vs',rfl,h2,r2⟩:=ve;cases ru;cases rw';rw[hk]at h1 h2;obtain⟨its,q1,p1,_⟩:=I.list h1;obtain⟨its',q2,p2,_⟩:=I.list h2;have sz1:its.toArray.size=vs.length:=by rw[zY];exact q1.length.symm
   have sz2:its'.toArray.size=vs'.length:=by rw[zY];exact q2.length.symm
   split at h
   ·rename_i hl;obtain⟨f,hf,hb⟩:=Xh h;have hsz:its.toArray.size=its'.toArray.size:=by rw[sz1,sz2,<-r1.length,<-r2.length];exact hl
    have he:∀j(g1:j<its.toArray.size)(g2:j<its'.toArray.size),SeqAt.EqAt A.in1 s its.toArray[j] its'.toArray[j] (f j):=λj g1 g2=>by obtain⟨d1,v1,e1,rd1,rv1⟩:=ZAW r1 q1 g1;obtain⟨d2,v2,e2,rd2,rv2⟩:=ZAW r2 q2 g2;exact(Z0 I hk sm n hu2 rd1 rd2 rv1 rv2 (hf j d1 d2 e1 e2)).1
    have hk':k=(zZ its.toArray.size).all f:=by
     rw[hb]
     congr 2
     rw[sz1,<-r1.length,hl];lia
    have rc:SeqAt.RcAt A s (.ref p) (.ref q) k:=by rw[hk'];exact SeqAt.RcAt.lists p1.isList p2.isList hsz hu1 he
    refine⟨refs (λe=>?_) rc,rc,by rw[hk'];exact SeqAt.RcNeAt.lists p1.isList p2.isList hsz hu1 he⟩;subst e;exact same rd re h0
   ·rename_i hl;have h':vH=k:=Option.some.inj h;subst h';have hsz:(its.toArray.size != its'.toArray.size)=vG:=by rw[bne_iff_ne,sz1,sz2,<-r1.length,<-r2.length];exact hl
    refine⟨refs (λe=>?_) (SeqAt.RcAt.lists_lengths p1.isList p2.isList hsz hu1),SeqAt.RcAt.lists_lengths p1.isList p2.isList hsz hu1,SeqAt.RcNeAt.lists_lengths p1.isList p2.isList hsz hu1⟩;subst e;exact same rd re h0
  ·
   obtain⟨p,vs,rfl,h1,r1⟩:=vd;obtain⟨q,vs',rfl,h2,r2⟩:=ve;cases ru;cases rw';rw[hk]at h1 h2;obtain⟨its,q1,p1,_⟩:=I.list h1;obtain⟨its',q2,p2,_⟩:=I.tuple h2;exact⟨SeqAt.EqAt.list_tuple p1.isList p2 hu1,SeqAt.RcAt.list_tuple p1.isList p2 hu1,SeqAt.RcNeAt.list_tuple p1.isList p2 hu1⟩
  ·
   obtain⟨rfl,f1⟩:=ve;obtain⟨q,vs,rfl,h2,r2⟩:=vd;cases ru;rw[hk]at h2;obtain⟨its,qv,pl,_⟩:=I.tuple h2;cases y with
   |non=>cases rw';exact⟨SeqAt.EqAt.tuple_none pl hu1,SeqAt.RcAt.tuple_none pl hu1,SeqAt.RcNeAt.tuple_none pl hu1⟩
   |bl b=>cases rw';exact⟨SeqAt.EqAt.tuple_bool b pl hu1,SeqAt.RcAt.tuple_bool b pl hu1,SeqAt.RcNeAt.tuple_bool b pl hu1⟩
   |int b=>obtain⟨t,rfl⟩:=rw';exact⟨SeqAt.EqAt.tuple_int b t pl hu1,SeqAt.RcAt.tuple_int b t pl hu1,SeqAt.RcNeAt.tuple_int b t pl hu1⟩
   |str b=>obtain⟨t,rfl⟩:=rw';exact⟨SeqAt.EqAt.tuple_str b t pl hu1,SeqAt.RcAt.tuple_str b t pl hu1,SeqAt.RcNeAt.tuple_str b t pl hu1⟩
   |_=>exact absurd (show vH=vG from f1) zy
  ·
   obtain⟨p,vs,rfl,h1,r1⟩:=vd;obtain⟨q,vs',rfl,h2,r2⟩:=ve;cases ru;cases rw';rw[hk]at h1 h2;obtain⟨its,q1,p1,_⟩:=I.tuple h1;obtain⟨its',q2,p2,_⟩:=I.list h2;exact⟨SeqAt.EqAt.tuple_list p1 p2.isList hu1,SeqAt.RcAt.tuple_list p1 p2.isList hu1,SeqAt.RcNeAt.tuple_list p1 p2.isList hu1⟩
  ·
   rename_i xs ys;obtain⟨p,vs,rfl,h1,r1⟩:=vd;obtain⟨q,vs',rfl,h2,r2⟩:=ve;cases ru;cases rw';rw[hk]at h1 h2;obtain⟨its,q1,p1,_⟩:=I.tuple h1;obtain⟨its',q2,p2,_⟩:=I.tuple h2;have sz1:its.toArray.size=xs.length:=by rw[zY,r1.length];exact q1.length.symm
   have sz2:its'.toArray.size=ys.length:=by rw[zY,r2.length];exact q2.length.symm
   split at h
   ·rename_i b hz;have h':(b&&xs.length==ys.length)=k:=Option.some.inj h;obtain⟨f,hf,hb⟩:=Xh hz;have he:∀j(g1:j<its.toArray.size)(g2:j<its'.toArray.size),SeqAt.EqAt A.in1 s its.toArray[j] its'.toArray[j] (f j):=λj g1 g2=>by obtain⟨d1,v1,e1,rd1,rv1⟩:=ZAW r1 q1 g1;obtain⟨d2,v2,e2,rd2,rv2⟩:=ZAW r2 q2 g2;exact(Z0 I hk sm n hu2 rd1 rd2 rv1 rv2 (hf j d1 d2 e1 e2)).1
    have hk':k=((zZ (min its.toArray.size its'.toArray.size)).all f&&its.toArray.size==its'.toArray.size):=by rw[<-h',hb,sz1,sz2]
    have rc:SeqAt.RcAt A s (.ref p) (.ref q) k:=by rw[hk'];exact SeqAt.RcAt.tuples p1 p2 hu1 he
    refine⟨refs (λe=>?_) rc,rc,by rw[hk'];exact SeqAt.RcNeAt.tuples p1 p2 hu1 he⟩;subst e;exact same rd re h0
   ·cases h
def Cv(d e:D)(G:DH):R D:=match eqD 30 G d e with
 |some k=>.ok (.bl k) G
 |none=>.bad
def Hi(d e:D)(G:DH):R D:=match eqD 30 G d e with
 |some k=>.ok (.bl (!k)) G
 |none=>.bad
theorem Dq(hu:X.A.units+64<cLine):OpR X (xI .Eq) (lR2 X.K E Cv):=by
 intro vD s σ H x y v u Q I rx ry ⟨a,G,d,e,hk,hH,sm,rd,re,q⟩;subst hH;unfold Cv at q;split at q
 ·rename_i k hd;exact(Z0 I hk sm 30 (by lia) rd re rx ry hd).2.1 _ _ _ _ ⟨.bl k,a.H,I,rfl,q a _ (Ext.refl a) sm rfl⟩
 ·exact q.elim
theorem Ra(hu:X.A.units+64<cLine):OpR X (xI .NotEq) (lR2 X.K E Hi):=by
 intro vD s σ H x y v u Q I rx ry ⟨a,G,d,e,hk,hH,sm,rd,re,q⟩;subst hH;unfold Hi at q;split at q
 ·rename_i k hd;exact(Z0 I hk sm 30 (by lia) rd re rx ry hd).2.2 _ _ _ _ ⟨.bl (!k),a.H,I,rfl,q a _ (Ext.refl a) sm rfl⟩
 ·exact q.elim
end
noncomputable abbrev DG:=D->DSt->DH->R DSt
variable{g:DG}
def Gx(E:XK)(a:Wd)(r:R DSt)(Q:St->Hp->Prop):Prop:=match r with
 |.ok S G=>∀(b:Wd)(σ:St),Ext a b->Sim b G->RepS b S σ->Q σ b.H
 |.err x G=>XOk E a x G
 |.bad=>False
def lG(K:PySem.W.Frag)(E:XK)(t:DG):TG:=λv σ H Q=>∃(a:Wd)(S:DSt)(G:DH)(d:D),a.K=K/\a.H=H/\Sim a G/\RepS a S σ/\Rep a d v/\Gx E a (t d S G) Q
def QG(X:Cx)(E:XK)(tg:xX)(t:DG):Prop:=PG X tg (lG X.K E t)
noncomputable abbrev DGs:=List D->DSt->DH->R DSt
def lGs(K:PySem.W.Frag)(E:XK)(t:DGs):TGs:=λvs σ H Q=>∃(a:Wd)(S:DSt)(G:DH)(ds:List D),a.K=K/\a.H=H/\Sim a G/\RepS a S σ/\Reps a ds vs/\Gx E a (t ds S G) Q
def QGs(X:Cx)(E:XK)(tg:List xX)(t:DGs):Prop:=PGs X tg (lGs X.K E t)
noncomputable def gV(i:Nat):DG:=λd S G=>.ok (S.set i (vE d)) G
noncomputable def Bj:DGs:=λds S G=>match ds with
 |[]=>.ok S G
 |_=>.bad
def Am(t:DG)(u:DGs):DGs:=λds S G=>match ds with
 |d::r=>(t d S G).bind λS1 G1=>u r S1 G1
 |[]=>.bad
noncomputable def Bg(n:Nat)(t:DGs):DG:=λd S G=>match d with
 |.tup ds=>if ds.length=n then t ds S G else .bad
 |_=>.bad
theorem Gx.imp{r:R DSt}{Q Q':St->Hp->Prop}(h:Gx E a r Q)(w:∀v H,Q v H->Q' v H):Gx E a r Q':=by
 cases r with
 |ok d G=>exact λb v x s q=>w _ _ (h b v x s q)
 |err e G=>exact h
 |bad=>exact h
theorem Gx.mono(x:Ext a b){r:R DSt}{Q:St->Hp->Prop}(h:Gx E a r Q):Gx E b r Q:=by
 cases r with
 |ok d G=>exact λc v y s q=>h c v (x.trans y) s q
 |err e G=>exact XOk.mono (E:=E) (e:=e) (G:=G) x h
 |bad=>exact h
theorem ZQ7{r:R DSt}{f:DSt->DH->R DSt}{Q:St->Hp->Prop}(h:Gx E a (r.bind f) Q):
  Gx E a r (λσ H=>∃(b:Wd)(S:DSt)(G:DH),b.H=H/\Ext a b/\Sim b G/\RepS b S σ/\r=.ok S G/\Gx E b (f S G) Q):=by
 cases r with
 |ok d G=>exact λb v x s q=>⟨b,d,G,rfl,x,s,q,rfl,Gx.mono x h⟩
 |err e G=>exact h
 |bad=>exact h
theorem ZEv{f:D->DH->R DSt}{Q:St->Hp->Prop}(h:Gx E a (r.bind f) Q):
  out E a r (λv H=>∃(b:Wd)(d:D)(G:DH),b.H=H/\Ext a b/\Sim b G/\Rep b d v/\r=.ok d G/\Gx E b (f d G) Q):=by
 cases r with
 |ok d G=>exact λb v x s q=>⟨b,d,G,rfl,x,s,q,rfl,Gx.mono x h⟩
 |err e G=>exact h
 |bad=>exact h
theorem ZGR{r:R DSt}{f:DSt->DH->SR}(h:Dh E a (r.toS f) W):
  Gx E a r (λσ H=>∃(b:Wd)(S:DSt)(G:DH),b.H=H/\Ext a b/\Sim b G/\RepS b S σ/\r=.ok S G/\Dh E b (f S G) W):=by
 cases r with
 |ok d G=>exact λb v x s q=>⟨b,d,G,rfl,x,s,q,rfl,Dh.mono x h⟩
 |err e G=>exact h
 |bad=>exact h
section
variable{X:Cx}{E:XK}
theorem _root_.L2.PG.mono{t t':TG}(h:PG X e t)(w:∀v σ H Q,t' v σ H Q->t v σ H Q):PG X e t':=λvD s σ H v u Q I r q=>h vD s σ H v u Q I r (w v σ H Q q)
theorem _root_.L2.PGs.mono{e:List xX}{t t':TGs}(h:PGs X e t)(w:∀v σ H Q,t' v σ H Q->t v σ H Q):PGs X e t':=λvD s σ H v u Q I r q=>h vD s σ H v u Q I r (w v σ H Q q)
theorem Aq(i:Nat){pos:Pos}(hN:X.N.Nodup)(hi:X.N[i]?=vE x:=by rfl)(hx:Loc X.env.scope x:=by first|exact Or.inl rfl|exact Or.inr rfl)
  (hf:X.fn x=vG∨X.env.scope.names.lookup x=vE .local:=by first|exact .inl rfl|exact .inr rfl|assumption):QG X E (.Name x pos) (gV i):=
 (ZQG hN hi hx hf).mono λv σ H Q h=>by obtain⟨a,S,G,d,hk,rfl,s,r,q,h⟩:=h;exact h a _ (Ext.refl a) s (r.set i q)
theorem Em:QGs X E [] Bj:=ZOx.mono λvs σ H Q h=>by
 obtain⟨a,S,G,ds,hk,rfl,s,r,q,h⟩:=h;cases ds with
 |nil=>exact⟨q,h a σ (Ext.refl a) s r⟩
 |cons d ds=>exact h.elim
theorem Bh{es:List xX}{t:DG}{u:DGs}(h1:QG X E e t)(h2:QGs X E es u)
  (hs:(xk (e::es) X.env).map (·.2)=assign e X.env::(xk es X.env).map (·.2):=by rfl):QGs X E (e::es) (Am t u):=(ZRj h1 h2 hs).mono λvs σ H Q h=>by
 obtain⟨a,S,G,ds,hk,rfl,s,r,q,h⟩:=h;cases ds with
 |nil=>exact h.elim
 |cons d ds=>
  obtain⟨v,rest,e1,q1,q2⟩:=q;refine⟨v,rest,e1,a,S,G,d,hk,rfl,s,r,q1,(ZQ7 h).imp ?_⟩;rintro σ' _ ⟨b,S1,G1,rfl,x,s1,r1,_,h1⟩;exact⟨b,S1,G1,ds,x.k.trans hk,rfl,s1,r1,q2.mono x,h1⟩
theorem Eo{es:List xX}{k:Nat}{t:DGs}{n:Nat}{pos:Pos}(hc:X.calm=vG)(h:QGs X E es t)
  (hn:(xk es X.env).length=n:=by rfl) (hst:(xk es X.env).findIdx? (·.1)=vF:=by rfl):QG X E (.Tuple es k pos) (Bg n t):=(ZO8 hc h hn hst).mono λv σ H Q h=>by
 obtain⟨a,S,G,d,hk,rfl,s,r,q,h⟩:=h;cases d with
 |tup ds=>
  obtain⟨p,vs,e,h1,r1⟩:=q;unfold Bg at h;dsimp only at h;split at h
  ·rename_i hl;exact⟨p,vs,e,by rw[<-hk];exact h1,by rw[<-r1.length];exact hl,a,S,G,ds,hk,rfl,s,r,r1,h⟩
  ·exact h.elim
 |_=>exact h.elim
def Ql(o i v:D)(G:DH):R D:=match o,i with
 | .ref p,.int k=>match G[p]? with
  |some (.lst xs)=>match ixN xs.length k with
   |some j=>.ok .non (G.set p (.lst (xs.set j v)))
   |none=>.bad
  |_=>.bad
 |_,_=>.bad
def gIx(to ti:DE):DG:=λv S G=>(to S G).bind λo G1=>(ti S G1).bind λi G2=>(Ql o i v G2).bind λ_ G3=>.ok S G3
theorem ZCc{vs':List V}{ds':List D}(s:Sim a G)(hi:i<a.n)(h:a.H (a.m i)=vE (.lst vs))(r:Reps a ds' vs'):
  Ext a (a.put (a.m i) (.lst vs'))/\Sim (a.put (a.m i) (.lst vs')) (G.set i (.lst ds')):=⟨Ext.wr h,s.wr hi h (r.mono (Ext.wr h))⟩
theorem Xy{o i:xX}{to ti:DE}{pos:Pos}(ho:QE X E o to)(hi:QE X E i ti)
  (ha:∀v,assign (.Subscript o i pos) X.env v=(do
   let ov<-holding [v] (eval o X.env);let iv<-holding [v,ov] (eval i X.env)
   standAt pos
   holding [v,ov,iv] (setItem ov iv v)
   release [v,ov,iv] []):=by intro _;rfl):QG X E (.Subscript o i pos) (gIx to ti):=(ZQ9 ho hi set_list ha).mono λv σ H Q h=>by
 obtain⟨a,S,G,d,hk,rfl,s,r,q,h⟩:=h;refine⟨a,S,G,hk,rfl,s,r,(ZEv h).imp ?_⟩;rintro ov _ ⟨b,e,G1,rfl,x,s1,q1,_,h1⟩;refine⟨b,S,G1,x.k.trans hk,rfl,s1,r.mono x,(ZEv h1).imp ?_⟩;rintro iv _ ⟨c,f,G2,rfl,y,s2,q2,_,h2⟩;cases e with
 | ref p=>
  cases f with
  | int k=>
   unfold Ql at h2;dsimp only at h2;split at h2
   ·rename_i xs hx;split at h2
    ·rename_i j hj;obtain⟨vs,e1,r1⟩:=s2.lst hx;have q1':=q1.mono y;have rv:=(q.mono x).mono y;obtain⟨x3,s3⟩:=ZCc s2 q1'.1 e1 (r1.set rv j);refine⟨c.m p,vs,k,j,q1'.2,q2,e1,by rw[<-r1.length];exact hj,?_⟩;exact h2 _ σ x3 s3 (((r.mono x).mono y).mono x3)
    ·exact h2.elim
   ·exact h2.elim
  |_=>exact h2.elim
 |_=>exact h2.elim
variable{st:xz}{rest:List xz}{t u:DS}{e:xX}{te:DE}{pos:Pos}
noncomputable def sNx:DS:=λS G=>.nx S G
noncomputable def Ah(t u:DS):DS:=λS G=>match t S G with
 |.nx S1 G1=>u S1 G1
 |r=>r
def sEx(te:DE):DS:=λS G=>(te S G).toS λ_ G1=>.nx S G1
def sRt(te:DE):DS:=λS G=>(te S G).toS λd G1=>.rt d G1
def sIf(c:DB)(t u:DS):DS:=λS G=>(c S G).toS λk G1=>if k=vG then t S G1 else u S G1
def sAs(te:DE)(g:DG):DS:=λS G=>(te S G).toS λd G1=>(g d S G1).toS λS2 G2=>.nx S2 G2
def sAu(i:Nat)(te:DE)(f:D->D->DH->R D):DS:=λS G=>match S[i]? with
 |some (vE x)=>(te S G).toS λy G1=>(f x y G1).toS λz G2=>.nx (S.set i (vE z)) G2
 |_=>.bad
theorem Ci:QSs X E [] sNx:=ZOJ.mono λW σ H h=>by obtain⟨a,S,G,hk,rfl,s,r,h⟩:=h;exact h a σ (Ext.refl a) s r
theorem Dh.nxOf{t:DS}(hk:a.K=K)(h:Dh E a (Ah t u S G) W):Dh E a (t S G) {W with nx:=lS K E u W}:=by
 unfold Ah at h
 revert h
 cases t S G<;>intro h
 ·exact λb σ x s r=>⟨b,_,_,x.k.trans hk,rfl,s,r,Dh.mono x h⟩
 all_goals exact h
theorem Ai(h1:QS X E st t)(h2:QSs X E rest u):QSs X E (st::rest) (Ah t u):=(ZLb h1 h2).mono λW σ H h=>by obtain⟨a,S,G,hk,rfl,s,r,h⟩:=h;exact⟨a,S,G,hk,rfl,s,r,h.nxOf hk⟩
theorem An(h1:QS X E st t):QSs X E [st] t:=ZK5 h1
theorem Es(he:QE X E e te)(hs:swapsWith e vF pos.line X.env=pure vH:=by rfl):QS X E (.Expr e pos) (sEx te):=(ZLn he hs).mono λW σ H h=>by obtain⟨a,S,G,hk,rfl,s,r,h⟩:=h;refine⟨a,S,G,hk,rfl,s,r,(J0 h).imp ?_⟩;rintro v _ ⟨b,d,G1,rfl,x,s1,q,_,h1⟩;exact h1 b σ (Ext.refl b) s1 (r.mono x)
theorem Bl(he:QE X E e te):QS X E (.Return (vE e) pos) (sRt te):=(ZTC he).mono λW σ H h=>by obtain⟨a,S,G,hk,rfl,s,r,h⟩:=h;refine⟨a,S,G,hk,rfl,s,r,(J0 h).imp ?_⟩;rintro v _ ⟨b,d,G1,rfl,x,s1,q,_,h1⟩;exact h1 b v (Ext.refl b) s1 q
theorem Bw{c:xX}{tc:DB}{a b:List xz}(hc:QT X E c tc)(ha:QSs X E a t)(hb:QSs X E b u):QS X E (.If c a b pos) (sIf tc t u):=(ZMf hc ha hb).mono λW σ H h=>by
 obtain⟨a,S,G,hk,rfl,s,r,h⟩:=h;refine⟨a,S,G,hk,rfl,s,r,(ZHf h).imp ?_⟩;rintro k _ ⟨b,G1,rfl,x,s1,_,h1⟩;cases k with
 |true=>exact⟨b,S,G1,x.k.trans hk,rfl,s1,r.mono x,h1⟩
 |false=>exact⟨b,S,G1,x.k.trans hk,rfl,s1,r.mono x,h1⟩
theorem ZSO(h:lS K E (sAs te g) W σ H):ZAv (lE K E te) (lG K E g) W σ H:=by obtain⟨a,S,G,hk,rfl,s,r,h⟩:=h;refine⟨a,S,G,hk,rfl,s,r,(J0 h).imp ?_⟩;rintro v _ ⟨b,d,G1,rfl,x,s1,q,_,h1⟩;refine⟨b,S,G1,d,x.k.trans hk,rfl,s1,r.mono x,q,(ZGR h1).imp ?_⟩;rintro σ' _ ⟨c,S2,G2,rfl,y,s2,r2,_,h2⟩;exact h2 c σ' (Ext.refl c) s2 r2
theorem Hw(he:QE X E e te)(hg:QG X E tg g)(hs:swapsWithSole [tg] e pos.line X.env=pure vH:=by rfl)(hw:swappedStores [tg] e X.env=pure vF:=by rfl)
  (h1:(xk [tg] X.env).map (·.2)=[assign tg X.env]:=by rfl):QS X E (.Assign [tg] e pos) (sAs te g):=(ZQX he hg hs hw h1).mono λ_ _ _ h=>ZSO h
theorem Ao(i:Nat){pos':Pos}(hN:X.N.Nodup)(he:QE X E e te)(hi:X.N[i]?=vE x:=by rfl)(hx:Loc X.env.scope x:=by first|exact Or.inl rfl|exact Or.inr rfl)(hs:swapsWith e (vE (.Name x pos')) pos.line X.env=pure vH:=by rfl)
  (hf:X.fn x=vG∨X.env.scope.names.lookup x=vE .local:=by first|exact .inl rfl|exact .inr rfl|assumption):QS X E (.Assign [.Name x pos'] e pos) (sAs te (gV i)):=
 (ZLV hN hi hx he hs hf).mono λW σ H h=>by obtain⟨a,S,G,hk,rfl,s,r,h⟩:=h;refine⟨a,S,G,hk,rfl,s,r,(J0 h).imp ?_⟩;rintro v _ ⟨b,d,G1,rfl,x,s1,q,_,h1⟩;exact h1 b _ (Ext.refl b) s1 ((r.mono x).set i q)
theorem ZHC(i:Nat){op:Operator}{pos':Pos}(hN:X.N.Nodup)(he:QE X E e te)(ho:OpR X (inplaceOp op) (lR2 X.K E f))(hi:X.N[i]?=vE x:=by rfl)(hx:Loc X.env.scope x:=by first|exact Or.inl rfl|exact Or.inr rfl)
  (hf:X.fn x=vG∨X.env.scope.names.lookup x=vE .local:=by first|exact .inl rfl|exact .inr rfl|assumption):QS X E (.AugAssign (.Name x pos') op e pos) (sAu i te f):=
 (ZMT (ti:=lR2 X.K E f) hN hi hx he ho hf).mono λW σ H h=>by
  obtain⟨a,S,G,hk,rfl,s,r,h⟩:=h;unfold sAu at h;split at h
  ·rename_i d hd;obtain⟨v,e1,q⟩:=r.get i d hd;refine⟨v,e1,a,S,G,hk,rfl,s,r,(J0 h).imp ?_⟩;rintro w _ ⟨b,d1,G1,rfl,x,s1,q1,_,h1⟩;refine⟨b,G1,d,d1,x.k.trans hk,rfl,s1,q.mono x,q1,(J0 h1).imp ?_⟩;rintro z _ ⟨c,d2,G2,rfl,y,s2,q2,_,h2⟩;exact h2 c _ (Ext.refl c) s2 (((r.mono x).mono y).set i q2)
  ·exact h.elim
noncomputable def Ov:D->D->DH->R D
 |.int i,.int j,G=>.ok (.int (i+j)) G
 |.str i,.str j,G=>if i.length+j.length<=1000000 then .ok (.str (i++j)) G else .bad
 |_,_,_=>.bad
theorem Rm:OpR X (inplaceOp .Add) (lR2 X.K E Ov):=Hn (OpR.or (r:=ipI λi j=>i+j) ZLH ZSi) λa G d e x y Q hk s rd re q=>by
 cases d<;>cases e<;>first
  |exact q.elim
  |exact .inl ⟨_,_,rd,re,q a _ (Ext.refl a) s rfl⟩
  | (
    unfold Ov at q;dsimp only at q;split at q
    ·rename_i hl;exact .inr ⟨_,_,rd,re,zB hl size6,q a _ (Ext.refl a) s rfl⟩
    ·exact q.elim)
theorem ZQu:OpR X (inplaceOp .Sub) (lR2 X.K E Gb):=Hn (r:=ipI λi j=>i-j) ZK4 λa G d e x y Q hk s rd re q=>by
 cases d<;>cases e<;>first
  |exact q.elim
  |exact⟨_,_,rd,re,q a _ (Ext.refl a) s rfl⟩
end
noncomputable def aft(r:SR)(k:DSt->DH->SR):SR:=match r with
 |.nx S G=>k S G
 |.ct S G=>k S G
 |.bk S G=>.nx S G
 |r=>r
def Bq(g:DG)(b:DS):List D->DS
 |[],S,G=>.nx S G
 |x::xs,S,G=>(g x S G).toS λS1 G1=>aft (b S1 G1) (Bq g b xs)
def forM(i:Nat)(g:DG)(b:DS):Nat->Nat->DS
 |0,j,S,G=>match G[i]? with
  |some (.lst xs)=>if xs.length<=j then .nx S G else .bad
  |_=>.bad
 | k+1,j,S,G=>match G[i]? with
  |some (.lst xs)=>match xs[j]? with
   |some x=>(g x S G).toS λS1 G1=>aft (b S1 G1) (forM i g b k (j+1))
   |none=>.nx S G
  |_=>.bad
def El(f:Nat->DH->Option (Option D))(g:DG)(b:DS):Nat->Nat->DS
 |0,j,S,G=>match f j G with
  |some vF=>.nx S G
  |_=>.bad
 |k+1,j,S,G=>match f j G with
  |some (vE x)=>(g x S G).toS λS1 G1=>aft (b S1 G1) (El f g b k (j+1))
  |some vF=>.nx S G
  |none=>.bad
inductive ItD where
 |pure (xs:List D)
 |mt (i:Nat)
 |fn (n:Nat) (f:Nat->DH->Option (Option D))
noncomputable abbrev DI:=DSt->DH->R ItD
def Dt(it:DI)(g:DG)(b:DS):DS:=λS G=>(it S G).toS λJ G1=>match J with
 |.pure xs=>Bq g b xs S G1
 |.mt i=>match G1[i]? with
  |some (.lst xs)=>forM i g b xs.length 0 S G1
  |_=>.bad
 |.fn n f=>El f g b n 0 S G1
def RepI(a:Wd):ItD->It->Prop
 |.pure xs,J=>∃vs:List V,Reps a xs vs/\∀b:Wd,Ext a b->∀i,(∀v,vs[i]?=vE v->J.go i b.H/\∀x H',J.yld i b.H x H'->x=v/\H'=b.H)/\(vs.length<=i->J.stop i b.H)
 |.mt k,J=>k<a.n/\∀b:Wd,Ext a b->∀vs,b.H (b.m k)=vE (.lst vs)->∀i,(∀v,vs[i]?=vE v->J.go i b.H/\∀x H',J.yld i b.H x H'->x=v/\H'=b.H)/\(vs.length<=i->J.stop i b.H)
 |.fn _ f,J=>∀b:Wd,Ext a b->∀G,Sim b G->∀i,(∀d,f i G=vE (vE d)->J.go i b.H/\∀x H',J.yld i b.H x H'->∃c:Wd,c.H=H'/\Ext b c/\Sim c G/\Rep c d x)/\(f i G=vE vF->J.stop i b.H)
def outI(E:XK)(a:Wd)(r:R ItD)(Q:It->Hp->Prop):Prop:=match r with
 |.ok J G=>∀(b:Wd)(JJ:It),Ext a b->Sim b G->RepI b J JJ->Q JJ b.H
 |.err x G=>XOk E a x G
 |.bad=>False
def lI(K:PySem.W.Frag)(E:XK)(t:DI):TI:=λσ H Q=>∃(a:Wd)(S:DSt)(G:DH),a.K=K/\a.H=H/\Sim a G/\RepS a S σ/\outI E a (t S G) Q
def QI(X:Cx)(E:XK)(tg iter:xX)(t:DI):Prop:=PI X tg iter (lI X.K E t)
theorem outI.imp{r:R ItD}{Q Q':It->Hp->Prop}(h:outI E a r Q)(w:∀v H,Q v H->Q' v H):outI E a r Q':=by
 cases r with
 |ok d G=>exact λb v x s q=>w _ _ (h b v x s q)
 |err e G=>exact h
 |bad=>exact h
theorem ZQ0{r:R ItD}{f:ItD->DH->SR}(h:Dh E a (r.toS f) W):
  outI E a r (λJ H=>∃(b:Wd)(d:ItD)(G:DH),b.H=H/\Ext a b/\Sim b G/\RepI b d J/\r=.ok d G/\Dh E b (f d G) W):=by
 cases r with
 |ok d G=>exact λb v x s q=>⟨b,d,G,rfl,x,s,q,rfl,Dh.mono x h⟩
 |err e G=>exact h
 |bad=>exact h
theorem ZE9 {r:SR} {k:DSt->DH->SR} (h:Dh E a (aft r k) W):
  Dh E a r {W with
            nx:=λσ H=>∃(b:Wd)(S:DSt)(G:DH),b.H=H/\Ext a b/\Sim b G/\RepS b S σ/\Dh E b (k S G) W,
            ct:=λσ H=>∃(b:Wd)(S:DSt)(G:DH),b.H=H/\Ext a b/\Sim b G/\RepS b S σ/\Dh E b (k S G) W,bk:=W.nx}:=by
 cases r with
 |nx S G=>exact λb σ x s q=>⟨b,S,G,rfl,x,s,q,Dh.mono x h⟩
 |ct S G=>exact λb σ x s q=>⟨b,S,G,rfl,x,s,q,Dh.mono x h⟩
 |bk S G=>exact h
 |rt d G=>exact h
 |err x G=>exact h
 |bad=>exact h
noncomputable def mtF(i j:Nat)(G:DH):Option (Option D):=match G[i]? with
 |some (.lst xs)=>vE xs[j]?
 |_=>vF
theorem ZKi{J:It}{n:Nat}(r:RepI a (.pure xs) J):RepI a (.fn n λj _=>vE xs[j]?) J:=by
 obtain⟨vs,rv,h⟩:=r;refine λb x G sm i=>⟨λd e=>?_,λe=>?_⟩
 ·obtain⟨v,ev,q⟩:=rv.get (Option.some.inj e);obtain⟨h1,h2⟩:=(h b x i).1 v ev;refine⟨h1,λy H' hy=>?_⟩;obtain⟨rfl,rfl⟩:=h2 y H' hy;exact⟨b,rfl,Ext.refl b,sm,q.mono x⟩
 ·exact(h b x i).2 (by rw[<-rv.length];exact qG.mp (Option.some.inj e))
theorem ZF2{k:Nat}{J:It}{n:Nat}(r:RepI a (.mt k) J):RepI a (.fn n (mtF k)) J:=by
 obtain⟨hk,h⟩:=r;refine λb x G sm i=>?_
 unfold mtF;cases hG:G[k]? with
 |none=>exact⟨λd e=>(by cases e),λe=>(by cases e)⟩
 | some o=>
  cases o with
  |lst xs=>
   obtain⟨vs,e1,rv⟩:=sm.lst hG;refine⟨λd e=>?_,λe=>?_⟩
   ·obtain⟨v,ev,q⟩:=rv.get (Option.some.inj e);obtain⟨h1,h2⟩:=(h b x vs e1 i).1 v ev;refine⟨h1,λy H' hy=>?_⟩;obtain⟨rfl,rfl⟩:=h2 y H' hy;exact⟨b,rfl,Ext.refl b,sm,q⟩
   ·exact(h b x vs e1 i).2 (by rw[<-rv.length];exact qG.mp (Option.some.inj e))
  |_=>exact⟨λd e=>(by cases e),λe=>(by cases e)⟩
theorem ZJd{b:DS}:∀(n j:Nat),j+n=xs.length->Bq g b (xs.drop j)=El (λj _=>vE xs[j]?) g b n j
 |0,j,h=>by
  funext S G;rw[zP (by lia)]
  show SR.nx S G=(match vE xs[j]? with |some vF=>SR.nx S G|_=>.bad)
  rw[zA (by lia)]
 |n+1,j,h=>by
  funext S G;have hj:j<xs.length:=by lia
  rw[zM hj]
  show(g xs[j] S G).toS (λS1 G1=>aft (b S1 G1) (Bq g b (xs.drop (j+1))))=(match vE xs[j]? with |some (vE x)=>(g x S G).toS (λS1 G1=>aft (b S1 G1) (El (λj _=>vE xs[j]?) g b n (j+1)))|some vF=>SR.nx S G|none=>.bad)
  rw[zJ hj,ZJd n (j+1) (by lia)]
theorem ZGE{b:DS}:∀(n j:Nat),forM i g b n j=El (mtF i) g b n j
 | 0,j=>by
  funext S G;unfold forM El mtF;cases G[i]? with
  |none=>rfl
  | some o=>
   cases o with
   |lst xs=>
    dsimp only;by_cases hj:j<xs.length
    ·rw[if_neg (by lia),zJ hj]
    ·rw[if_pos (by lia),zA (by lia)]
   |_=>rfl
 | n+1,j=>by
  funext S G;unfold forM El;rw[ZGE n (j+1)];unfold mtF;cases G[i]? with
  |none=>rfl
  | some o=>
   cases o with
   |lst xs=>
    dsimp only
    cases xs[j]?<;>rfl
   |_=>rfl
section
variable{X:Cx}{E:XK}{tg iter:xX}{pos:Pos}
theorem ZN3{it:DI}{b:DS}(h:lS K E (Dt it g b) W σ H):tFor (lI K E it) (lG K E g) (lS K E b) W σ H:=by
 obtain⟨a,S,G,hk,rfl,s,r,h⟩:=h;refine⟨a,S,G,hk,rfl,s,r,(ZQ0 h).imp ?_⟩;rintro J _ ⟨a1,d,G1,rfl,x1,s1,q1,_,h1⟩;have k1:a1.K=K:=x1.k.trans hk
 suffices fnc:∃n f,RepI a1 (.fn n f) J/\Dh E a1 (El f g b n 0 S G1) W by
  obtain⟨n,f,q1,h1⟩:=fnc;have walk:∀b:Wd,Ext a1 b->∀G,Sim b G->∀i,(∀d,f i G=vE (vE d)->J.go i b.H/\∀x H',J.yld i b.H x H'->∃c:Wd,c.H=H'/\Ext b c/\Sim c G/\Rep c d x)/\(f i G=vE vF->J.stop i b.H):=q1;refine⟨λi m σ H=>∃(c:Wd)(S:DSt)(G:DH),c.H=H/\Ext a1 c/\Sim c G/\RepS c S σ/\Dh E c (El f g b m i S G) W,⟨_,a1,S,G1,rfl,Ext.refl _,s1,r.mono x1,h1⟩,?_⟩;rintro i m σ2 _ ⟨c,S2,G2,rfl,x2,s2,r2,h2⟩
  cases m with
  |zero=>
   unfold El at h2;split at h2
   ·rename_i hf;exact .inl ⟨(walk c x2 G2 s2 i).2 hf,h2 c σ2 (Ext.refl c) s2 r2⟩
   ·exact h2.elim
  | succ m=>
   unfold El at h2;split at h2
   ·rename_i d hf;obtain⟨go,yl⟩:=(walk c x2 G2 s2 i).1 d hf;refine .inr ⟨go,λσ' H'=>∃(c:Wd)(S:DSt)(G:DH),c.H=H'/\Ext a1 c/\Sim c G/\RepS c S σ'/\Dh E c (El f g b m (i+1) S G) W,λσ' H' z=>⟨m,zU _,z⟩,λw H' y=>?_⟩;obtain⟨cc,rfl,xx,ss,rd⟩:=yl w H' y;refine⟨cc,S2,G2,d,xx.k.trans (x2.k.trans k1),rfl,ss,r2.mono xx,rd,(ZGR (Dh.mono xx h2)).imp ?_⟩;rintro σ3 _ ⟨c3,S3,G3,rfl,x3,s3,r3,_,h3⟩
    have fin:=ZE9 h3;refine⟨c3,S3,G3,x3.k.trans (xx.k.trans (x2.k.trans k1)),rfl,s3,r3,?_⟩
    revert fin
    cases b S3 G3 with
    | nx S4 G4=>
      intro fin c4 σ4 x4 s4 q4;obtain⟨c5,S5,G5,hh,x5,s5,r5,h5⟩:=fin c4 σ4 x4 s4 q4;exact⟨c5,S5,G5,hh,x2.trans (xx.trans (x3.trans x5)),s5,r5,h5⟩
    | ct S4 G4=>
      intro fin c4 σ4 x4 s4 q4;obtain⟨c5,S5,G5,hh,x5,s5,r5,h5⟩:=fin c4 σ4 x4 s4 q4;exact⟨c5,S5,G5,hh,x2.trans (xx.trans (x3.trans x5)),s5,r5,h5⟩
    |bk S4 G4=>exact λfin=>fin
    |rt S4 G4=>exact λfin=>fin
    |err S4 G4=>exact λfin=>fin
    |bad=>exact λfin=>fin
   ·rename_i hf;exact .inl ⟨(walk c x2 G2 s2 i).2 hf,h2 c σ2 (Ext.refl c) s2 r2⟩
   ·exact h2.elim
 cases d with
 |pure xs=>
  have h1':Dh E a1 (Bq g b (xs.drop 0) S G1) W:=h1;rw[ZJd xs.length 0 (by lia)]at h1';exact⟨_,_,ZKi q1,h1'⟩
 |mt k=>
  dsimp only at h1;split at h1
  ·rw[ZGE]at h1;exact⟨_,_,ZF2 q1,h1⟩
  ·exact h1.elim
 |fn n f=>exact⟨n,f,q1,h1⟩
theorem Ex{body:List xz}{it:DI}{b:DS}(hp:PassesOwn (vZ X.prog X.w) X.A X.env X.xe)(hc:X.calm=vG)(hi:QI X E tg iter it)(hg:QG X E tg g)(hb:QSs X E body b)
  (hs:∀x,foldedSetIterable iter X.env x=pure x:=by intro _;rfl):QS X E (.For tg iter body [] pos) (Dt it g b):=(ZOn hp hc hi hg hb hs).mono λ_ _ _ h=>ZN3 h
theorem _root_.L2.PI.mono{t t':TI}(h:PI X tg iter t)(w:∀σ H Q,t' σ H Q->t σ H Q):PI X tg iter t':=λvD s σ H Q I q=>h vD s σ H Q I (w σ H Q q)
noncomputable def sgn(c:Nat):D:=.str ⟨#[c]⟩
def signs(x:Str):List D:=x.cps.toList.map sgn
noncomputable def Its(x:Str):It:=⟨λi _=>i<x.cps.size,λi H v H'=>H'=H/\∃c,x.cps[i]?=vE c/\v=.str ⟨#[c]⟩,λi _=>x.cps.size<=i⟩
theorem ZMJ(it:xZ)(x:Str)(t:Tok):Turn P w K tg (Its x) [it] it (λi h=>h.IsStrIter it "str_ascii_iterator" x t i) where
 mem:=by simp
 obj:=λi h st b hb=>by
  have e:b=it:=by simpa using hb
  subst e;obtain⟨o,e,c,d⟩:=st;exact⟨o,e,λv z=>by rw[d]at z;cases z⟩
 keep:=λi h h' st k=>let⟨o,ho,r⟩:=st;⟨o,k it (by simp) o ho,r⟩
 item:=by
  intro X hP hw hK hc i vD s σ H E I hf st hg;subst hP hw hK;obtain⟨f0,f1,f2,f3,f4,f5⟩:=hf it (by simp);have hi:i<x.cps.size:=hg;refine wpAny_pyNext_ascii_item st (c:=x.cps[i]) (by simp[hi]) λh' st' sb=>?_
  have I1:Inv X vD σ H {s with heap:=h',toks:=s.toks+1}:=I.turned (λb o hb e=>(sb.2 b hb).trans e) f0 f1 f3 f4 f5;obtain⟨o,e,c,d⟩:=id st';exact⟨_,rfl,Pb (s:={s with heap:=h',toks:=s.toks+1}) e c d (by decide) ⟨.str ⟨#[x.cps[i]]⟩,H,I1,⟨_,rfl⟩,⟨rfl,_,by simp[hi],rfl⟩,st',λb hb=>(hf b hb).1⟩⟩
 done:=by intro X hP hw hK hc i vD s σ H E I hf st hg;subst hP hw hK;obtain⟨f0,f1,f2,f3,f4,f5⟩:=hf it (by simp);have hi:x.cps.size<=i:=hg;exact wpAny_pyNext_ascii_end (I.ok.hd hc) st (by simp[hi]) λh' eb=>⟨rfl,I.turned (t':=s.toks) (λb o hb e=>eb b o hb e) f0 f1 f3 f4 f5⟩
 self:=λ_ _ _ _ _ st h=>wpAny_pyIter_striter_ascii st h
theorem ZO1(it:xZ)(x:Str)(t:Tok):Turn P w K tg (Its x) [it] it (λi h=>h.IsStrIter it "str_iterator" x t i) where
 mem:=by simp
 obj:=λi h st b hb=>by
  have e:b=it:=by simpa using hb
  subst e;obtain⟨o,e,c,d⟩:=st;exact⟨o,e,λv z=>by rw[d]at z;cases z⟩
 keep:=λi h h' st k=>let⟨o,ho,r⟩:=st;⟨o,k it (by simp) o ho,r⟩
 item:=by
  intro X hP hw hK hc i vD s σ H E I hf st hg;subst hP hw hK;obtain⟨f0,f1,f2,f3,f4,f5⟩:=hf it (by simp);have hi:i<x.cps.size:=hg;refine wpAny_pyNext_wide_item st (c:=x.cps[i]) (by simp[hi]) λh' st' sb=>?_
  have I1:Inv X vD σ H {s with heap:=h',toks:=s.toks+1}:=I.turned (λb o hb e=>(sb.2 b hb).trans e) f0 f1 f3 f4 f5;obtain⟨o,e,c,d⟩:=id st';exact⟨_,rfl,Pb (s:={s with heap:=h',toks:=s.toks+1}) e c d (by decide) ⟨.str ⟨#[x.cps[i]]⟩,H,I1,⟨_,rfl⟩,⟨rfl,_,by simp[hi],rfl⟩,st',λb hb=>(hf b hb).1⟩⟩
 done:=by intro X hP hw hK hc i vD s σ H E I hf st hg;subst hP hw hK;obtain⟨f0,f1,f2,f3,f4,f5⟩:=hf it (by simp);have hi:x.cps.size<=i:=hg;exact wpAny_pyNext_wide_end (I.ok.hd hc) st (by simp[hi]) λh' eb=>⟨rfl,I.turned (t':=s.toks) (λb o hb e=>eb b o hb e) f0 f1 f3 f4 f5⟩
 self:=λ_ _ _ _ _ st h=>wpAny_pyIter_striter_wide st h
def iStr(tl:TE):TI:=λσ H R=>tl σ H λx H1=>∃z,x=.str z/\R (Its z) H1
theorem ZNZ{l:xX}{tl:TE}(hl:PE X l tl):PI X tg l (iStr tl):=by
 intro vD s σ H R I h;refine thn (hl vD s σ H _ I h) λv s1 ⟨x,H1,I1,r1,q1⟩=>?_
 obtain⟨z,e,q⟩:=q1;subst e;obtain⟨t,rfl⟩:=r1;have fp:∀b∈[s1.heap.objs.size],FpOk X vD H1 b:=λb hb=>by
  have e:b=s1.heap.objs.size:=by simpa using hb
  subst e;exact I1.Kg (zK _) (I1.hok.fresh (zK _))
 cases ha:z.cps.all (· < 128)
 ·refine wpAny_pyIter_wide ha ?_;exact⟨s1.heap.objs.size,[s1.heap.objs.size],_,_,H1,rfl,I1.kept (t':=s1.toks) λb o e=>zQ _ e,ZO1 _ z t,⟨_,z0 _ rfl,rfl,rfl⟩,fp,q⟩
 ·refine wpAny_pyIter_ascii ha ?_;exact⟨s1.heap.objs.size,[s1.heap.objs.size],_,_,H1,rfl,I1.kept (t':=s1.toks) λb o e=>zQ _ e,ZMJ _ z t,⟨_,z0 _ rfl,rfl,rfl⟩,fp,q⟩
theorem Reps.signs(x:Str):Reps a (signs x) (x.cps.toList.map λc=>V.str ⟨#[c]⟩):=by
 unfold DL.signs
 induction x.cps.toList with
 |nil=>exact rfl
 |cons c r ih=>exact⟨_,_,rfl,rfl,ih⟩
def Ib:D->DH->R ItD
 |.tup xs,G=>.ok (.pure xs) G
 |.str x,G=>.ok (.pure (signs x)) G
 |.fl xs,G=>.ok (.pure xs) G
 |.ref i,G=>match G[i]? with
  |some (.lst _)=>.ok (.mt i) G
  |_=>.bad
 |_,_=>.bad
def Fx(te:DE):DI:=λS G=>(te S G).bind Ib
theorem Gm(he:QE X E iter te):QI X E tg iter (Fx te):=by
 intro vD s σ H R I h;obtain⟨a,S,G,hk,rfl,sm,r,h⟩:=h;cases ht:te S G with
 |bad=>
  have h':outI E a ((te S G).bind Ib) R:=h;rw[ht]at h';exact h'.elim
 |err e G1=>
  have h':outI E a ((te S G).bind Ib) R:=h;rw[ht]at h';refine ZCu (tg:=tg) he vD s σ a.H R I ⟨a,S,G,hk,rfl,sm,r,?_⟩;rw[ht];exact h'
 | ok d G1=>
  have h':outI E a ((te S G).bind Ib) R:=h;rw[ht]at h';cases d with
  |tup xs=>
   refine ZQ1 (tg:=tg) he vD s σ a.H R I ⟨a,S,G,hk,rfl,sm,r,?_⟩;rw[ht];rintro b v x sb ⟨p,vs,rfl,hq,rv⟩;have hq':SqT X.K b.H p vs:=by rw[<-hk,<-x.k];exact hq
   refine⟨p,rfl,⟨vs,hq'⟩,h' b _ x sb ⟨vs,rv,λc y i=>⟨λv hv=>⟨⟨vs,v,?_,hv⟩,λw H' z=>?_⟩,λhl=>⟨vs,?_,hl⟩⟩⟩⟩
   ·have:=y.sqT hq;rw[y.k,x.k,hk]at this;exact this
   ·have:=y.sqT hq;rw[y.k,x.k,hk]at this;exact⟨Option.some.inj ((z.2 vs this).symm.trans hv),z.1⟩
   ·have:=y.sqT hq;rw[y.k,x.k,hk]at this;exact this
  |fl xs=>
   refine ZCu (tg:=tg) he vD s σ a.H R I ⟨a,S,G,hk,rfl,sm,r,?_⟩;rw[ht];rintro b v x sb ⟨p,vs,rfl,hq,rv⟩;have hq':SqL X.K b.H p vs:=by rw[<-hk,<-x.k];exact hq.sq
   refine⟨p,rfl,⟨vs,hq'⟩,h' b _ x sb ⟨vs,rv,λc y i=>⟨λv hv=>⟨⟨vs,v,?_,hv⟩,λw H' z=>?_⟩,λhl=>⟨vs,?_,hl⟩⟩⟩⟩
   ·have:=(y.fzL hq).sq;rw[y.k,x.k,hk]at this;exact this
   ·have:=(y.fzL hq).sq;rw[y.k,x.k,hk]at this;exact⟨Option.some.inj ((z.2 vs this).symm.trans hv),z.1⟩
   ·have:=(y.fzL hq).sq;rw[y.k,x.k,hk]at this;exact this
  |ref k=>
   have h2:outI E a (Ib (.ref k) G1) R:=h';unfold Ib at h2;dsimp only at h2;split at h2
   ·rename_i xs hx;refine ZCu (tg:=tg) he vD s σ a.H R I ⟨a,S,G,hk,rfl,sm,r,?_⟩;rw[ht];rintro b v x sb ⟨hkn,rfl⟩;obtain⟨vs,hx,_⟩:=sb.lst hx;refine⟨b.m k,rfl,⟨vs,.of hx⟩,h2 b _ x sb ⟨hkn,λc y us hu i=>?_⟩⟩;rw[y.m k hkn]at hu;exact⟨λv hv=>⟨⟨us,v,.of hu,hv⟩,λw H' z=>⟨Option.some.inj ((z.2 us (.of hu)).symm.trans hv),z.1⟩⟩,λhl=>⟨us,.of hu,hl⟩⟩
   ·exact h2.elim
  | str z=>
   refine ZNZ (tg:=tg) he vD s σ a.H R I ⟨a,S,G,hk,rfl,sm,r,?_⟩;rw[ht];intro b v x sb rv
   cases(show v=V.str z from rv)
   refine⟨z,rfl,h' b _ x sb ⟨_,Reps.signs z,λc y i=>⟨λv hv=>?_,λhl=>?_⟩⟩⟩
   ·rw[zx,zI]at hv;obtain⟨k,hk1,rfl⟩:=hv;have hk2:z.cps[i]?=vE k:=by rw[<-qH];exact hk1
    refine⟨(Array.getElem?_eq_some_iff.mp hk2).1,λw H' q=>?_⟩;obtain⟨e1,k',e2,e3⟩:=q;rw[hk2]at e2;cases e2;exact⟨e3,e1⟩
   ·rw[qQ,qw]at hl;exact hl
  |_=>exact h'.elim
end
noncomputable def Cm(lo:Int)(n:Nat):List D:=(zZ n).map λ(k:Nat)=>D.int (lo+(k:Int))
def inR(j:Int):Prop:= -(2^62)<=j/\j<2^62
noncomputable instance (j:Int):Decidable (inR j):=by unfold inR;infer_instance
def rng1(ds:List D)(G:DH):R ItD:=match ds with
 |[.int j]=>if inR j then .ok (.pure (Cm 0 j.toNat)) G else .bad
 |_=>.bad
def Cy(f:List D->DH->R ItD)(ta:DA):DI:=λS G=>(ta S G).bind f
def sWh(c:DB)(b:DS):Nat->DS
 |0,_,_=>.bad
 |n+1,S,G=>(c S G).toS λk G1=>if k=vG then aft (b S G1) (sWh c b n)else .nx S G1
def Bu(np nl:Nat)(b:DS):List D->DH->R D:=λds G=>if ds.length=np then tidy G (match b (ds.map vE++zV nl vF) G with
 |.nx _ G'=>.ok .non G'
 |.rt d G'=>.ok d G'
 |.err x G'=>.err x G'
 |_=>.bad)else .bad
theorem outI.mono(x:Ext a b){r:R ItD}{Q:It->Hp->Prop}(h:outI E a r Q):outI E b r Q:=by
 cases r with
 |ok d G=>exact λc v y s q=>h c v (x.trans y) s q
 |err e G=>exact XOk.mono (E:=E) (e:=e) (G:=G) x h
 |bad=>exact h
theorem V0{r:R (List D)}{f:List D->DH->R ItD}{Q:It->Hp->Prop}(h:outI E a (r.bind f) Q):
  Hb E a r (λvs H=>∃(b:Wd)(ds:List D)(G:DH),b.H=H/\Ext a b/\Sim b G/\Reps b ds vs/\r=.ok ds G/\outI E b (f ds G) Q):=by
 cases r with
 |ok d G=>exact λb v x s q=>⟨b,d,G,rfl,x,s,q,rfl,outI.mono x h⟩
 |err e G=>exact h
 |bad=>exact h
section
variable{X:Cx}{E:XK}{tg iter:xX}{pos:Pos}
theorem ZOg(lo:Int)(n:Nat):RepI a (.pure (Cm lo n)) (Itr lo n):=by
 refine⟨(zZ n).map λ(k:Nat)=>V.int (lo+(k:Int)),?_,λb x i=>⟨λv hv=>?_,λhl=>?_⟩⟩
 ·unfold Cm;generalize zZ n=l
  induction l with
  |nil=>exact rfl
  |cons k l ih=>exact⟨_,_,rfl,rfl,ih⟩
 ·rw[zx]at hv;by_cases hi:i<n
  ·rw[zL hi]at hv;have hv':V.int (lo+(i:Int))=v:=by simpa using hv
   exact⟨hi,λw H' y=>⟨y.2.trans hv',y.1⟩⟩
  ·rw[zA (by simpa using hi)]at hv;cases hv
 ·show n<=i;simpa using hl
theorem Gs{ta:DA}{p pos:Pos}(hg:Gl X "range")(hm:X.mg "range"=vF)(ha:QA X E [e] ta)(hs:vW [e] X.env=[(vH,eval e X.env)]:=by rfl):QI X E tg (.Call (.Name "range" p) [e] [] pos) (Cy rng1 ta):=
 (ZPg hg hm ha hs).mono λσ H Q h=>by
  obtain⟨a,S,G,hk,rfl,s,r,h⟩:=h;refine⟨a,S,G,hk,rfl,s,r,(V0 h).imp ?_⟩;rintro vs _ ⟨b,ds,G1,rfl,x,s1,q,-,h1⟩;unfold rng1 at h1;split at h1
  ·rename_i j;split at h1
   ·rename_i hj;obtain⟨v,r,e1,q1,q2⟩:=q
    cases(show v=V.int j from q1)
    cases(show r=[]from q2)
    exact⟨j,e1,hj.1,hj.2,h1 b _ (Ext.refl b) s1 (ZOg 0 j.toNat)⟩
   ·exact h1.elim
  ·exact h1.elim
theorem ZRL(n:Nat){c:xX}{body:List xz}{tc:DB}{tb:DS}(hp:PassesOwn (vZ X.prog X.w) X.A X.env X.xe)(hc:QT X E c tc)(hb:QSs X E body tb):QS X E (.While c body [] pos) (sWh tc tb n):=(ZSP hp hc hb).mono λW σ H h=>by
 obtain⟨a,S,G,hk,rfl,s,r,h⟩:=h;refine⟨λm σ H=>∃(b:Wd)(S:DSt)(G:DH),b.H=H/\Ext a b/\Sim b G/\RepS b S σ/\Dh E b (sWh tc tb m S G) W,⟨n,a,S,G,rfl,Ext.refl a,s,r,h⟩,?_⟩;rintro m σ2 _ ⟨b,S2,G2,rfl,x2,s2,r2,h2⟩;cases m with
 |zero=>exact h2.elim
 | succ m=>
  refine⟨b,S2,G2,x2.k.trans hk,rfl,s2,r2,(ZHf h2).imp ?_⟩;rintro k _ ⟨c3,G3,rfl,x3,s3,_,h3⟩;cases k with
  |false=>exact h3 c3 σ2 (Ext.refl c3) s3 (r2.mono x3)
  | true=>
   refine⟨λσ' H'=>∃(b:Wd)(S:DSt)(G:DH),b.H=H'/\Ext a b/\Sim b G/\RepS b S σ'/\Dh E b (sWh tc tb m S G) W,λσ' H' z=>⟨m,zU _,z⟩,c3,S2,G3,x3.k.trans (x2.k.trans hk),rfl,s3,r2.mono x3,?_⟩;have fin:=ZE9 h3
   revert fin
   cases tb S2 G3 with
   |nx S4 G4=>
    intro fin c4 σ4 x4 s4 q4;obtain⟨c5,S5,G5,hh,x5,s5,r5,h5⟩:=fin c4 σ4 x4 s4 q4;exact⟨c5,S5,G5,hh,x2.trans (x3.trans x5),s5,r5,h5⟩
   |ct S4 G4=>
    intro fin c4 σ4 x4 s4 q4;obtain⟨c5,S5,G5,hh,x5,s5,r5,h5⟩:=fin c4 σ4 x4 s4 q4;exact⟨c5,S5,G5,hh,x2.trans (x3.trans x5),s5,r5,h5⟩
   |bk S4 G4=>exact λfin=>fin
   |rt S4 G4=>exact λfin=>fin
   |err S4 G4=>exact λfin=>fin
   |bad=>exact λfin=>fin
end
theorem ZPi(r:Reps a ds vs)(n m:Nat)(h:n=m):RepS a (ds.map vE++zV n vF) (vs.map vE++zV m vF):=by
 subst h;refine⟨by simp[r.length],λi d hd=>?_⟩;by_cases hi:i<ds.length
 ·rw[zR (by simpa using hi),zx]at hd;cases e:ds[i]? with
  |none=>rw[e]at hd;cases hd
  |some d'=>
   rw[e]at hd;have hd':d'=d:=by simpa using hd
   subst hd';obtain⟨v,ev,q⟩:=r.get e;exact⟨v,by rw[zR (by rw[qQ,<-r.length];exact hi),zx,ev];rfl,q⟩
 ·rw[zG (by simpa using hi),qT]at hd
  split at hd<;>cases hd
theorem Cg{mg:Str->Option xj}{base:Heap}{qual:Str}{st:xz}{f:xZ}{fd:xV}{N ps:List Str}{k:Nat}{b:DS}(F:Fun K x qual st f fd)(S:FnScope N ps (Ar st))
  (hbody:∀(cdv:xj)(A:xJ)(outer:List Env)(s:xq)(H:Hp)(E:XK),Room k (A.deeper (envOfC qual (Ar st) s.heap.objs.size f cdv))->QSs (Nx CX0 P w K mg base N qual (Ar st) f cdv A outer s H E).nox E0 (J1 st) b):
  FnOk P w K mg base CX0 (k+1) f fd ps (lF K (Bu ps.length (N.length-ps.length) b)):=by
 have hlen:∀vs H Q E,lF K (Bu ps.length (N.length-ps.length) b) vs H Q E->vs.length=ps.length:=λvs H Q E h=>by
  obtain⟨a,G,ds,hk,rfl,sm,r,h⟩:=h;unfold Bu at h;split at h
  ·rename_i hl;rw[<-r.length];exact hl
  ·exact h.elim
 refine F.ok S hlen (λcdv A outer s H vs Q E hr h=>?_);refine⟨lS K E0 b,hbody cdv A outer s H E hr,?_⟩;have hl:=hlen vs H Q E h;obtain⟨a,G,ds,hk,rfl,sm,r,h⟩:=h;unfold Bu at h;split at h
 ·have h2:=ZEz sm h;refine⟨a,ds.map vE++zV (N.length-ps.length) vF,G,hk,rfl,sm,ZPi r _ _ (by rw[hl]),?_⟩
  revert h2
  cases b (ds.map vE++zV (N.length-ps.length) vF) G with
  |nx S1 G1=>exact λh2 c σ x s1 _=>h2 c .non x s1 rfl
  |rt d G1=>exact λh2=>h2
  |err e G1=>exact λh2=>h2
  |bk S1 G1=>exact λh2=>h2.elim
  |ct S1 G1=>exact λh2=>h2.elim
  |bad=>exact λh2=>h2
 ·exact h.elim
theorem Lq{x:V}(s:Sim a G)(r:Rep a d x)(h:Cj d G=vE xs):∃p vs,x=.ref p/\(SqL a.K a.H p vs∨SqT a.K a.H p vs)/\Reps a xs vs:=by
 cases d with
 |tup ys=>
  have e:ys=xs:=Option.some.inj h;subst e;obtain⟨p,vs,e,q,rr⟩:=r;exact⟨p,vs,e,.inr q,rr⟩
 |fl ys=>
  have e:ys=xs:=Option.some.inj h;subst e;obtain⟨p,vs,e,q,rr⟩:=r;exact⟨p,vs,e,.inl q.sq,rr⟩
 |ref i=>
  unfold Cj at h;dsimp only at h;split at h
  ·rename_i ys hi;have e:ys=xs:=Option.some.inj h;subst e;obtain⟨vs,e1,r1⟩:=s.lst hi;exact⟨a.m i,vs,r.2,.inl (.of e1),r1⟩
  ·cases h
 |_=>cases h
def Aj (d e:D) (G:DH):R D:=match e with
 | .int i=>match d with
  | .str z=>if z.length<=1000000 then(match atI z.cps.toList i with
    |some c=>.ok (.str ⟨#[c]⟩) G
    |none=>.bad)else .bad
  | d=>match Cj d G with
   |some xs=>match atI xs i with
    |some v=>.ok v G
    |none=>.bad
   |none=>.bad
 |_=>.bad
theorem ZKU{i:Int}(r:Reps a xs vs)(h:atI xs i=vE d):∃v,atI vs i=vE v/\Rep a d v:=by
 unfold atI at h⊢;rw[<-r.length];cases e:ixN xs.length i with
 |none=>rw[e]at h;cases h
 |some j=>
  rw[e]at h
  obtain⟨v,ev,q⟩:=r.get (show xs[j]?=vE d from h)
  exact⟨v,ev,q⟩
section
variable{X:Cx}{E:XK}
theorem _root_.L2.IxR.mono{r r':R2}(h:IxR X r)(w:∀x y H Q,r' x y H Q->r x y H Q):IxR X r':=λvalue slice vD s σ H x y v u Q I rx ry q hs=>h value slice vD s σ H x y v u Q I rx ry (w _ _ _ _ q) hs
theorem _root_.L2.CallR.mono{f:xj}{r r':List V->Hp->VK->Prop}(h:CallR X f r)(w:∀xs H Q,r' xs H Q->r xs H Q):CallR X f r':=λvD s σ H xs us Q I rs q=>h vD s σ H xs us Q I rs (w _ _ _ q)
theorem _root_.L2.MtM.mono{id:String}{r r':V->List V->Hp->VK->Prop}(h:MtM X id r)(w:∀x xs H Q,r' x xs H Q->r x xs H Q):MtM X id r':=λvD s σ H x xs v us Q I rx rs q=>h vD s σ H x xs v us Q I rx rs (w _ _ _ _ q)
theorem Al:IxR X (lR2 X.K E Aj):=ZLl.mono λx y H Q h=>by
 obtain⟨a,G,d,e,hk,rfl,s,rd,re,q⟩:=h;cases e with
 | int i=>
  have fin:∀{xs:List D},Cj d G=vE xs->out E a (match atI xs i with |some v=>.ok v G|none=>.bad) Q->rIx X.K x y a.H Q:=λ{xs}hs q=>by
   obtain⟨p,vs,e1,h1,r1⟩:=Lq s rd hs;rw[hk]at h1;split at q
   ·rename_i v hv;obtain⟨u,hu,ru⟩:=ZKU r1 hv;have z:=q a u (Ext.refl a) s ru;rcases h1 with h1|h1
    ·exact .inl ⟨p,vs,i,u,e1,re,h1,hu,z⟩
    ·exact .inr (.inl ⟨p,vs,i,u,e1,re,h1,hu,z⟩)
   ·exact q.elim
  have fin':out E a (match Cj d G with |some xs=>(match atI xs i with |some v=>.ok v G|none=>.bad)|none=>.bad) Q->rIx X.K x y a.H Q:=λq=>by
   cases hs:Cj d G with
   |none=>rw[hs]at q;exact q.elim
   |some xs=>rw[hs]at q;exact fin hs q
  cases d with
  | str z=>
   unfold Aj at q;dsimp only at q;split at q
   ·rename_i hl;split at q
    ·rename_i c hc;exact .inr (.inr ⟨z,i,c,rd,re,zB hl size6,hc,q a _ (Ext.refl a) s rfl⟩)
    ·exact q.elim
   ·exact q.elim
  |tup ys=>exact fin' q
  |fl ys=>exact fin' q
  |ref j=>exact fin' q
  |_=>exact fin' q
 |_=>exact q.elim
def Cz(ds:List D)(G:DH):R D:=match ds with
 |[.str z]=>if z.length<=1000000 then .ok (.int z.length) G else .bad
 |[d]=>match Cj d G with
  |some xs=>.ok (.int xs.length) G
  |none=>.bad
 |_=>.bad
theorem reps1(r:Reps a [d] vs):∃v,vs=[v]/\Rep a d v:=by
 obtain⟨v,r',e,q,z⟩:=r
 cases(show r'=[]from z)
 exact⟨v,e,q⟩
theorem reps2{d':D}(r:Reps a [d,d'] vs):∃v v',vs=[v,v']/\Rep a d v/\Rep a d' v':=by obtain⟨v,r',e,q,z⟩:=r;obtain⟨v',e',q'⟩:=reps1 z;subst e';exact⟨v,v',e,q,q'⟩
theorem Eh:CallR X (.builtin "len") (lRn X.K E Cz):=(ZSo.or ZLd).mono λvs H Q h=>by
 obtain⟨a,G,ds,hk,rfl,s,r,q⟩:=h;unfold Cz at q;split at q
 ·rename_i z;split at q
  ·rename_i hl;obtain⟨v,rfl,rv⟩:=reps1 r
   cases(show v=V.str z from rv)
   exact .inr ⟨z,rfl,zB hl size6,q a _ (Ext.refl a) s rfl⟩
  ·exact q.elim
 ·rename_i d _;split at q
  ·rename_i xs hs;obtain⟨v,rfl,rv⟩:=reps1 r;obtain⟨p,us,rfl,h1,r1⟩:=Lq s rv hs;rw[hk]at h1;exact .inl ⟨p,us,rfl,h1,q a _ (Ext.refl a) s (by rw[<-r1.length];exact rfl)⟩
  ·exact q.elim
 ·exact q.elim
def Fy(ds:List D)(G:DH):R D:=match ds with
 |[d]=>match Cj d G with
  |some xs=>.ok (.tup xs) G
  |none=>.bad
 |_=>.bad
theorem Ht:CallR X (.type "tuple") (lRn X.K E Fy):=ZNk.mono λvs H Q h=>by
 obtain⟨a,G,ds,hk,rfl,s,r,q⟩:=h;unfold Fy at q;split at q
 ·rename_i d;split at q
  ·rename_i xs hs;obtain⟨v,rfl,rv⟩:=reps1 r;obtain⟨p,us,rfl,h1,r1⟩:=Lq s rv hs;refine⟨p,us,rfl,?_⟩;rcases h1 with h1|h1
   ·exact .inl ⟨by rw[<-hk];exact h1,λl hl=>ZDF s r1 q l hl⟩
   ·exact .inr ⟨by rw[<-hk];exact h1,q a _ (Ext.refl a) s ⟨p,us,rfl,h1,r1⟩⟩
  ·exact q.elim
 ·exact q.elim
def Mx(ds:List D)(G:DH):R D:=match ds with
 |[.str z]=>if z.length<=1000000 then .ok (.ref G.length) (G++[.lst (signs z)])else .bad
 |[d]=>match Cj d G with
  |some xs=>.ok (.ref G.length) (G++[.lst xs])
  |none=>.bad
 |_=>.bad
theorem ZCr:∀{vs:List V}{us:List xj},vs.length=us.length->(∀(i:Nat)(v:V)(u:xj),vs[i]?=vE v->us[i]?=vE u->RelV v u)->Vals vs us
 |[],[],_,_=>.nil
 |[],_::_,h,_=>by cases h
 |_::_,[],h,_=>by cases h
 |v::vs,u::us,h,f=>.cons (f 0 v u rfl rfl) (ZCr (by simpa using h) λi v' u' h1 h2=>f (i+1) v' u' (by simpa using h1) (by simpa using h2))
theorem ZSw(hc:X.calm=vG):CallR X (.type "list") (λxs H Q=>∃z:Str,xs=[.str z]/\z.length<=sizeLine/\∀l,H l=vF->Q (.ref l) (upd H l (.lst (z.cps.toList.map λc=>V.str ⟨#[c]⟩)))):=by
 intro vD s σ H xs us Q I r h;obtain⟨z,rfl,hz,q⟩:=h;obtain⟨u,rfl,t,rfl⟩:=vals1 r;refine PySem.call_list_str (I.ok.hd hc) z t (λh' tk acc c hk hS hacc=>?_) hz;have hn:H s.heap.objs.size=vF:=I.hok.fresh (zK _);refine⟨.ref s.heap.objs.size,upd H s.heap.objs.size (.lst (z.cps.toList.map λc=>V.str ⟨#[c]⟩)),I.laid (t':=tk) (h':=h') hk (zK _) ?_,rfl,q _ hn⟩;refine⟨by rw[qQ,qw];exact hz,acc.toList,c,ZCr ?_ λi v u h1 h2=>?_,by simpa using hS⟩
 ·rw[qQ,qw,qw];exact hacc.1.symm
 ·rw[zx,zI]at h1;obtain⟨k,e1,rfl⟩:=h1;obtain⟨k',t',e2,rfl⟩:=hacc.2 i u (by rw[<-qH];exact h2);rw[qH,e2]at e1;cases e1;exact⟨t',rfl⟩
theorem ZCd(hc:X.calm=vG):CallR X (.type "list") (lRn X.K E Mx):=(ZLZ.or (ZSw hc)).mono λvs H Q h=>by
 obtain⟨a,G,ds,hk,rfl,s,r,q⟩:=h;unfold Mx at q;split at q
 ·rename_i z;split at q
  ·rename_i hl;obtain⟨v,rfl,rv⟩:=reps1 r
   cases(show v=V.str z from rv)
   exact .inr ⟨z,rfl,zB hl size6,λl hl=>Mt s (Reps.signs z) q l hl⟩
  ·exact q.elim
 ·rename_i d _;split at q
  ·rename_i xs hs;obtain⟨v,rfl,rv⟩:=reps1 r;obtain⟨p,us,rfl,h1,r1⟩:=Lq s rv hs;exact .inl ⟨p,us,rfl,by rw[<-hk];exact h1,λl hl=>Mt s r1 q l hl⟩
  ·exact q.elim
 ·exact q.elim
noncomputable def Xm(ds:List D)(G:DH):R D:=match ds with
 |[.int i,.int j]=>.ok (.int (if j>i then j else i)) G
 |_=>.bad
noncomputable def Ng(ds:List D)(G:DH):R D:=match ds with
 |[.int i,.int j]=>.ok (.int (if j<i then j else i)) G
 |_=>.bad
theorem ZNs(hc:X.calm=vG):CallR X (.builtin "max") (lRn X.K E Xm):=(ZMr hc).mono λvs H Q h=>by
 obtain⟨a,G,ds,hk,rfl,s,r,q⟩:=h;unfold Xm at q;split at q
 ·obtain⟨v,v',rfl,h1,h2⟩:=reps2 r
  cases(show v=V.int _ from h1)
  cases(show v'=V.int _ from h2)
  exact⟨_,_,rfl,q a _ (Ext.refl a) s rfl⟩
 ·exact q.elim
theorem Ys(hc:X.calm=vG):CallR X (.builtin "min") (lRn X.K E Ng):=(ZKw hc).mono λvs H Q h=>by
 obtain⟨a,G,ds,hk,rfl,s,r,q⟩:=h;unfold Ng at q;split at q
 ·obtain⟨v,v',rfl,h1,h2⟩:=reps2 r
  cases(show v=V.int _ from h1)
  cases(show v'=V.int _ from h2)
  exact⟨_,_,rfl,q a _ (Ext.refl a) s rfl⟩
 ·exact q.elim
noncomputable def Fq(o:D)(ds:List D)(G:DH):R D:=match o,ds with
 |.ref i,[d]=>match G[i]? with
  |some (.lst xs)=>if xs.length<1000000 then .ok .non (G.set i (.lst (xs++[d])))else .bad
  |_=>.bad
 |_,_=>.bad
def lRm(K:PySem.W.Frag)(E:XK)(f:D->List D->DH->R D):V->List V->Hp->VK->Prop:=λx xs H Q=>∃(a:Wd)(G:DH)(d:D)(ds:List D),a.K=K/\a.H=H/\Sim a G/\Rep a d x/\Reps a ds xs/\out E a (f d ds G) Q
theorem Sim.isList(s:Sim a G)(h:G[i]?=vE (.lst xs)):∃vs,SqL a.K a.H (a.m i) vs:=let⟨vs,e,_⟩:=s.lst h;⟨vs,.of e⟩
theorem Gw:MtM X "list.append" (lRm X.K E Fq):=ZRb.mono λx xs H Q h=>by
 obtain⟨a,G,d,ds,hk,rfl,s,rd,r,q⟩:=h;unfold Fq at q;split at q
 ·rename_i i d;obtain⟨v,rfl,rv⟩:=reps1 r;split at q
  ·rename_i ys hy;split at q
   ·rename_i hl;obtain⟨vs,e1,r1⟩:=s.lst hy;obtain⟨x3,s3⟩:=ZCc s rd.1 e1 (r1.append (Reps.cons rv Reps.nil));refine⟨a.m i,vs,v,rd.2,rfl,e1,by rw[<-r1.length];exact zq hl size6,?_⟩;exact q _ .non x3 s3 rfl
   ·exact q.elim
  ·exact q.elim
 ·exact q.elim
variable{o e:xX}{es:List xX}{to:DE}{t:DA}{name:Str}{apos cpos:Pos}{T id:String}{f:D->List D->DH->R D}
noncomputable def isL(d:D)(G:DH):Bool:=match d with
 |.ref i=>match G[i]? with
  |some (.lst _)=>vG
  |_=>vH
 |.fl _=>vG
 |_=>vH
def Fi(f:D->List D->DH->R D)(o:DE)(t:DA):DE:=λS G=>(o S G).bind λx G1=>if isL x G1=vG then(t S G1).bind λxs G2=>f x xs G2 else .bad
theorem ZMS{x:V}(s:Sim a G)(r:Rep a d x)(h:isL d G=vG):tyV a.K "list" x a.H:=by
 cases d with
 |ref i=>
  unfold isL at h;dsimp only at h;split at h
  ·rename_i xs hx;cases r.2;exact .inl ⟨rfl,s.isList hx⟩
  ·cases h
 |fl xs=>
  obtain⟨p,vs,rfl,q,_⟩:=r;exact .inl ⟨rfl,vs,q.sq⟩
 |_=>cases h
theorem Gi(slot:Slot "list" name id)(hty:typeOf (.builtin id)=pure (.type "method_descriptor"))(hm:MtM X id (lRm X.K E f))(ho:QE X E o to)(ha:QA X E (e::es) t)
  (hbase:xy o name X.env (eval o X.env)=eval o X.env:=by rfl)
  (hfew:((x0 cpos (vW (e::es) X.env)).all (λx=> !x.1)&&(xB cpos (xT [] X.env)).all (λx=>x.1.isSome)
   && decide ((e::es).length+([]:List Keyword).length+(if([]:List Keyword).isEmpty then 0 else 1)<30))=vG:=by rfl)
  (hline:(apos.endLine==cpos.line)=vG:=by rfl) (hs:vW (e::es) X.env=(vH,eval e X.env)::vW es X.env:=by rfl) (hplain:(x0 cpos (vW es X.env)).any (·.1)=vH:=by rfl):
  QE X E (.Call (.Attribute o name apos) (e::es) [] cpos) (Fi f to t):=(ZSe PySem.F.plainAttrs_list slot hty hm ho ha hbase hfew hline hs hplain).mono λσ H Q h=>by
 obtain⟨a,S,G,hk,rfl,s,r,h⟩:=h;refine⟨a,S,G,hk,rfl,s,r,(Gq h).imp ?_⟩;rintro v _ ⟨b,d,G1,rfl,x,s1,q,-,h1⟩;split at h1
 ·rename_i hl;have ty:=ZMS s1 q hl;rw[x.k,hk]at ty;refine⟨ty,b,S,G1,x.k.trans hk,rfl,s1,r.mono x,(O2 h1).imp ?_⟩;rintro vs _ ⟨c,ds,G2,rfl,y,s2,q2,-,h2⟩;exact⟨c,G2,d,ds,y.k.trans (x.k.trans hk),rfl,s2,q.mono y,q2,h2⟩
 ·exact h1.elim
end
inductive Ty where|non|bl|int|str|tup|lst
noncomputable def tyD(G:DH):D->Option Ty
 |.non=>vE .non
 |.bl _=>vE .bl
 |.int _=>vE .int
 |.str _=>vE .str
 |.tup _=>vE .tup
 |.fl _=>vE .lst
 |.ref i=>match G[i]? with
  |some (.lst _)=>vE .lst
  |_=>vF
 |.ty _=>vF
noncomputable def Ty.sub(t:Ty):String->Option Bool
 |"int"=>vE (match t with | .int=>vG | .bl=>vG|_=>vH)
 |"bool"=>vE (match t with | .bl=>vG|_=>vH)
 |"str"=>vE (match t with | .str=>vG|_=>vH)
 |"tuple"=>vE (match t with | .tup=>vG|_=>vH)
 |"list"=>vE (match t with | .lst=>vG|_=>vH)
 |_=>vF
def Ih(ds:List D)(G:DH):R D:=match ds with
 | [d,.ty T]=>match tyD G d with
  |some t=>match t.sub T with
   |some k=>.ok (.bl k) G
   |none=>.bad
  |none=>.bad
 |_=>.bad
section
variable{prog:xK}{w:xw}{A:xJ}{E:xj->xq->Prop}{s:xq}
theorem Np{x:xj}{Tx T:String}{Q:xj->xq->Prop}(hx:s.TypeIs x Tx)(hty:typeOf (.type T)=pure (.type "type"))(hsub:xM (.type Tx) (.type T)=pure vG)(h:Q (.bool vG) s):
  vY (vZ prog w) A (call (.builtin "isinstance") [x,.type T]) Q E s:=xF (isinstance_true hty hsub) ⟨hx,h⟩
end
theorem ty_int:typeOf (.type "int")=pure (.type "type"):=by with_unfolding_all rfl
theorem ty_bool:typeOf (.type "bool")=pure (.type "type"):=by with_unfolding_all rfl
theorem ty_str:typeOf (.type "str")=pure (.type "type"):=by with_unfolding_all rfl
theorem ty_tuple:typeOf (.type "tuple")=pure (.type "type"):=by with_unfolding_all rfl
theorem ty_list:typeOf (.type "list")=pure (.type "type"):=by with_unfolding_all rfl
theorem ZQL:xM (.type "NoneType") (.type "int")=pure vH:=by with_unfolding_all rfl
theorem ZRy:xM (.type "NoneType") (.type "bool")=pure vH:=by with_unfolding_all rfl
theorem ZQd:xM (.type "NoneType") (.type "str")=pure vH:=by with_unfolding_all rfl
theorem ZOV:xM (.type "NoneType") (.type "tuple")=pure vH:=by with_unfolding_all rfl
theorem ZL4:xM (.type "NoneType") (.type "list")=pure vH:=by with_unfolding_all rfl
theorem ZMi:xM (.type "bool") (.type "int")=pure vG:=by with_unfolding_all rfl
theorem ZP8:xM (.type "bool") (.type "bool")=pure vG:=by with_unfolding_all rfl
theorem ZLi:xM (.type "bool") (.type "str")=pure vH:=by with_unfolding_all rfl
theorem ZQI:xM (.type "bool") (.type "tuple")=pure vH:=by with_unfolding_all rfl
theorem ZNW:xM (.type "bool") (.type "list")=pure vH:=by with_unfolding_all rfl
theorem ZMy:xM (.type "int") (.type "int")=pure vG:=by with_unfolding_all rfl
theorem ZPQ:xM (.type "int") (.type "bool")=pure vH:=by with_unfolding_all rfl
theorem ZMx:xM (.type "int") (.type "str")=pure vH:=by with_unfolding_all rfl
theorem ZR2:xM (.type "int") (.type "tuple")=pure vH:=by with_unfolding_all rfl
theorem ZMu:xM (.type "int") (.type "list")=pure vH:=by with_unfolding_all rfl
theorem ZRG:xM (.type "str") (.type "int")=pure vH:=by with_unfolding_all rfl
theorem ZKq:xM (.type "str") (.type "bool")=pure vH:=by with_unfolding_all rfl
theorem ZLK:xM (.type "str") (.type "str")=pure vG:=by with_unfolding_all rfl
theorem ZSY:xM (.type "str") (.type "tuple")=pure vH:=by with_unfolding_all rfl
theorem ZL9:xM (.type "str") (.type "list")=pure vH:=by with_unfolding_all rfl
theorem ZLg:xM (.type "tuple") (.type "int")=pure vH:=by with_unfolding_all rfl
theorem ZOQ:xM (.type "tuple") (.type "bool")=pure vH:=by with_unfolding_all rfl
theorem ZRa:xM (.type "tuple") (.type "str")=pure vH:=by with_unfolding_all rfl
theorem ZOF:xM (.type "tuple") (.type "tuple")=pure vG:=by with_unfolding_all rfl
theorem ZNi:xM (.type "tuple") (.type "list")=pure vH:=by with_unfolding_all rfl
theorem ZJX:xM (.type "list") (.type "int")=pure vH:=by with_unfolding_all rfl
theorem ZHJ:xM (.type "list") (.type "bool")=pure vH:=by with_unfolding_all rfl
theorem ZIQ:xM (.type "list") (.type "str")=pure vH:=by with_unfolding_all rfl
theorem ZHH:xM (.type "list") (.type "tuple")=pure vH:=by with_unfolding_all rfl
theorem ZFa:xM (.type "list") (.type "list")=pure vG:=by with_unfolding_all rfl
section
variable{X:Cx}{E:XK}
theorem Ze:CallR X (.builtin "isinstance") (lRn X.K E Ih):=by
 intro vD s σ H vs us Q I rs h;obtain⟨a,G,ds,hk,rfl,sm,r,q⟩:=h;unfold Ih at q;split at q
 ·rename_i d T;obtain⟨v,v',rfl,h1,h2⟩:=reps2 r
  cases(show v'=V.ty T from h2)
  obtain⟨u,u',rfl,ru,ru'⟩:∃u u',us=[u,u']/\RelV v u/\RelV (.ty T) u':=by
   cases rs with
   |cons p q=>cases q with
    |cons p' q'=>cases q';exact⟨_,_,rfl,p,p'⟩
  cases(show u'=Value.type T from ru')
  split at q
  ·rename_i t ht;split at q
   ·rename_i k hk';have fin:∀{n:Nat},EP X vD σ Q (.bool k) {s with toks:=n}:=λ{n}=>⟨.bl k,a.H,I.tok _,rfl,q a _ (Ext.refl a) sm rfl⟩
    have fin0:EP X vD σ Q (.bool k) s:=⟨.bl k,a.H,I,rfl,q a _ (Ext.refl a) sm rfl⟩;unfold Ty.sub at hk';split at hk'
    ·cases d with
     |non=>
      cases ht;cases hk'
      cases(show v=_ from h1)
      cases ru;exact xF (xP (by decide) ty_int ZQL) fin
     |bl b=>
      cases ht;cases hk'
      cases(show v=_ from h1)
      cases ru;exact Np (Tx:="bool") rfl ty_int ZMi fin0
     |int b=>
      cases ht;cases hk'
      cases(show v=_ from h1)
      obtain⟨tk,rfl⟩:=ru;exact Np (Tx:="int") (typeIs_int s _ _) ty_int ZMy fin0
     |str b=>
      cases ht;cases hk'
      cases(show v=_ from h1)
      obtain⟨tk,rfl⟩:=ru;exact xF (xR (by decide) ty_int ZRG) fin
     |tup b=>
      cases ht;cases hk';obtain⟨p,ws,rfl,hq,_⟩:=h1;cases ru;rw[hk]at hq;obtain⟨its,_,pl,_⟩:=I.tuple hq;exact xF (xS (by decide) ty_int ZLg) ⟨(let⟨o,e,c,_⟩:=pl;⟨o,e,c⟩),fin⟩
     |fl b=>
      cases ht;cases hk';obtain⟨p,ws,rfl,hq,_⟩:=h1;cases ru;have hq:=hq.sq;rw[hk]at hq;obtain⟨its,_,pl,_⟩:=I.list hq;exact xF (xO (by decide) ty_int ZJX) ⟨(let⟨o,e,c,_⟩:=pl.isList;⟨o,e,c⟩),fin⟩
     |ref b=>
      unfold tyD at ht;dsimp only at ht;split at ht
      ·rename_i xs hx;cases ht;cases hk';obtain⟨ws,e1,_⟩:=sm.lst hx;cases h1.2;cases ru;obtain⟨its,_,pl,_⟩:=I.list (.of e1);exact xF (xO (by decide) ty_int ZJX) ⟨(let⟨o,e,c,_⟩:=pl.isList;⟨o,e,c⟩),fin⟩
      ·cases ht
     |ty n=>cases ht
    ·cases d with
     |non=>
      cases ht;cases hk'
      cases(show v=_ from h1)
      cases ru;exact xF (xP (by decide) ty_bool ZRy) fin
     |bl b=>
      cases ht;cases hk'
      cases(show v=_ from h1)
      cases ru;exact Np (Tx:="bool") rfl ty_bool ZP8 fin0
     |int b=>
      cases ht;cases hk'
      cases(show v=_ from h1)
      obtain⟨tk,rfl⟩:=ru;exact xF (xN (by decide) ty_bool ZPQ) fin
     |str b=>
      cases ht;cases hk'
      cases(show v=_ from h1)
      obtain⟨tk,rfl⟩:=ru;exact xF (xR (by decide) ty_bool ZKq) fin
     |tup b=>
      cases ht;cases hk';obtain⟨p,ws,rfl,hq,_⟩:=h1;cases ru;rw[hk]at hq;obtain⟨its,_,pl,_⟩:=I.tuple hq;exact xF (xS (by decide) ty_bool ZOQ) ⟨(let⟨o,e,c,_⟩:=pl;⟨o,e,c⟩),fin⟩
     |fl b=>
      cases ht;cases hk';obtain⟨p,ws,rfl,hq,_⟩:=h1;cases ru;have hq:=hq.sq;rw[hk]at hq;obtain⟨its,_,pl,_⟩:=I.list hq;exact xF (xO (by decide) ty_bool ZHJ) ⟨(let⟨o,e,c,_⟩:=pl.isList;⟨o,e,c⟩),fin⟩
     |ref b=>
      unfold tyD at ht;dsimp only at ht;split at ht
      ·rename_i xs hx;cases ht;cases hk';obtain⟨ws,e1,_⟩:=sm.lst hx;cases h1.2;cases ru;obtain⟨its,_,pl,_⟩:=I.list (.of e1);exact xF (xO (by decide) ty_bool ZHJ) ⟨(let⟨o,e,c,_⟩:=pl.isList;⟨o,e,c⟩),fin⟩
      ·cases ht
     |ty n=>cases ht
    ·cases d with
     |non=>
      cases ht;cases hk'
      cases(show v=_ from h1)
      cases ru;exact xF (xP (by decide) ty_str ZQd) fin
     |bl b=>
      cases ht;cases hk'
      cases(show v=_ from h1)
      cases ru;exact xF (isinstance_false_bool (by decide) ty_str ZLi) fin
     |int b=>
      cases ht;cases hk'
      cases(show v=_ from h1)
      obtain⟨tk,rfl⟩:=ru;exact xF (xN (by decide) ty_str ZMx) fin
     |str b=>
      cases ht;cases hk'
      cases(show v=_ from h1)
      obtain⟨tk,rfl⟩:=ru;exact Np (Tx:="str") (typeIs_str s _ _) ty_str ZLK fin0
     |tup b=>
      cases ht;cases hk';obtain⟨p,ws,rfl,hq,_⟩:=h1;cases ru;rw[hk]at hq;obtain⟨its,_,pl,_⟩:=I.tuple hq;exact xF (xS (by decide) ty_str ZRa) ⟨(let⟨o,e,c,_⟩:=pl;⟨o,e,c⟩),fin⟩
     |fl b=>
      cases ht;cases hk';obtain⟨p,ws,rfl,hq,_⟩:=h1;cases ru;have hq:=hq.sq;rw[hk]at hq;obtain⟨its,_,pl,_⟩:=I.list hq;exact xF (xO (by decide) ty_str ZIQ) ⟨(let⟨o,e,c,_⟩:=pl.isList;⟨o,e,c⟩),fin⟩
     |ref b=>
      unfold tyD at ht;dsimp only at ht;split at ht
      ·rename_i xs hx;cases ht;cases hk';obtain⟨ws,e1,_⟩:=sm.lst hx;cases h1.2;cases ru;obtain⟨its,_,pl,_⟩:=I.list (.of e1);exact xF (xO (by decide) ty_str ZIQ) ⟨(let⟨o,e,c,_⟩:=pl.isList;⟨o,e,c⟩),fin⟩
      ·cases ht
     |ty n=>cases ht
    ·cases d with
     |non=>
      cases ht;cases hk'
      cases(show v=_ from h1)
      cases ru;exact xF (xP (by decide) ty_tuple ZOV) fin
     |bl b=>
      cases ht;cases hk'
      cases(show v=_ from h1)
      cases ru;exact xF (isinstance_false_bool (by decide) ty_tuple ZQI) fin
     |int b=>
      cases ht;cases hk'
      cases(show v=_ from h1)
      obtain⟨tk,rfl⟩:=ru;exact xF (xN (by decide) ty_tuple ZR2) fin
     |str b=>
      cases ht;cases hk'
      cases(show v=_ from h1)
      obtain⟨tk,rfl⟩:=ru;exact xF (xR (by decide) ty_tuple ZSY) fin
     |tup b=>
      cases ht;cases hk';obtain⟨p,ws,rfl,hq,_⟩:=h1;cases ru;rw[hk]at hq;obtain⟨its,_,pl,_⟩:=I.tuple hq;exact Np (Tx:="tuple") pl.typeIs ty_tuple ZOF fin0
     |fl b=>
      cases ht;cases hk';obtain⟨p,ws,rfl,hq,_⟩:=h1;cases ru;have hq:=hq.sq;rw[hk]at hq;obtain⟨its,_,pl,_⟩:=I.list hq;exact xF (xO (by decide) ty_tuple ZHH) ⟨(let⟨o,e,c,_⟩:=pl.isList;⟨o,e,c⟩),fin⟩
     |ref b=>
      unfold tyD at ht;dsimp only at ht;split at ht
      ·rename_i xs hx;cases ht;cases hk';obtain⟨ws,e1,_⟩:=sm.lst hx;cases h1.2;cases ru;obtain⟨its,_,pl,_⟩:=I.list (.of e1);exact xF (xO (by decide) ty_tuple ZHH) ⟨(let⟨o,e,c,_⟩:=pl.isList;⟨o,e,c⟩),fin⟩
      ·cases ht
     |ty n=>cases ht
    ·cases d with
     |non=>
      cases ht;cases hk'
      cases(show v=_ from h1)
      cases ru;exact xF (xP (by decide) ty_list ZL4) fin
     |bl b=>
      cases ht;cases hk'
      cases(show v=_ from h1)
      cases ru;exact xF (isinstance_false_bool (by decide) ty_list ZNW) fin
     |int b=>
      cases ht;cases hk'
      cases(show v=_ from h1)
      obtain⟨tk,rfl⟩:=ru;exact xF (xN (by decide) ty_list ZMu) fin
     |str b=>
      cases ht;cases hk'
      cases(show v=_ from h1)
      obtain⟨tk,rfl⟩:=ru;exact xF (xR (by decide) ty_list ZL9) fin
     |tup b=>
      cases ht;cases hk';obtain⟨p,ws,rfl,hq,_⟩:=h1;cases ru;rw[hk]at hq;obtain⟨its,_,pl,_⟩:=I.tuple hq;exact xF (xS (by decide) ty_list ZNi) ⟨(let⟨o,e,c,_⟩:=pl;⟨o,e,c⟩),fin⟩
     |fl b=>
      cases ht;cases hk';obtain⟨p,ws,rfl,hq,_⟩:=h1;cases ru;have hq:=hq.sq;rw[hk]at hq;obtain⟨its,_,pl,_⟩:=I.list hq;exact Np (Tx:="list") pl.isList.typeIs ty_list ZFa fin0
     |ref b=>
      unfold tyD at ht;dsimp only at ht;split at ht
      ·rename_i xs hx;cases ht;cases hk';obtain⟨ws,e1,_⟩:=sm.lst hx;cases h1.2;cases ru;obtain⟨its,_,pl,_⟩:=I.list (.of e1);exact Np (Tx:="list") pl.isList.typeIs ty_list ZFa fin0
      ·cases ht
     |ty n=>cases ht
    ·cases hk'
   ·exact q.elim
  ·exact q.elim
 ·exact q.elim
end
noncomputable def Hz:List D->Option (List Int)
 |[]=>vE []
 |.int i::r=>(Hz r).map (i::·)
 |_=>vF
noncomputable def Iz:List D->Option (List Bool)
 |[]=>vE []
 |.bl i::r=>(Iz r).map (i::·)
 |_=>vF
@[simp]theorem ZBi(ns:List Int):Hz (ns.map D.int)=vE ns:=by
 induction ns with
 |nil=>rfl
 |cons n ns ih=>simp[Hz,ih]
@[simp]theorem ZUN(ns:List Bool):Iz (ns.map D.bl)=vE ns:=by
 induction ns with
 |nil=>rfl
 |cons n ns ih=>simp[Iz,ih]
theorem Vd:∀{xs:List D}{ns:List Int},Hz xs=vE ns->xs=ns.map D.int
 |[],ns,h=>by cases h;rfl
 |.int i::r,ns,h=>by simp only[Hz,zI]at h;obtain⟨ms,h1,rfl⟩:=h;rw[zk,Vd h1]
 |.non::r,ns,h=>by simp[Hz]at h
 |.bl _::r,ns,h=>by simp[Hz]at h
 |.str _::r,ns,h=>by simp[Hz]at h
 |.ty _::r,ns,h=>by simp[Hz]at h
 |.tup _::r,ns,h=>by simp[Hz]at h
 |.fl _::r,ns,h=>by simp[Hz]at h
 |.ref _::r,ns,h=>by simp[Hz]at h
theorem ZG0:∀{xs:List D}{ns:List Bool},Iz xs=vE ns->xs=ns.map D.bl
 |[],ns,h=>by cases h;rfl
 |.bl i::r,ns,h=>by simp only[Iz,zI]at h;obtain⟨ms,h1,rfl⟩:=h;rw[zk,ZG0 h1]
 |.non::r,ns,h=>by simp[Iz]at h
 |.int _::r,ns,h=>by simp[Iz]at h
 |.str _::r,ns,h=>by simp[Iz]at h
 |.ty _::r,ns,h=>by simp[Iz]at h
 |.tup _::r,ns,h=>by simp[Iz]at h
 |.fl _::r,ns,h=>by simp[Iz]at h
 |.ref _::r,ns,h=>by simp[Iz]at h
def Pn(ds:List D)(G:DH):R D:=match ds with
 | [d]=>match Cj d G with
  |some xs=>match Iz xs with
   |some ns=>.ok (.bl (ns.all id)) G
   |none=>.bad
  |none=>.bad
 |_=>.bad
section
variable{X:Cx}{E:XK}{vD:List (xZ×Obj)}{σ:St}{s:xq}{H:Hp}
theorem ZBM(I:Inv X vD σ H s)(hc:X.calm=vG)(h:SqL X.K H p vs∨SqT X.K H p vs){E':xj->xq->Prop}{Q:xj->xq->Prop}
  (hQ:∀(it:xZ)(fp wr:List xZ)(its:List xj)(St:Nat->Heap->Prop)(s₂:xq),Vals vs its->Walks X.prog X.w X.A.in1 it fp wr its.toArray.size (λi v=>its.toArray[i]?=vE v) St->St 0 s₂.heap->(∀b∈fp,b<s₂.heap.objs.size)->
   (∀h' tk,(∀b o,b∉wr->s₂.heap.get? b=vE o->h'.get? b=vE o)->Inv X vD σ H {s₂ with heap:=h',toks:=tk})->Q (.ref it) s₂):
  vY (vZ X.prog X.w) X.A.in1 (pyIter (.ref p)) Q E' s:=by
 have hh:X.A.in1.handled=vF:=I.ok.hd hc;rcases h with h|h
 ·obtain⟨its,r,pl,hz⟩:=I.list h;refine wpAny_pyIter_list pl.isList ?_;have hp:p<s.heap.objs.size:=by obtain⟨o,e,_⟩:=pl.isList;exact zj e
  refine hQ _ _ _ its _ _ r (Walks.list hh _ p (zE hp) its.toArray) ⟨⟨_,z0 _ rfl,rfl,rfl⟩,?_⟩ (λb hb=>?_) λh' tk kk=>?_
  ·obtain⟨o,e,c⟩:=pl.isList;exact⟨o,zQ _ e,c⟩
  ·show b<(s.heap.push _).objs.size;rw[qy];rcases zw.mp hb with rfl|hb
   ·exact zU _
   ·have e:b=p:=by simpa using hb
    subst e;exact qC hp
  ·refine I.kept λb o e=>kk b o (λhb=>?_) (zQ _ e)
   have e2:b=s.heap.objs.size:=by simpa using hb
   subst e2;exact absurd (zj e) (zT _)
 ·obtain⟨its,r,pl,hz⟩:=I.tuple h
  refine wpAny_pyIter_tuple (show s.heap.IsTuple p its.toArray from pl) ?_
  have hp:p<s.heap.objs.size:=by obtain⟨o,e,_⟩:=pl;exact zj e
  refine hQ _ _ _ its _ _ r (Walks.tuple hh _ p (zE hp) its.toArray) ⟨⟨_,z0 _ rfl,rfl,rfl⟩,?_⟩ (λb hb=>?_) λh' tk kk=>?_
  ·obtain⟨o,e,c⟩:=pl;exact⟨o,zQ _ e,c⟩
  ·show b<(s.heap.push _).objs.size;rw[qy];rcases zw.mp hb with rfl|hb
   ·exact zU _
   ·have e:b=p:=by simpa using hb
    subst e;exact qC hp
  ·refine I.kept λb o e=>kk b o (λhb=>?_) (zQ _ e)
   have e2:b=s.heap.objs.size:=by simpa using hb
   subst e2;exact absurd (zj e) (zT _)
theorem ZDe:∀{ns:List Int}{vs:List V},Reps a (ns.map D.int) vs->vs=ns.map V.int
 |[],vs,h=>h
 |n::ns,vs,h=>by
  obtain⟨v,r,e,h1,h2⟩:=h
  cases(show v=V.int n from h1)
  rw[e,ZDe h2]
  rfl
theorem ZIw:∀{ns:List Bool}{vs:List V},Reps a (ns.map D.bl) vs->vs=ns.map V.bl
 |[],vs,h=>h
 |n::ns,vs,h=>by
  obtain⟨v,r,e,h1,h2⟩:=h
  cases(show v=V.bl n from h1)
  rw[e,ZIw h2]
  rfl
theorem all_range(ns:List Bool):(zZ ns.length).all (λi=>ns.getD i vG)=ns.all id:=by
 rw[Bool.eq_iff_iff,qK,qK];constructor
 ·intro h b hb;obtain⟨i,hi,rfl⟩:=q9 hb;simpa[hi]using h i (qW.mpr hi)
 ·intro h i hi;have hi':i<ns.length:=qW.mp hi;simpa[hi']using h ns[i] (qx hi')
theorem ZGO(hc:X.calm=vG):CallR X (.builtin "all") (lRn X.K E Pn):=by
 intro vD s σ H vs us Q I rs h;obtain⟨a,G,ds,hk,rfl,sm,r,q⟩:=h;unfold Pn at q;split at q
 ·rename_i d;obtain⟨v,rfl,rv⟩:=reps1 r;split at q
  ·rename_i xs hs;split at q
   ·rename_i ns hn;cases ZG0 hn;obtain⟨p,ws,rfl,h1,r1⟩:=Lq sm rv hs;cases ZIw r1;rw[hk]at h1;obtain⟨u,rfl,ru⟩:=vals1 rs;cases ru;refine call_all_walk (ZBM I hc h1 λit fp wr its St s₂ hv W st hfp fin=>⟨it,fp,wr,its.toArray.size,_,St,λi=>ns.getD i vG,rfl,W,st,λi w s' Q' E' hw hQ'=>?_,λh' tk kk=>?_⟩)
    ·have hw':its[i]?=vE w:=by simpa using hw
     have hl:i<(ns.map V.bl).length:=by rw[hv.length];exact(zF.mp hw').1
     have hl':i<ns.length:=by simpa using hl
     obtain⟨u,hu,ru⟩:=hv.get (i:=i) (x:=V.bl ns[i]) (by simp[hl']);rw[hw']at hu;cases hu;cases ru;refine v9 ?_;simpa[hl']using hQ'
    ·refine⟨.bl (ns.all id),a.H,fin h' tk kk,?_,q a _ (Ext.refl a) sm rfl⟩;have hl:its.toArray.size=ns.length:=by rw[zY,<-hv.length];simp
     rw[hl,all_range]
     rfl
   ·exact q.elim
  ·exact q.elim
 ·exact q.elim
end
section
variable{X:Cx}{vD:List (xZ×Obj)}{σ:St}{H:Hp}{s:xq}
theorem ZAf{a:xZ}{o:HO}(I:Inv X vD σ H s)(hn:H a=vF)(hy:X.s₀.heap.objs.size<=a)(hL:a≠X.env.locals)(hc:∀x c,X.env.cells.lookup x=vE c->c≠a)(hp:∀p∈X.pn++vD,p.1≠a)
  (new:ObjOk X.prog X.w (upd H a o) s.heap a o):Inv X vD σ (upd H a o) s:=by
 have ne:∀b u,H b=vE u->b≠a:=λb u e z=>by rw[z,hn]at e;cases e
 refine⟨I.ok,I.os,I.bare,⟨I.base.keep,I.base.slot,λb ob q n hx=>?_,I.base.there,λb xs q=>?_,λb ob u q=>?_,λb ps q=>?_⟩,I.loc,I.cell,?_,λx c e=>?_,λp hp'=>?_,λb u e=>?_,I.len⟩
 ·rw[Bd (zE (zq (zj q) hy))];exact I.base.free b ob q n hx
 ·have:=I.base.tups b xs q;rw[Bd (ne _ _ this)];exact this
 ·have:=I.base.frzs b ob u q;rw[Bd (ne _ _ this)];exact this
 ·obtain⟨more,this⟩:=I.base.tbls b ps q;exact⟨more,by rw[Bd (ne _ _ this)];exact this⟩
 ·rw[Bd (Ne.symm hL)];exact I.free
 ·rw[Bd (hc x c e)];exact I.Jk x c e
 ·obtain⟨e1,e2,e3⟩:=I.pin p hp';exact⟨e1,by rw[Bd (hp p hp')];exact e2,e3⟩
 ·by_cases hb:b=a
  ·subst hb;rw[Gk]at e;cases e;exact new
  ·rw[Bd hb]at e;exact(I.hok b u e).stay (λ_ _ _ q=>q) (λc q=>by rw[Bd (ne _ _ q)];exact q) λc xs q=>by rw[Bd (ne _ _ q)];exact q
end
noncomputable def Gp(env:Env):List (Str×xW)->List (Str×xZ)->List (Str×xZ)
 |[],cs=>cs
 |(n,k)::r,cs=>if(k==NameKind.free)=vG then Gp env r ((n,(env.cells.lookup n).getD 0)::cs)else Gp env r cs
theorem ZEn(h:∀y∈scope.names,y.2=.free->∃c,env.cells.lookup y.1=vE c):closureFor scope env=pure (Gp env scope.names []):=by
 unfold closureFor;obtain⟨kind,names,g1,g2⟩:=scope;have key:∀(names:List (Str×xW))(cs:List (Str×xZ)),(∀y∈names,y.2=.free->∃c,env.cells.lookup y.1=vE c)->
   (forIn names cs (λx r=>match x with
    |(name,kind)=>if(kind==NameKind.free)=vG then(do let c<-cellOf env name;pure (ForInStep.yield ((name,c)::r)))else pure (ForInStep.yield r)):Sem (List (Str×xZ)))=pure (Gp env names cs):=by
  intro names
  induction names with
  |nil=>intro cs _;rfl
  | cons y r ih=>
   intro cs hy;obtain⟨n,k⟩:=y;rw[jR];by_cases hk:(k==NameKind.free)=vG
   ·obtain⟨c,hc⟩:=hy (n,k) zW (by simpa using hk)
    have e1:cellOf env n=pure c:=by unfold cellOf;rw[show env.cells.lookup n=vE c from hc]
    have e2:Gp env ((n,k)::r) cs=Gp env r ((n,c)::cs):=by rw[Gp,if_pos hk,show env.cells.lookup n=vE c from hc];rfl
    rw[e2,<-ih ((n,c)::cs) λy' hy'=>hy y' (zX _ hy')];simp only[hk,if_true,e1]
    rfl
   ·have e2:Gp env ((n,k)::r) cs=Gp env r cs:=by rw[Gp,if_neg hk]
    rw[e2,<-ih cs λy' hy'=>hy y' (zX _ hy')];simp only[hk]
    rfl
 have:=key names [] h;exact congrArg (λm:Sem (List (Str×xZ))=>m >>=λr=>pure r) this
theorem ZBa:∀{names:List (Str×xW)}{cs:List (Str×xZ)},(∀y∈names,y.2=.free->∃c,env.cells.lookup y.1=vE c)->(∀p∈cs,env.cells.lookup p.1=vE p.2)->∀p∈Gp env names cs,env.cells.lookup p.1=vE p.2
 |[],cs,_,hc,p,hp=>hc p hp
 | (n,k)::r,cs,hn,hc,p,hp=>by
  rw[Gp]at hp;split at hp
  ·rename_i hk;obtain⟨c,e⟩:=hn (n,k) zW (by simpa using hk);refine ZBa (λy hy=>hn y (zX _ hy)) (λq hq=>?_) p hp;rcases zw.mp hq with rfl|hq
   ·rw[show env.cells.lookup n=vE c from e];rfl
   ·exact hc q hq
  ·exact ZBa (λy hy=>hn y (zX _ hy)) hc p hp
theorem W9:∀{names:List (Str×xW)}{cs:List (Str×xZ)},((x,.free)∈names∨∃c,(x,c)∈cs)->∃c,(x,c)∈Gp env names cs
 |[],cs,h=>by
  rcases h with h|h
  ·cases h
  ·exact h
 | (n,k)::r,cs,h=>by
  rw[Gp];split
  ·refine W9 ?_;rcases h with h|⟨c,h⟩
   ·rcases zw.mp h with e|h
    ·cases e;exact .inr ⟨_,zW⟩
    ·exact .inl h
   ·exact .inr ⟨c,zX _ h⟩
  ·rename_i hk;refine W9 ?_;rcases h with h|h
   ·rcases zw.mp h with e|h
    ·cases e;exact absurd rfl hk
    ·exact .inl h
   ·exact .inr h
theorem ZEG{c:xZ}:∀{l:List (Str×xZ)},(x,c)∈l->∃d,l.lookup x=vE d
 |[],h=>by cases h
 | (y,d)::l,h=>by
  by_cases e:x=y
  ·subst e;exact⟨d,by simp⟩
  ·rcases zw.mp h with z|h
   ·cases z;exact absurd rfl e
   ·obtain⟨d',q⟩:=ZEG h;exact⟨d',by rw[jQ,beq_eq_false_iff_ne.mpr e];exact q⟩
theorem ZIO(x:Str):(relabel scope env).names.lookup x=(scope.names.lookup x).map λk=>if(k==NameKind.free&&env.scope.kind == .function&&env.kindOf x==vE .cell)=vG then .cell else k:=by
 unfold relabel;generalize scope.names=l
 induction l with
 |nil=>rfl
 | cons y r ih=>
  obtain⟨n,k⟩:=y;by_cases e:x=n
  ·subst e;simp only[zk]
   cases hc:(k==NameKind.free&&env.scope.kind==ScopeKind.function&&env.kindOf x==vE NameKind.cell) <;>
    simp only[hc,if_true,jQ,beq_self_eq_true,Option.map_some,jx,if_false]
  ·have hb:(x==n)=vH:=beq_eq_false_iff_ne.mpr e;simp only[zk];split
   ·rw[jQ,jQ,hb];exact ih
   ·rw[jQ,jQ,hb];exact ih
def blk(X:Cx)(N:List Str)(scope:xY)(C:xZ)(s₀:xq)(H₀:Hp)(ex:List xZ):Cx where
 prog:=X.prog
 w:=X.w
 K:=X.K
 mg:=X.mg
 base:=X.base
 A:=X.A
 N:=N
 s₀:=s₀
 H₀:=H₀
 env:=compEnvC scope (Gp X.env scope.names []) C X.env
 outer:=X.stack
 stack:=X.stack
 ex:=ex
 fn:=λ_=>vH
 calm:=X.calm
 pn:=[]
 xe:=λ_ _=>False
structure CompSc (X:Cx) (N:List Str) (scope:xY) (nt:Nat) (caps:List Nat):Prop where
 kind:scope.kind=.function
 names:∀y∈scope.names,y.2=.local->scope.names.lookup y.1=vE .local
 nocell:∀y∈scope.names,y.2≠ .cell
 free:∀y∈scope.names,y.2=.free->X.env.kindOf y.1=vE .cell∨X.env.kindOf y.1=vE .free
 nd:N.Nodup
 len:N.length=nt+caps.length
 cap:∀(k j:Nat),caps[k]?=vE j->∃x,X.N[j]?=vE x/\N[nt+k]?=vE x/\scope.names.lookup x=vE .free
section
variable{X:Cx}{vD:List (xZ×Obj)}{σ:St}{H:Hp}{s:xq}{N:List Str}{scope:xY}{nt:Nat}{caps:List Nat}
theorem CompSc.cells(c:CompSc X N scope nt caps)(ok:X.Ok):∀y∈scope.names,y.2=.free->∃c,X.env.cells.lookup y.1=vE c:=λy hy hk=>ok.has y.1 (c.free y hy hk)
theorem CompSc.cl(c:CompSc X N scope nt caps)(ok:X.Ok){d:xZ}(h:(Gp X.env scope.names []).lookup x=vE d):X.env.cells.lookup x=vE d:=
 ZBa (c.cells ok) (λp hp=>by cases hp) (x,d) (PySem.mem_of_lookup h)
theorem ZTB(c:CompSc X N scope nt caps)(I:Inv X vD σ H s){fp:List xZ}(hf:∀b∈fp,FpOk X vD H b){C:xZ}(hC:s.heap.objs.size<=C)(hCf:C∉fp):(blk X N scope C s H fp).Ok where
 mod:=I.ok.mod
 kind:=c.kind
 glob:=I.ok.glob
 blt:=I.ok.blt
 above:=hC
 inj:=λx y d h1 h2=>I.ok.inj x y d (c.cl I.ok h1) (c.cl I.ok h2)
 has:=λx h=>by
  have h':(relabel scope X.env).names.lookup x=vE .cell∨(relabel scope X.env).names.lookup x=vE .free:=h;rw[ZIO]at h';have hfree:scope.names.lookup x=vE .free:=by
   cases e:scope.names.lookup x with
   |none=>rw[e]at h';rcases h' with h'|h'<;>cases h'
   |some k=>
    rw[e]at h';cases k with
    |free=>rfl
    |cell=>exact absurd rfl (c.nocell _ (PySem.mem_of_lookup e))
    |_=>rcases h' with h'|h'<;>(simp at h')
  obtain⟨d,hd⟩:=W9 (env:=X.env) (x:=x) (names:=scope.names) (cs:=[]) (.inl (PySem.mem_of_lookup hfree));exact ZEG hd
 cab:=λx d h=>by cases h
 hd:=I.ok.hd
 frames:=I.ok.frames
 stk:=.inl rfl
 exf:=λb hb=>⟨λz=>hCf (by rw[<-show b=C from z];exact hb),λx d h=>(hf b hb).2.2.2.2.1 x d (c.cl I.ok h)⟩
 bs:=I.bs
 bsz:=zB I.ok.bsz I.sz
 noex:=λb o e hb=>by
  rcases(hf b hb).2.2.2.1 with h|h
  ·exact I.ok.noex b o e h
  ·exact absurd (zq (zj (I.ok.bs b o e).1) h) (zT _)
 exfs:=λb hb hz=>by
  rcases zw.mp (I.Z2 b hz)with z|z
  ·exact(hf b hb).2.1 z
  ·exact(hf b hb).2.2.1 z
 funs:=I.stack
 frf:=I.ZFz
end
def Du(g:DG)(c:DB)(te:DE)(S:DSt):List D->DH->R (List D)
 |[],G=>.ok [] G
 | x::xs,G=>(g x S G).bind λS1 G1=>(c S1 G1).bind λk G2=>
   if k=vG then(te S1 G2).bind λd G3=>(Du g c te S xs G3).bind λds G4=>.ok (d::ds) G4 else Du g c te S xs G2
def Hy(i:Nat)(g:DG)(c:DB)(te:DE)(S:DSt):Nat->Nat->DH->R (List D)
 |0,j,G=>match G[i]? with
  |some (.lst xs)=>if xs.length<=j then .ok [] G else .bad
  |_=>.bad
 | n + 1,j,G=>match G[i]? with
  |some (.lst xs)=>match xs[j]? with
   | some x=>(g x S G).bind λS1 G1=>(c S1 G1).bind λk G2=>
     if k=vG then(te S1 G2).bind λd G3=>(Hy i g c te S n (j+1) G3).bind λds G4=>.ok (d::ds) G4 else Hy i g c te S n (j+1) G2
   |none=>.ok [] G
  |_=>.bad
def Dw(f:Nat->DH->Option (Option D))(g:DG)(c:DB)(te:DE)(S:DSt):Nat->Nat->DH->R (List D)
 |0,j,G=>match f j G with
  |some vF=>.ok [] G
  |_=>.bad
 | n + 1,j,G=>match f j G with
  |some (vE x)=>(g x S G).bind λS1 G1=>(c S1 G1).bind λk G2=>
     if k=vG then(te S1 G2).bind λd G3=>(Dw f g c te S n (j+1) G3).bind λds G4=>.ok (d::ds) G4 else Dw f g c te S n (j+1) G2
  |some vF=>.ok [] G
  |none=>.bad
noncomputable def Bm(nt:Nat)(caps:List Nat)(S:DSt):DSt:=zV nt vF++caps.map λj=>(S[j]?).join
def Ec(it:DI)(nt:Nat)(caps:List Nat)(g:DG)(c:DB)(te:DE):DE:=λS G=>(it S G).bind λJ G1=>(match J with
 |.pure xs=>Du g c te (Bm nt caps S) xs G1
 |.mt i=>match G1[i]? with
  |some (.lst xs)=>Hy i g c te (Bm nt caps S) xs.length 0 G1
  |_=>.bad
 |.fn n f=>Dw f g c te (Bm nt caps S) n 0 G1).bind Av
noncomputable def Cd:DB:=λ_ G=>.ok vG G
def GK(nt:Nat)(g:DG):Prop:=∀d S G S1 G1,g d S G=.ok S1 G1->∀i e,nt<=i->S[i]?=vE (vE e)->S1[i]?=vE (vE e)
def GKs(nt:Nat)(g:DGs):Prop:=∀d S G S1 G1,g d S G=.ok S1 G1->∀i e,nt<=i->S[i]?=vE (vE e)->S1[i]?=vE (vE e)
theorem Ds(h:i<nt):GK nt (gV i):=λd S G S1 G1 e j x hj hx=>by cases e;rw[qM (by lia)];exact hx
theorem Nm:GKs nt Bj:=λd S G S1 G1 e j x hj hx=>by
 cases d with
 |nil=>cases e;exact hx
 |cons _ _=>cases e
theorem Ii{t:DG}{u:DGs}(h1:GK nt t)(h2:GKs nt u):GKs nt (Am t u):=λd S G S1 G1 e j x hj hx=>by
 cases d with
 |nil=>cases e
 |cons a r=>
  have e':(t a S G).bind (λS1 G1=>u r S1 G1)=.ok S1 G1:=e;cases ht:t a S G with
  |ok S2 G2=>rw[ht]at e';exact h2 _ _ _ _ _ e' j x hj (h1 _ _ _ _ _ ht j x hj hx)
  |err _ _=>rw[ht]at e';cases e'
  |bad=>rw[ht]at e';cases e'
theorem Nj{n:Nat}{t:DGs}(h:GKs nt t):GK nt (Bg n t):=λd S G S1 G1 e j x hj hx=>by
 cases d with
 |tup ds=>
  unfold Bg at e;dsimp only at e;split at e
  ·exact h _ _ _ _ _ e j x hj hx
  ·cases e
 |_=>cases e
theorem ZOE{r:R DSt}{f:DSt->DH->R D}(h:out E a (r.bind f) Q):
  Gx E a r (λσ H=>∃(b:Wd)(S:DSt)(G:DH),b.H=H/\Ext a b/\Sim b G/\RepS b S σ/\r=.ok S G/\out E b (f S G) Q):=by
 cases r with
 |ok d G=>exact λb v x s q=>⟨b,d,G,rfl,x,s,q,rfl,out.mono x h⟩
 |err e G=>exact h
 |bad=>exact h
theorem R.bind_assoc{γ:Type}(r:R α)(f:α->DH->R β)(g:β->DH->R γ):(r.bind f).bind g=r.bind λa G=>(f a G).bind g:=by cases r<;>rfl
theorem ZHr{r:R ItD}{f:ItD->DH->R D}(h:out E a (r.bind f) Q):
  outI E a r (λJ H=>∃(b:Wd)(d:ItD)(G:DH),b.H=H/\Ext a b/\Sim b G/\RepI b d J/\r=.ok d G/\out E b (f d G) Q):=by
 cases r with
 |ok d G=>exact λb v x s q=>⟨b,d,G,rfl,x,s,q,rfl,out.mono x h⟩
 |err e G=>exact h
 |bad=>exact h
section
variable{prog:xK}{w:xw}{A:xJ}{R':Result->xq->Prop}{s:xq}
theorem ZPd{elt target iter:xX}{ifs:List xX}{scope:xY}{pos:Pos}{it acc:xj}{env:Env}(I:Nat->xq->Prop)
  (turn:∀n s,I n s->vY (vZ prog w) A (pyNext it) (λr s₁=>match r with
   |none=>R' (.ok .next) s₁
   | some v=>vY (vZ prog w) A (xU target it v) (λ_ s₁=>vY (vZ prog w) A (assign target env v) (λ_ s₂=>
     vY (vZ prog w) A (forIn ifs vG λc r=>if r=vG then do let ok<-isTrue c env (eval c env);pure (ForInStep.yield ok)else pure (ForInStep.yield r)) (λok s₃=>
      if ok=vG then vY (vZ prog w) A (eval elt env) (λx s₄=>
       vY (vZ prog w) A (call (.builtin "list.append") [acc,x]) (λ_ s₅=>∃m,m<n/\I m s₅) (λ_ _=>False) s₄) (λ_ _=>False) s₃
      else∃m,m<n/\I m s₃) (λ_ _=>False) s₂) (λ_ _=>False) s₁) (λ_ _=>False) s₁) (λ_ _=>False) s)
  (n:Nat) (h:I n s):
  codeAny (vZ prog w) A (.compLoop (.ListComp elt [⟨target,iter,ifs,0⟩] scope pos) 0 it acc env) R' s:=by
 refine codeAny_loop rfl I (λn s hI=>?_) n h
 show vY _ A ((compTurn (.ListComp elt [⟨target,iter,ifs,0⟩] scope pos) 0 it acc env).onRaise (λx=>do noteFrame x env;theTreesLotGoes x)) _ _ s
 refine wpAny_noted ?_;rw[compTurn_list];refine v4 ?_ (λ_ _ q=>q) (λ_ _(f:False)=>f.elim);refine vz (wpAny_standAt (vz (v4 (turn n s hI) (λr s₁ h₁=>?_) λ_ _ h'=>h')));cases r with
 |none=>exact v7 h₁
 | some v=>
  refine vz (v4 h₁ (λ_ s₂' h₁=>?_) λ_ _ h'=>h');refine vz (v4 h₁ (λ_ s₂ h₂=>vz (v4 h₂ (λok s₃ h₃=>?_) λ_ _ h'=>h')) λ_ _ h'=>h');cases ok with
  |false=>exact v7 ⟨rfl,h₃⟩
  |true=>
   exact vz (vz (v4 h₃ (λx s₄ h₄=>vz (v4 h₄ (λ_ s₅ h₅=>v7 (v7 ⟨rfl,h₅⟩)) λ_ _ h'=>h')) λ_ _ h'=>h'))
end
def QTs(X:Cx)(E:XK)(ifs:List xX)(t:DB):Prop:=
 ∀(vD:List (xZ×Obj))(s:xq)(σ:St)(H:Hp)(Q:Bool->Hp->Prop),Inv X vD σ H s->lB X.K E t σ H Q->
  vY (vZ X.prog X.w) X.A (forIn ifs vG λc r=>if r=vG then do let ok<-isTrue c X.env (eval c X.env);pure (ForInStep.yield ok)else pure (ForInStep.yield r)) (TP X vD σ Q) X.xe s
theorem Fl:QTs X E [] Cd:=λvD s σ H Q I h=>by obtain⟨a,S,G,hk,rfl,sm,r,h⟩:=h;exact wpAny_tests_nil ⟨a.H,I,h a (Ext.refl a) sm⟩
theorem ZPC{c:xX}{t:DB}(hc:QT X E c t):QTs X E [c] t:=λvD s σ H Q I h=>wpAny_tests_one (hc vD s σ H Q I h)
section
variable{X:Cx}{E:XK}{N:List Str}{scope:xY}{nt:Nat}{caps:List Nat}{tg elt iter:xX}{ifs:List xX}{pos:Pos}{it:DI}{g:DG}{c:DB}{te:DE}
theorem ZMD(r:RepS a S σ):RepS a (Bm nt caps S) (zV nt vF++caps.map λj=>(σ[j]?).join):=by
 refine⟨by simp[Bm],λi d h=>?_⟩;unfold Bm at h;by_cases hi:i<nt
 ·rw[zR (by simpa using hi),qT]at h
  split at h<;>cases h
 ·rw [zG (by simpa using hi),zx]at h;rw[zG (by simpa using hi),zx];rw[jF]at h⊢;cases e:caps[i-nt]? with
  |none=>rw[e]at h;cases h
  | some j=>
   rw[e]at h;have h1:(S[j]?).join=vE d:=by simpa using h
   have h2:S[j]?=vE (vE d):=by
    cases q:S[j]? with
    |none=>rw[q]at h1;cases h1
    |some o=>
     rw[q]at h1;have h1':o=vE d:=h1;rw[h1']
   obtain⟨v,ev,rv⟩:=r.get j d h2;exact⟨v,by simp[ev],rv⟩
theorem ZNt(h:(Bm nt caps S)[i]?=vE (vE d)):nt<=i:=by
 unfold Bm at h;by_cases hi:i<nt
 ·rw[zR (by simpa using hi),qT]at h
  split at h<;>cases h
 ·lia
theorem ZD4 (hc:X.calm=vG) (cs:CompSc X N scope nt caps)
  (hg:∀C s₀ H₀ ex,QG (blk X N scope C s₀ H₀ ex) E0 tg g) (gk:GK nt g) (hts:∀C s₀ H₀ ex,QTs (blk X N scope C s₀ H₀ ex) E0 ifs c) (he:∀C s₀ H₀ ex,QE (blk X N scope C s₀ H₀ ex) E0 elt te)
  {vD:List (xZ×Obj)} {σ:St} {s:xq} {a:Wd} {S:DSt} {G:DH} {J:It} {n0:Nat} {f:Nat->DH->Option (Option D)} {i0:xZ} {fp:List xZ} {tn:Nat->Heap->Prop} (I:Inv X vD σ a.H s) (hk:a.K=X.K) (sm:Sim a G) (rS:RepS a S σ)
  (T:Turn X.prog X.w X.K tg J fp i0 tn) (t0:tn 0 s.heap) (hf:∀b∈fp,FpOk X vD a.H b) (rJ:RepI a (.fn n0 f) J) {Q:VK}
  (h:out E0 a ((Dw f g c te (Bm nt caps S) n0 0 G).bind Av) Q)
  {RR:xj->xZ->Result->xq->Prop} {E':xj->xq->Prop}
  (hRR:∀(D C:xZ)(s':xq)(b:Wd)(vs:List V),Inv X vD σ (upd b.H D (.lst vs)) s'->b.H D=vF->s.heap.objs.size<=C->D≠C->(∃m,s'.heap.Ns C m)->b.H C=vF->Q (.ref D) (upd b.H D (.lst vs))->RR (.ref D) C (.ok .next) s'):
  vY (vZ X.prog X.w) X.A (newList []) (λacc s₃=>vY (vZ X.prog X.w) X.A (newFunctionEnv scope X.env.globals (Gp X.env scope.names []) [] X.env.qual vF .none (vE X.env)) (λcenv s₄=>
   codeAny (vZ X.prog X.w) X.A (.compStart (.ListComp elt [⟨tg,iter,ifs,0⟩] scope pos) 0 (.ref i0) acc {cenv with scope:=relabel scope X.env}) (RR acc cenv.locals) s₄) E' s₃) E' s:=by
 refine v5 (wpAny_newFunctionEnv cs.nocell (by intro y hy;simp at hy) (λh₁ hns₁ hsb₁=>?_) cs.kind);dsimp only at hns₁ hsb₁⊢;generalize hH2:s.heap.push {cls:=.type "list",dict:=vF,data:=.seq ([]:List xj).toArray}=H2 at hns₁ hsb₁⊢;have hC:H2.objs.size=s.heap.objs.size+1:=by rw[<-hH2,qy]
 have hDC:s.heap.objs.size≠H2.objs.size:=by rw[hC];exact zE (zU _)
 have hCle:s.heap.objs.size<=H2.objs.size:=by rw[hC];exact jk _
 have fpOld:∀b∈fp,b<s.heap.objs.size:=λb hb=>by obtain⟨o,e,_⟩:=T.obj 0 _ t0 b hb;exact zj e
 have hDf:s.heap.objs.size∉fp:=λhm=>zT _ (fpOld _ hm)
 have hCf:H2.objs.size∉fp:=λhm=>by have:=fpOld _ hm;rw[hC]at this;exact zT _ (Nat.lt_of_succ_lt this)
 have old:∀b o,s.heap.get? b=vE o->h₁.get? b=vE o:=λb o e=>
  hsb₁.extBut b o (by rw[hC];exact zE (qC (zj e))) (zQ _ (hH2▸zQ _ e))
 have hacc:h₁.PlainList s.heap.objs.size ([]:List xj).toArray:=⟨_,hsb₁.extBut _ _ hDC (zQ _ (hH2▸z0 _ rfl))⟩;generalize hCe:H2.objs.size=C at*;generalize hDe:s.heap.objs.size=Dd at*;let B:=blk X N scope C s a.H fp;have okB:B.Ok:=ZTB cs I hf (by rw[hDe];exact hCle) hCf;let σ0:St:=zV nt vF++caps.map λj=>(σ[j]?).join
 have start:∀tk,Inv B [] σ0 a.H {s with heap:=h₁,toks:=tk}:=λtk=>by
  refine⟨okB,rfl,I.bare,Un.kept old,⟨_,hns₁,λi x v e1 e2 e3=>?_⟩,λx d' e=>?_,I.hok.fresh (by rw[hDe];exact hCle),λx d' e=>?_,λp hp=>?_,I.hok.kept old,?_⟩
  ·have hi:nt<=i:=by
    by_cases hi:i<nt
    ·have e2':σ0[i]?=vE (vE v):=e2;rw[zR (by simpa using hi),qT]at e2'
     split at e2'<;>cases e2'
    ·lia
   have e2':σ0[i]?=vE (vE v):=e2;rw[zG (by simpa using hi),zx,jF]at e2';cases ej:caps[i-nt]? with
   |none=>rw[ej]at e2';cases e2'
   | some j=>
    rw[ej]at e2';have h1:(σ[j]?).join=vE v:=by simpa using e2'
    have h2:σ[j]?=vE (vE v):=by
     cases q:σ[j]? with
     |none=>rw[q]at h1;cases h1
     |some o=>
      rw[q]at h1;have h1':o=vE v:=h1;rw[h1']
    obtain⟨y,ey,en,ek⟩:=cs.cap (i-nt) j ej;have exy:x=y:=by
     have:nt+(i-nt)=i:=by lia
     rw[this]at en;have e1':N[i]?=vE x:=e1;rw[e1']at en;exact Option.some.inj en
    subst exy;have kx:=cs.free (x,.free) (PySem.mem_of_lookup ek) rfl;have vis:Vis X.env.scope x:=by
     rcases kx with kx|kx
     ·exact .inr (.inl kx)
     ·exact .inr (.inr kx)
    obtain⟨m,hn,hl⟩:=I.loc;obtain⟨u,ru,lk⟩:=hl j x v ey h2 vis;refine⟨u,ru,?_⟩;rcases lk with⟨k1,_⟩|⟨k1,c1,ec,hcell⟩
    ·rcases kx with kx|kx
     ·rw[k1]at kx;cases kx
     ·rw[k1]at kx;cases kx
    ·refine .inr ⟨?_,c1,?_,?_⟩
     ·show(relabel scope X.env).names.lookup x=vE .cell∨(relabel scope X.env).names.lookup x=vE .free;rw[ZIO,ek];simp only[Option.map_some];split
      ·exact .inl rfl
      ·exact .inr rfl
     ·obtain⟨d1,hd1⟩:=W9 (env:=X.env) (x:=x) (names:=scope.names) (cs:=[]) (.inl (PySem.mem_of_lookup ek));obtain⟨d2,hd2⟩:=ZEG hd1;have:=cs.cl I.ok hd2;rw[ec]at this;cases this;exact hd2
     ·obtain⟨o,e,dd⟩:=hcell;exact⟨o,old _ _ e,dd⟩
  ·obtain⟨v,o,e',dd⟩:=I.cell x d' (cs.cl I.ok e);exact⟨v,o,old _ _ e',dd⟩
  ·exact I.Jk x d' (cs.cl I.ok e)
  ·exact absurd hp (by simp[B,blk])
  ·show σ0.length=N.length;rw[cs.len];simp[σ0]
 have rS0:RepS a (Bm nt caps S) σ0:=ZMD rS;have aD:a.H Dd=vF:=I.hok.fresh (by rw[hDe];exact zK _);have young:∀b∈fp,b≠C:=λb hb z=>hCf (z▸hb)
 have fpB:∀{H':Hp}{ps:List (xZ×Obj)},(∀b∈fp,H' b=vF)->(∀p∈ps,p.1∉fp)->∀b∈fp,FpOk B ps H' b:=λ{H' ps}hn hps b hb=>
  ⟨hn b hb,young b hb,okB.exfs b hb,.inl hb,λx d' e=>(hf b hb).2.2.2.2.1 x d' (cs.cl I.ok e),λp hp z=>by
   have hp':p∈ps:=by simpa[B,blk]using hp
   exact hps p hp' (z▸hb)⟩
 have nstk:Dd∉frs X.stack:=λz=>by
  rcases zw.mp (I.Z2 Dd z)with z|z
  ·have:=I.lt;rw[hDe,<-z]at this;exact zT _ this
  ·exact I.nofs (by rw[hDe];exact zK _) z
 have pinD:∀{σ':St}{H':Hp}{s':xq}{its:List xj}{nD:Nat},Inv B [] σ' H' s'->s'.heap.get? Dd=vE {cls:=.type "list",data:=.seq its.toArray nD}->H' Dd=vF->Inv B [(Dd,{cls:=.type "list",data:=.seq its.toArray nD})] σ' H' s':=λ{σ' H' s' its nD}J e n=>
  J.Mi λp hp=>by
   have ep:p=(Dd,{cls:=.type "list",data:=.seq its.toArray nD}):=by simpa using hp
   subst ep;exact⟨e,n,hDC,nstk,λv' z=>by cases z⟩
 have fin:∀(s':xq)(b:Wd)(σ':St)(its:List xj)(ds:List D)(G':DH),Inv B [] σ' b.H s'->Ext a b->Sim b G'->s'.heap.PlainList Dd its.toArray->b.H Dd=vF->(∃vs,Vals vs its/\Reps b ds vs)->out E0 b (Av ds G') Q->RR (.ref Dd) C (.ok .next) s':=by
  intro s' b σ' its ds G' IB x sb pl hD ⟨vs,hv,rv⟩ hq;have hz:ds.length<=1000000:=by
   unfold Av at hq;split at hq
   ·assumption
   ·exact hq.elim
  have Ix:Inv X vD σ b.H s':=I.call' IB.os IB.base IB.hok IB.bare λb hb=>⟨(hf b hb).2.2.2.1,(hf b hb).2.1,(hf b hb).2.2.2.2.1,(hf b hb).2.2.2.2.2⟩
  obtain⟨n,eD⟩:=pl;have ylt:∀{q:xZ}{o:Obj},s.heap.get? q=vE o->q≠Dd:=λe z=>by rw[z,<-hDe]at e;exact absurd (zj e) (zT _)
  have Ia:Inv X vD σ (upd b.H Dd (.lst vs)) s':=by
   refine ZAf Ix hD (by rw[<-hDe];exact I.sz) ?_ (λy c' ec=>?_) (λp hp=>?_) ⟨?_,its,n,hv,eD⟩
   ·rw[<-hDe];exact jJ I.lt
   ·obtain⟨v,o,e,_⟩:=I.cell y c' ec;exact ylt e
   ·exact ylt (I.pin p hp).1
   ·rw[<-rv.length];exact zB hz size6
  refine hRR Dd C s' b vs Ia hD hCle hDC (let⟨m,hn,_⟩:=IB.loc;⟨m,hn⟩) IB.free ?_;unfold Av at hq;rw[if_pos hz]at hq;exact Mt sb rv hq Dd hD
 have turnX:∀(n:Nat)(P:Nat->xq->Prop)(rest:DH->R (List D))(s1:xq)(b:Wd)(G1:DH)(σ1:St)(its:List xj)(acc:List D)(u:xj)(v:V)(x:D)(i:Nat),Inv B [] σ1 b.H s1->Ext a b->Sim b G1->RepS b (Bm nt caps S) σ1->tn i s1.heap->(∀q∈fp,b.H q=vF)->
   s1.heap.PlainList Dd its.toArray->b.H Dd=vF->(∃vs,Vals vs its/\Reps b acc vs)->RelV v u->Rep b x v->
   out E0 b (((g x (Bm nt caps S) G1).bind λS1 G1=>(c S1 G1).bind λk G2=>if k=vG then(te S1 G2).bind λd G3=>(rest G3).bind λds G4=>.ok (d::ds) G4 else rest G2).bind λds G=>Av (acc++ds) G) Q->
   (∀(s2:xq)(b2:Wd)(G2:DH)(σ2:St)(its2:List xj)(acc2:List D),Inv B [] σ2 b2.H s2->Ext a b2->Sim b2 G2->RepS b2 (Bm nt caps S) σ2->tn i s2.heap->(∀q∈fp,b2.H q=vF)->
    s2.heap.PlainList Dd its2.toArray->b2.H Dd=vF->(∃vs,Vals vs its2/\Reps b2 acc2 vs)->out E0 b2 ((rest G2).bind λds G=>Av (acc2++ds) G) Q->∃m,m<n/\P m s2)->
   vY (vZ X.prog X.w) X.A (assign tg B.env u) (λ_ s₂=>
     vY (vZ X.prog X.w) X.A (forIn ifs vG λc r=>if r=vG then do let ok<-isTrue c B.env (eval c B.env);pure (ForInStep.yield ok)else pure (ForInStep.yield r)) (λok s₃=>
      if ok=vG then vY (vZ X.prog X.w) X.A (eval elt B.env) (λx s₄=>
       vY (vZ X.prog X.w) X.A (call (.builtin "list.append") [.ref Dd,x]) (λ_ s₅=>∃m,m<n/\P m s₅) (λ_ _=>False) s₄) (λ_ _=>False) s₃
      else∃m,m<n/\P m s₃) (λ_ _=>False) s₂) (λ_ _=>False) s1:=by
  intro n P rest s1 b G1 σ1 its acc u v x i I1 x1 sb rSb t1 hfp pl hD hacc' ru rx hq next
  rw[R.bind_assoc]at hq;obtain⟨nD,eD⟩:=id pl;let pinD:List (xZ×Obj):=[(Dd,{cls:=.type "list",data:=.seq its.toArray nD})];have pinOk:∀{σ':St}{H':Hp}{s':xq},Inv B (pinD++Q5 fp s1.heap) σ' H' s'->s'.heap.PlainList Dd its.toArray/\H' Dd=vF/\tn i s'.heap/\∀q∈fp,H' q=vF:=λ{σ' H' s'}J=>by
   have p1:=J.pin (Dd,{cls:=.type "list",data:=.seq its.toArray nD}) (zN _ (jO _ (by simp[pinD])));refine⟨⟨nD,p1.1⟩,p1.2.1,T.keep _ _ _ t1 λq hq' o e=>(J.pin (q,o) (zN _ (zN _ (Wq hq' e)))).1,λq hq'=>?_⟩;obtain⟨o,e,_⟩:=T.obj _ _ t1 q hq';exact(J.pin (q,o) (zN _ (zN _ (Wq hq' e)))).2.1
  have I2:Inv B (pinD++Q5 fp s1.heap) σ1 b.H s1:=I1.Mi λp hp=>by
   rcases j7.mp hp with hp|hp
   ·have e:p=(Dd,{cls:=.type "list",data:=.seq its.toArray nD}):=by simpa[pinD]using hp
    subst e;refine⟨eD,hD,hDC,λz=>?_,λv' z=>by cases z⟩;exact nstk z
   ·obtain⟨hb,e⟩:=ZGm hp;obtain⟨f0,f1,f2,_⟩:=fpB (ps:=[]) hfp (λp hp=>by cases hp) p.1 hb;obtain⟨o,e',dd⟩:=T.obj _ _ t1 p.1 hb;rw[e]at e';cases e';exact⟨e,f0,f1,f2,dd⟩
  refine thn (hg C s a.H fp _ s1 σ1 b.H v u _ I2 ru ⟨b,Bm nt caps S,G1,x,x1.k.trans hk,rfl,sb,rSb,rx,(ZOE hq).imp λ_ _ z=>z⟩) ?_;rintro _ s2 ⟨σ2,H2',J2,b2,S2,G2,rfl,y2,sb2,rS2,eg,hq2⟩;rw[R.bind_assoc]at hq2;have rS2':RepS b2 (Bm nt caps S) σ2:=⟨by have h1:=J2.len;have h2:σ1.length=N.length:=I1.len;rw[rSb.len,h2];exact h1.symm,λj e' hj=>rS2.get j e' (gk _ _ _ _ _ eg j e' (ZNt hj) hj)⟩
  refine thn (hts C s a.H fp _ s2 σ2 b2.H _ J2 ⟨b2,S2,G2,y2.k.trans (x1.k.trans hk),rfl,sb2,rS2,(ZIp hq2).imp λ_ _ z=>z⟩) ?_;rintro k s3 ⟨H3,J3,b3,G3,rfl,y3,sb3,_,hq3⟩;cases k with
  |false=>
   obtain⟨p1,p2,p3,p4⟩:=pinOk J3;have Jn:Inv B [] σ2 b3.H s3:=J3.Mi λp hp=>by cases hp
   obtain⟨vs,hv,rv⟩:=hacc'
   exact next s3 b3 G3 σ2 its acc Jn (x1.trans (y2.trans y3)) sb3 (rS2'.mono y3) p3 p4 p1 p2 ⟨vs,hv,(rv.mono y2).mono y3⟩ hq3
  | true=>
   have hq3':out E0 b3 (((te S2 G3).bind λd G3=>(rest G3).bind λds G4=>.ok (d::ds) G4).bind λds G=>Av (acc++ds) G) Q:=hq3;rw[R.bind_assoc]at hq3';refine thn (he C s a.H fp _ s3 σ2 b3.H _ J3 ⟨b3,S2,G3,y3.k.trans (y2.k.trans (x1.k.trans hk)),rfl,sb3,rS2.mono y3,(Gq hq3').imp λ_ _ z=>z⟩) ?_;rintro w s4 ⟨vw,H4,J4,rw',b4,d4,G4,rfl,y4,sb4,q4,_,hq4⟩;obtain⟨p1,p2,p3,p4⟩:=pinOk J4;rw[R.bind_assoc]at hq4
   have hq4':out E0 b4 ((rest G4).bind λds G=>Av ((acc++[d4])++ds) G) Q:=by
    have e:(λ(ds:List D)(G:DH)=>(R.ok (d4::ds) G).bind λds G=>Av (acc++ds) G)=λds G=>Av ((acc++[d4])++ds) G:=by funext ds G;simp
    rw[<-e];exact hq4
   obtain⟨vs,hv,rv⟩:=hacc';have hsz:its.toArray.size<=sizeLine:=by
    have:acc.length<=1000000:=by
     cases hr:rest G4 with
     |ok ds G5=>
      rw[hr]at hq4';have hq5:out E0 b4 (Av ((acc++[d4])++ds) G5) Q:=hq4';unfold Av at hq5;split at hq5
      ·rename_i hl;simp at hl;lia
      ·exact hq5.elim
     |err e' G5=>rw[hr]at hq4';exact hq4'.elim
     |bad=>rw[hr]at hq4';exact hq4'.elim
    rw[zY,<-hv.length,<-rv.length];exact zB this size6
   refine wpAny_list_append_plain p1 (λh' hpl hsb=>?_) hsz;have Jn:Inv B [] σ2 b4.H s4:=J4.Mi λp hp=>by cases hp
   have J5:Inv B [] σ2 b4.H {s4 with heap:=h'}:=by refine Jn.turned (it:=Dd) (t':=s4.toks) (λq o hq' e=>(hsb.2 q hq').trans e) p2 hDC (.inr (by show s.heap.objs.size<=Dd;rw[hDe];exact zK _)) (λy c' ec=>?_) (λp hp=>absurd hp (by simp[B,blk]));obtain⟨v',o,e,_⟩:=I.cell y c' (cs.cl I.ok ec);intro z;rw[z,<-hDe]at e;exact absurd (zj e) (zT _)
   refine next _ b4 G4 σ2 (its++[w]) (acc++[d4]) J5 (x1.trans (y2.trans (y3.trans y4))) sb4 ((rS2'.mono y3).mono y4) (T.keep _ _ _ p3 λq hq' o e=>(hsb.2 q (λz=>hDf (z▸hq'))).trans e) p4 (by simpa using hpl) p2 ⟨vs++[vw],hv.append (.cons rw' .nil),(((rv.mono y2).mono y3).mono y4).append (Reps.cons q4 Reps.nil)⟩ hq4'
 have loop:∀s₃:xq,s₃={s with heap:=h₁,toks:=s.toks+([]:List (Str×xj)).length}->
   codeAny (vZ X.prog X.w) X.A (.compLoop (.ListComp elt [⟨tg,iter,ifs,0⟩] scope pos) 0 (.ref i0) (.ref Dd) B.env) (RR (.ref Dd) C) s₃:=by
  rintro s₃ rfl;have t1:tn 0 h₁:=T.keep _ _ _ t0 λq _ o e=>old q o e
  have fp0:∀q∈fp,a.H q=vF:=λq hq=>(hf q hq).1
  have walk:∀b:Wd,Ext a b->∀G,Sim b G->∀i,(∀d,f i G=vE (vE d)->J.go i b.H/\∀x H',J.yld i b.H x H'->∃c:Wd,c.H=H'/\Ext b c/\Sim c G/\Rep c d x)/\(f i G=vE vF->J.stop i b.H):=rJ;refine ZPd (λm s'=>∃(i:Nat)(b:Wd)(G':DH)(σ':St)(its:List xj)(acc:List D),Inv B [] σ' b.H s'/\Ext a b/\Sim b G'/\RepS b (Bm nt caps S) σ'/\tn i s'.heap/\(∀q∈fp,b.H q=vF)/\s'.heap.PlainList Dd its.toArray/\b.H Dd=vF/\(∃vs,Vals vs its/\Reps b acc vs)/\
   out E0 b ((Dw f g c te (Bm nt caps S) m i G').bind λds G=>Av (acc++ds) G) Q) ?_ n0 ⟨0,a,G,σ0,[],[],start _,Ext.refl a,sm,rS0,t1,fp0,hacc,aD,⟨[],.nil,rfl⟩,by simpa using h⟩
  rintro m s' ⟨i,b,G',σ',its,acc,IB,x,sb,rSb,ti,hfp,pl,hD,hac,hq⟩;obtain⟨nD,eD⟩:=pl;have I0:=pinD IB eD hD;have f0:=fpB (ps:=[(Dd,{cls:=.type "list",data:=.seq its.toArray nD})]) hfp (λp hp=>by
   have ep:p=(Dd,{cls:=.type "list",data:=.seq its.toArray nD}):=by simpa using hp
   subst ep;exact hDf)
  have stop:J.stop i b.H->out E0 b (Av acc G') Q->vY (vZ X.prog X.w) X.A (pyNext (.ref i0)) (λr s₁=>match r with
    |none=>RR (.ref Dd) C (.ok .next) s₁
    | some v=>vY (vZ X.prog X.w) X.A (xU tg (.ref i0) v) (λ_ s₁=>vY (vZ X.prog X.w) X.A (assign tg B.env v) (λ_ s₂=>
     vY (vZ X.prog X.w) X.A (forIn ifs vG λc r=>if r=vG then do let ok<-isTrue c B.env (eval c B.env);pure (ForInStep.yield ok)else pure (ForInStep.yield r)) (λok s₃=>
      if ok=vG then vY (vZ X.prog X.w) X.A (eval elt B.env) (λx s₄=>
       vY (vZ X.prog X.w) X.A (call (.builtin "list.append") [.ref Dd,x]) (λ_ s₅=>∃m',m'<m/\∃(i:Nat)(b:Wd)(G':DH)(σ':St)(its:List xj)(acc:List D),Inv B [] σ' b.H s₅/\Ext a b/\Sim b G'/\RepS b (Bm nt caps S) σ'/\tn i s₅.heap/\(∀q∈fp,b.H q=vF)/\s₅.heap.PlainList Dd its.toArray/\b.H Dd=vF/\(∃vs,Vals vs its/\Reps b acc vs)/\
        out E0 b ((Dw f g c te (Bm nt caps S) m' i G').bind λds G=>Av (acc++ds) G) Q) (λ_ _=>False) s₄) (λ_ _=>False) s₃
      else∃m',m'<m/\∃(i:Nat)(b:Wd)(G':DH)(σ':St)(its:List xj)(acc:List D),Inv B [] σ' b.H s₃/\Ext a b/\Sim b G'/\RepS b (Bm nt caps S) σ'/\tn i s₃.heap/\(∀q∈fp,b.H q=vF)/\s₃.heap.PlainList Dd its.toArray/\b.H Dd=vF/\(∃vs,Vals vs its/\Reps b acc vs)/\
        out E0 b ((Dw f g c te (Bm nt caps S) m' i G').bind λds G=>Av (acc++ds) G) Q) (λ_ _=>False) s₂) (λ_ _=>False) s₁) (λ_ _=>False) s₁) (λ_ _=>False) s':=by
   intro st hq';refine thn (T.done B rfl rfl rfl hc i _ s' σ' b.H _ I0 f0 ti st) ?_;rintro r s1 ⟨rfl,I2⟩;have pD:=(I2.pin (Dd,{cls:=.type "list",data:=.seq its.toArray nD}) (zN _ (by simp))).1;exact fin s1 b σ' its acc G' (I2.Mi λp hp=>by cases hp) x sb ⟨nD,pD⟩ hD hac hq'
  cases m with
  |zero=>
   unfold Dw at hq;split at hq
   ·rename_i hf;exact stop ((walk b x G' sb i).2 hf) (by have hq':out E0 b (Av (acc++[]) G') Q:=hq;rw[jX]at hq';exact hq')
   ·exact hq.elim
  | succ m=>
   unfold Dw at hq;split at hq
   ·rename_i d1 hf;obtain⟨go,yl⟩:=(walk b x G' sb i).1 d1 hf;refine thn (T.item B rfl rfl rfl hc i _ s' σ' b.H _ I0 f0 ti go) ?_;rintro r s1 ⟨u,rfl,hgo⟩;refine thn hgo ?_;rintro _ s2 ⟨v,H',I2,ru,y,t2,hfp2⟩;obtain⟨cc,rfl,xx,ss,rd⟩:=yl v H' y;have pD:=I2.pin (Dd,{cls:=.type "list",data:=.seq its.toArray nD}) (zN _ (by simp));obtain⟨vs1,hv1,rv1⟩:=hac;refine turnX _ _ (λG3=>Dw f g c te (Bm nt caps S) m (i+1) G3) s2 cc G' σ' its acc u _ d1 (i+1) (I2.Mi λp hp=>by cases hp) (x.trans xx) ss (rSb.mono xx) t2 hfp2 ⟨nD,pD.1⟩ pD.2.1 ⟨vs1,hv1,rv1.mono xx⟩ ru rd (out.mono xx hq) ?_
    intro s3 b3 G3 σ3 its3 acc3 a1 a2 a3 a4 a5 a6 a7 a8 a9 a10;exact⟨m,zU _,i+1,b3,G3,σ3,its3,acc3,a1,a2,a3,a4,a5,a6,a7,a8,a9,a10⟩
   ·rename_i hf;exact stop ((walk b x G' sb i).2 hf) (by have hq':out E0 b (Av (acc++[]) G') Q:=hq;rw[jX]at hq';exact hq')
   ·exact hq.elim
 exact codeAny_compStart_list (loop _ rfl) (T.self _ 0 _ _ _ (T.keep _ _ _ t0 λq _ o e=>old q o e) (loop _ rfl))
theorem ZEJ{c:DB}:∀(n j:Nat)(G:DH),j+n=xs.length->Du g c te S (xs.drop j) G=Dw (λj _=>vE xs[j]?) g c te S n j G
 |0,j,G,h=>by
  rw[zP (by lia)]
  show _=(match vE xs[j]? with |some vF=>R.ok [] G|_=>.bad)
  rw[zA (by lia)]
  rfl
 |n+1,j,G,h=>by
  have hj:j<xs.length:=by lia
  rw[zM hj]
  show(g xs[j] S G).bind _=(match vE xs[j]? with |some (vE x)=>_|some vF=>R.ok [] G|none=>.bad)
  rw[zJ hj];dsimp only
  congr 1
  funext S1 G1
  congr 1
  funext k G2;rw[ZEJ n (j+1) G2 (by lia)]
  congr 1
  congr 1
  funext d G3;rw[ZEJ n (j+1) G3 (by lia)]
theorem ZKh{c:DB}:∀(n j:Nat)(G:DH),Hy i g c te S n j G=Dw (mtF i) g c te S n j G
 | 0,j,G=>by
  unfold Hy Dw mtF;cases G[i]? with
  |none=>rfl
  | some o=>
   cases o with
   |lst xs=>
    dsimp only;by_cases hj:j<xs.length
    ·rw[if_neg (by lia),zJ hj]
    ·rw[if_pos (by lia),zA (by lia)]
   |_=>rfl
 | n+1,j,G=>by
  have ih:(Hy i g c te S n (j+1))=Dw (mtF i) g c te S n (j+1):=funext λG=>ZKh n (j+1) G
  unfold Hy Dw;rw[ih];unfold mtF;cases G[i]? with
  |none=>rfl
  | some o=>
   cases o with
   |lst xs=>
    dsimp only
    cases xs[j]?<;>rfl
   |_=>rfl
theorem ZID(hc:X.calm=vG)(cs:CompSc X N scope nt caps)
  (hg:∀C s₀ H₀ ex,QG (blk X N scope C s₀ H₀ ex) E0 tg g) (gk:GK nt g) (hts:∀C s₀ H₀ ex,QTs (blk X N scope C s₀ H₀ ex) E0 ifs c) (he:∀C s₀ H₀ ex,QE (blk X N scope C s₀ H₀ ex) E0 elt te)
  {vD:List (xZ×Obj)} {σ:St} {s:xq} {a:Wd} {S:DSt} {G:DH} {J:It} {d:ItD} {i0:xZ} {fp:List xZ} {tn:Nat->Heap->Prop} (I:Inv X vD σ a.H s) (hk:a.K=X.K) (sm:Sim a G) (rS:RepS a S σ)
  (T:Turn X.prog X.w X.K tg J fp i0 tn) (t0:tn 0 s.heap) (hf:∀b∈fp,FpOk X vD a.H b) (rJ:RepI a d J) {Q:VK}
  (h:out E0 a ((match d with
   |.pure xs=>Du g c te (Bm nt caps S) xs G
   |.mt i=>match G[i]? with
    |some (.lst xs)=>Hy i g c te (Bm nt caps S) xs.length 0 G
    |_=>.bad
   |.fn n f=>Dw f g c te (Bm nt caps S) n 0 G).bind Av) Q)
  {RR:xj->xZ->Result->xq->Prop} {E':xj->xq->Prop}
  (hRR:∀(D C:xZ)(s':xq)(b:Wd)(vs:List V),Inv X vD σ (upd b.H D (.lst vs)) s'->b.H D=vF->s.heap.objs.size<=C->D≠C->(∃m,s'.heap.Ns C m)->b.H C=vF->Q (.ref D) (upd b.H D (.lst vs))->RR (.ref D) C (.ok .next) s'):
  vY (vZ X.prog X.w) X.A (newList []) (λacc s₃=>vY (vZ X.prog X.w) X.A (newFunctionEnv scope X.env.globals (Gp X.env scope.names []) [] X.env.qual vF .none (vE X.env)) (λcenv s₄=>
   codeAny (vZ X.prog X.w) X.A (.compStart (.ListComp elt [⟨tg,iter,ifs,0⟩] scope pos) 0 (.ref i0) acc {cenv with scope:=relabel scope X.env}) (RR acc cenv.locals) s₄) E' s₃) E' s:=by
 cases d with
 |pure xs=>
  have h':out E0 a ((Du g c te (Bm nt caps S) (xs.drop 0) G).bind Av) Q:=h;rw[ZEJ xs.length 0 G (by lia)]at h';exact ZD4 hc cs hg gk hts he I hk sm rS T t0 hf (ZKi rJ) h' hRR
 |mt k=>
  dsimp only at h;split at h
  ·rename_i xs hx;rw[ZKh]at h;exact ZD4 hc cs hg gk hts he I hk sm rS T t0 hf (ZF2 rJ) h hRR
  ·exact h.elim
 |fn n0 f=>exact ZD4 hc cs hg gk hts he I hk sm rS T t0 hf rJ h hRR
end
section
variable{X:Cx}{N:List Str}{scope:xY}{nt:Nat}{caps:List Nat}{tg elt iter:xX}{ifs:List xX}{pos:Pos}{it:DI}{g:DG}{c:DB}{te:DE}
theorem letGo{vD:List (xZ×Obj)}{s2 s':xq}{h':Heap}{C:xZ}{t':Nat}{σ2:St}{H2:Hp}(I2:Inv X vD σ2 H2 s2)(Ia:Inv X vD σ H s')(hC:s2.heap.objs.size<=C)(hn:H C=vF)(hsb:qj C s'.heap h'):Inv X vD σ H {s' with heap:=h',toks:=t'}:=by
 have young:∀{b:xZ}{o:Obj},s2.heap.get? b=vE o->b≠C:=λe z=>by rw[z]at e;exact absurd (zq (zj e) hC) (zT _)
 refine Ia.turned (it:=C) (λb o hb e=>(hsb.2 b hb).trans e) hn (jJ (zq I2.lt hC)) (.inr (zB I2.sz hC)) (λx c' e=>?_) λp hp=>?_
 ·obtain⟨v,o,e',_⟩:=I2.cell x c' e;exact young e'
 ·exact young (I2.pin p hp).1
theorem Hj(hc:X.calm=vG)(cs:CompSc X N scope nt caps)(hi:QI X E0 tg iter it)
  (hg:∀C s₀ H₀ ex,QG (blk X N scope C s₀ H₀ ex) E0 tg g) (gk:GK nt g) (hts:∀C s₀ H₀ ex,QTs (blk X N scope C s₀ H₀ ex) E0 ifs c) (he:∀C s₀ H₀ ex,QE (blk X N scope C s₀ H₀ ex) E0 elt te)
  (hs:∀x,foldedSetIterable iter X.env x=pure x:=by intro _;rfl):QE X E0 (.ListComp elt [⟨tg,iter,ifs,0⟩] scope pos) (Ec it nt caps g c te):=by
 intro vD s σ H Q I h;obtain⟨a,S,G,hk,rfl,sm,r,h⟩:=h;rw[eval_ListComp];refine wpAny_comprehension_free (use:=vF) rfl hs (ZEn (cs.cells I.ok)) cs.kind cs.names (thn (hi vD s σ a.H _ I ⟨a,S,G,hk,rfl,sm,r,(ZHr h).imp λ_ _ z=>z⟩) λxv s1 h1=>thn h1 λitv s2 h2=>?_);obtain⟨i0,fp,tn,J,H2,rfl,I2,T,t0,f2,b,d,G1,rfl,x,sb,rJ,_,h1⟩:=h2;refine ZID hc cs hg gk hts he I2 (x.k.trans hk) sb (r.mono x) T t0 f2 rJ h1 (RR:=λacc C=>compPost (vZ X.prog X.w) X.A X.xe vF (EP X vD σ Q) acc C) ?_
 intro D C s' b vs Ia hD hCle hDC ⟨m,hn⟩ hCn hq;refine⟨m,hn,λh' hsb=>⟨.ref D,_,letGo I2 Ia hCle ?_ hsb,rfl,hq⟩⟩;rw[Bd (Ne.symm hDC)];exact hCn
theorem Mr(i:Nat){y:Str}{py spos:Pos}(hc:X.calm=vG)(hN:X.N.Nodup)(cs:CompSc X N scope nt caps)(hi:QI X E0 tg iter it)
  (hg:∀C s₀ H₀ ex,QG (blk X N scope C s₀ H₀ ex) E0 tg g) (gk:GK nt g) (hts:∀C s₀ H₀ ex,QTs (blk X N scope C s₀ H₀ ex) E0 ifs c) (he:∀C s₀ H₀ ex,QE (blk X N scope C s₀ H₀ ex) E0 elt te)
  (hy:X.N[i]?=vE y:=by rfl) (hx:Loc X.env.scope y:=by first|exact Or.inl rfl|exact Or.inr rfl) (hf:X.fn y=vG∨X.env.scope.names.lookup y=vE .local:=by first|exact .inl rfl|exact .inr rfl|assumption)
  (hsw:swapsWith (.ListComp elt [⟨tg,iter,ifs,0⟩] scope pos) (vE (.Name y py)) spos.line X.env=pure vG:=by rfl)
  (hs:∀x,foldedSetIterable iter X.env x=pure x:=by intro _;rfl):QS X E0 (.Assign [.Name y py] (.ListComp elt [⟨tg,iter,ifs,0⟩] scope pos) spos) (sAs (Ec it nt caps g c te) (gV i)):=by
 intro vD s σ H W I h;obtain⟨a,S,G,hk,rfl,sm,r,h⟩:=h;have h0:=J0 h;rw[exec_Assign_Name_used _ _ _ _ hsw];refine vz (wpAny_standAt (vz ?_))
 show vY _ X.A (do let _<-comprehension (.ListComp elt [⟨tg,iter,ifs,0⟩] scope pos) scope X.env _ (newList []) vH (eval iter X.env) (vE (assign (.Name y py) X.env))) _ _ s
 refine vz (v4 (wpAny_comprehension_free (use:=vE (assign (.Name y py) X.env)) (Q:=λ_ s'=>SP X vD W .next s') rfl hs (ZEn (cs.cells I.ok)) cs.kind cs.names
  (thn (hi vD s σ a.H _ I ⟨a,S,G,hk,rfl,sm,r,(ZHr h0).imp λ_ _ z=>z⟩) λxv s1 h1=>thn h1 λitv s2 h2=>?_)) (λ_ s' hq=>v7 (v7 hq)) λ_ _ e=>e)
 obtain⟨i0,fp,tn,J,H2,rfl,I2,T,t0,f2,b,d,G1,rfl,x,sb,rJ,_,h1⟩:=h2
 refine ZID hc cs hg gk hts he I2 (x.k.trans hk) sb (r.mono x) T t0 f2 rJ h1 (RR:=λacc C=>compPost (vZ X.prog X.w) X.A X.xe (vE (assign (.Name y py) X.env)) (λ_ s'=>SP X vD W .next s') acc C) ?_
 intro D C s' b' vs Ia hD hCle hDC ⟨m,hn⟩ hCn hq;show vY _ X.A (assign (.Name y py) X.env (.ref D)) _ _ _;refine wpAny_assign_Name (ZGs Ia hN hy hx (v:=.ref D) rfl (λs'' I'' hch=>?_) hf);obtain⟨a',hsb',ha'⟩:=hch;have hCa:C≠a':=by
  rintro rfl;rcases ha' with rfl|ha'
  ·exact absurd (zq I2.lt hCle) (zT _)
  ·obtain⟨v,o,e',_⟩:=I2.cell _ _ ha';exact absurd (zq (zj e') hCle) (zT _)
 refine⟨m,hn.sameBut hsb' hCa,λh' hsb=>⟨_,_,letGo I2 I'' hCle ?_ hsb,?_⟩⟩
 ·rw[Bd (Ne.symm hDC)];exact hCn
 ·obtain⟨b3,d3,G3,e3,x3,s3,q3,_,h3⟩:=hq;rw[<-e3];exact h3 b3 _ (Ext.refl b3) s3 ((r.mono x3).set i q3)
end
noncomputable def Ry:D->DH->R D
 |.int i,G=>.ok (.int (-i)) G
 |_,_=>.bad
noncomputable def M4:D->Bool
 |.non=>vG
 |_=>vH
def Ox:D->D->DH->R D
 |d,.non,G=>.ok (.bl (M4 d)) G
 |_,_,_=>.bad
def Lx:D->D->DH->R D
 |d,.non,G=>.ok (.bl (!M4 d)) G
 |_,_,_=>.bad
noncomputable def Zn:D->Option V
 |.non=>vE .non
 |.bl b=>vE (.bl b)
 |.int i=>vE (.int i)
 |.str x=>vE (.str x)
 |_=>vF
def Tg:List D->Option (List V)
 |[]=>vE []
 |d::r=>match Zn d,Tg r with
  |some v,vE vs=>vE (v::vs)
  |_,_=>vF
def inD(d e:D)(G:DH):Option Bool:=match e with
 |.str j=>match d with
  |.str i=>vE (!(Builtin.Str.occurrences j i 0 j.length 1).isEmpty)
  |_=>vF
 |e=>match Cj e G,Zn d with
  |some xs,vE v=>(Tg xs).map λvs=>inV v vs
  |_,_=>vF
def Rx(d e:D)(G:DH):R D:=match inD d e G with
 |some k=>.ok (.bl (!k)) G
 |none=>.bad
section
variable{X:Cx}{E:XK}{a b:xX}{ta tb:DE}{pos:Pos}
theorem ZDU:UnR X (unaryOp .USub) (lR1 X.K E Ry):=λvD s σ H x v Q I rx h=>by
 obtain⟨a,G,d,hk,rfl,sm,rd,q⟩:=h;cases d with
 |int i=>exact ZQD vD s σ a.H x v Q I rx ⟨i,rd,q a _ (Ext.refl a) sm rfl⟩
 |_=>exact q.elim
theorem ZDM{op:UnaryOp}{f:D->DH->R D}(ho:UnR X (unaryOp op) (lR1 X.K E f))(ha:QE X E a ta):QE X E (.UnaryOp op a pos) (dUn f ta):=(ZLY ho ha).mono λσ H Q h=>by obtain⟨a,S,G,hk,rfl,s,r,h⟩:=h;refine⟨a,S,G,hk,rfl,s,r,(Gq h).imp ?_⟩;rintro v _ ⟨b,d,G1,rfl,x,s1,q,-,h1⟩;exact⟨b,G1,d,x.k.trans hk,rfl,s1,q,h1⟩
theorem Vr{n:String}(hg:Gl X x)(hm:X.mg x=vF)(hv:xE x=vE (.type n))(hn:x≠"__name__":=by decide)(hd:(x==("__debug__":Str))=vH:=by decide):QE X E (.Name x pos) (dC (.ty n)):=
 (ZP2 (v:=.ty n) hg hm hv rfl hn hd).mono λσ H Q h=>R3 h λ_ _=>rfl
theorem ZIZ{a:Wd}{x:V}(rd:Rep a d x):decide (x=V.non)=M4 d:=by
 cases d with
 |non=>rw[show x=V.non from rd];rfl
 |bl _=>rw[show x=V.bl _ from rd];rfl
 |int _=>rw[show x=V.int _ from rd];rfl
 |str _=>rw[show x=V.str _ from rd];rfl
 |ty _=>rw[show x=V.ty _ from rd];rfl
 |tup _=>obtain⟨p,vs,rfl,_⟩:=rd;rfl
 |fl _=>obtain⟨p,vs,rfl,_⟩:=rd;rfl
 |ref _=>rw[rd.2];rfl
theorem Xl:OpR X (xI .Is) (lR2 X.K E Ox):=Hn ZRR λa G d e x y Q hk s rd re q=>by
 cases e with
 |non=>exact⟨re,by rw[ZIZ rd];cases d<;>exact q a _ (Ext.refl a) s rfl⟩
 |_=>cases d<;>exact q.elim
theorem Qp:OpR X (xI .IsNot) (lR2 X.K E Lx):=Hn ZPP λa G d e x y Q hk s rd re q=>by
 cases e with
 |non=>exact⟨re,by rw[ZIZ rd];cases d<;>exact q a _ (Ext.refl a) s rfl⟩
 |_=>cases d<;>exact q.elim
theorem ZFM{a:Wd}{x:V}(r:Rep a d x)(h:Zn d=vE v):x=v/\Ef v=vG:=by
 cases d<;>first
  |(cases h;exact⟨r,rfl⟩)
  |cases h
theorem ZFQ{a:Wd}:∀{ds:List D}{xs vs:List V},Reps a ds xs->Tg ds=vE vs->xs=vs/\vs.all Ef=vG
 |[],xs,vs,r,h=>by cases h;exact⟨r,rfl⟩
 |d::ds,xs,vs,r,h=>by
  obtain⟨x,r',rfl,r1,r2⟩:=r;unfold Tg at h;split at h
  ·rename_i v ws h1 h2;cases h;obtain⟨e1,f1⟩:=ZFM r1 h1;obtain⟨e2,f2⟩:=ZFQ r2 h2;subst e1;subst e2;exact⟨rfl,by rw[qB,f1,f2];rfl⟩
  ·cases h
theorem ZNf{a:Wd}{e:D}{x:V}{k:Bool}(s:Sim a G)(rd:Rep a d x)(re:Rep a e y)(h:inD d e G=vE k):
  (∃i j,x=.str i/\y=.str j/\k= !(Builtin.Str.occurrences j i 0 j.length 1).isEmpty)∨(∃p xs,y=.ref p/\(SqL a.K a.H p xs∨SqT a.K a.H p xs)/\Ef x=vG/\xs.all Ef=vG/\k=inV x xs):=by
 have seq:(match Cj e G,Zn d with |some xs,vE v=>(Tg xs).map λvs=>inV v vs|_,_=>vF)=vE k->(∃p xs,y=.ref p/\(SqL a.K a.H p xs∨SqT a.K a.H p xs)/\Ef x=vG/\xs.all Ef=vG/\k=inV x xs):=λh=>by
  split at h
  ·rename_i xs v h1 h2;obtain⟨p,ws,e1,q,r1⟩:=Lq s re h1;obtain⟨e2,f2⟩:=ZFM rd h2;subst e2;rw[zI]at h;obtain⟨us,h3,h4⟩:=h;obtain⟨e3,f3⟩:=ZFQ r1 h3;subst e3;exact⟨p,ws,e1,q,f2,f3,h4.symm⟩
  ·cases h
 cases e with
 |str j=>
  cases d with
  |str i=>exact .inl ⟨i,j,rd,re,(Option.some.inj h).symm⟩
  |_=>cases h
 |tup xs=>exact .inr (seq h)
 |fl xs=>exact .inr (seq h)
 |ref i=>exact .inr (seq h)
 |_=>exact .inr (seq h)
theorem ZNy:OpR X (xI .NotIn) (lR2 X.K E Rx):=Hn (ZOM.or ZQM) λa G d e x y Q hk s rd re q=>by
 unfold Rx at q;split at q
 ·rename_i k h;have z:=q a _ (Ext.refl a) s rfl;rcases ZNf s rd re h with⟨i,j,e1,e2,rfl⟩|⟨p,xs,e1,hq,f1,f2,rfl⟩
  ·exact .inl ⟨i,j,e1,e2,z⟩
  ·exact .inr ⟨p,xs,e1,by rw[<-hk];exact hq,f1,f2,z⟩
 ·exact q.elim
end
theorem Yl:xE "isinstance"=vE (.builtin "isinstance"):=by decide +kernel
theorem ZHp:xE "all"=vE (.builtin "all"):=by decide +kernel
theorem ZCL:xE "max"=vE (.builtin "max"):=by decide +kernel
theorem Qf:xE "min"=vE (.builtin "min"):=by decide +kernel
theorem Eb:xE "len"=vE (.builtin "len"):=by decide +kernel
theorem ZQt:xE "int"=vE (.type "int"):=by decide +kernel
theorem ZOq:xE "bool"=vE (.type "bool"):=by decide +kernel
theorem ZN5:xE "str"=vE (.type "str"):=by decide +kernel
theorem Hf:xE "tuple"=vE (.type "tuple"):=by decide +kernel
theorem Y4:xE "list"=vE (.type "list"):=by decide +kernel
noncomputable def Nv:xW->Bool | .local=>vG|_=>vH
noncomputable def Oc:xW->Bool | .cell=>vG|_=>vH
noncomputable def Mp:xW->Bool | .free=>vG|_=>vH
noncomputable def isK(p:xW->Bool):Option xW->Bool|some k=>p k|none=>vH
theorem ZMO{k:xW}(h:Nv k=vG):k=.local:=by cases k<;>first|rfl|cases h
theorem ZSj{k:xW}(h:Oc k=vG):k=.cell:=by cases k<;>first|rfl|cases h
theorem ZGa{k:xW}(h:Mp k=vG):k=.free:=by cases k<;>first|rfl|cases h
theorem Vg{p:xW->Bool}{k:xW}(hp:∀k',p k'=vG->k'=k){o:Option xW}(h:isK p o=vG):o=vE k:=by
 cases o with
 |none=>cases h
 |some k'=>rw[hp _ h]
def ZFY(dn:List (Str×xW))(N0 N:List Str)(names:List (Str×xW))(nt:Nat)(caps:List Nat):Bool:=
 names.all (λy=>(!Nv y.2||isK Nv (names.lookup y.1)) && !Oc y.2&&(!Mp y.2||isK Oc (dn.lookup y.1)||isK Mp (dn.lookup y.1)))&&decide N.Nodup&&decide (N.length=nt+caps.length) &&
 (zZ caps.length).all λk=>match caps[k]? with
  |some j=>match N0[j]? with
   |some x=>decide (N[nt+k]?=vE x)&&isK Mp (names.lookup x)
   |none=>vH
  |none=>vG
theorem Fg{X:Cx}{N0 N:List Str}{nt:Nat}{caps:List Nat}{dn:List (Str×xW)}(hk:scope.kind=.function:=by rfl)(hdn:∀x,X.env.kindOf x=dn.lookup x:=by intro _;rfl)(hN:X.N=N0:=by rfl)
  (h:ZFY dn N0 N scope.names nt caps=vG:=by decide +kernel):CompSc X N scope nt caps:=by
 unfold ZFY at h;rw[zC,zC,zC]at h;obtain⟨⟨⟨h1,h2⟩,h3⟩,h4⟩:=h;rw[qK]at h1 h4;have key:=λ(y:Str×xW)(hy:y∈scope.names)=>(by have:=h1 y hy;rw[zC,zC]at this;exact this:((!Nv y.2||isK Nv (scope.names.lookup y.1))=vG/\(!Oc y.2)=vG)/\(!Mp y.2||isK Oc (dn.lookup y.1)||isK Mp (dn.lookup y.1))=vG)
 refine⟨hk,λy hy hl=>?_,λy hy hl=>?_,λy hy hl=>?_,of_decide_eq_true h2,of_decide_eq_true h3,λk j hj=>?_⟩
 ·have:=(key y hy).1.1;rw[hl]at this;exact Vg (p:=Nv) (λ_ h=>ZMO h) (by have t:(vH||isK Nv (scope.names.lookup y.1))=vG:=this;simpa using t)
 ·have:=(key y hy).1.2;rw[hl]at this;exact absurd this (by decide)
 ·have:=(key y hy).2;rw[hl,j9]at this;rw[hdn];rcases this with h|h
  ·exact .inl (Vg (p:=Oc) (λ_ h=>ZSj h) (by have t:(vH||isK Oc (dn.lookup y.1))=vG:=h;simpa using t))
  ·exact .inr (Vg (p:=Mp) (λ_ h=>ZGa h) h)
 ·have hk':k<caps.length:=(zF.mp hj).1;have:=h4 k (qW.mpr hk');rw[hj]at this;dsimp only at this;cases e:N0[j]? with
  |none=>rw[e]at this;cases this
  |some x=>
   rw[e]at this;dsimp only at this;rw[zC]at this;exact⟨x,by rw[hN];exact e,of_decide_eq_true this.1,Vg (p:=Mp) (λ_ h=>ZGa h) this.2⟩
section
section
variable{X:Cx}{vD:List (xZ×Obj)}{σ:St}{H:Hp}{s:xq}
theorem ZTQ{xs:List V}(I:Inv X vD σ H s)(h:H p=vE (.lst xs)):∃o,Inv X vD σ (upd H p (.frz o (.lst xs))) s:=by
 obtain⟨hl,its,n,r,e⟩:=I.hok p _ h;have nt:∀b(u:HO),H b=vE u->u≠ .lst xs->b≠p:=λb u q d z=>by subst z;rw[h]at q;exact d (Option.some.inj q).symm
 refine⟨_,I.un (t':=s.toks) (H':=upd H p (.frz {cls:=.type "list",data:=.seq its.toArray n} (.lst xs))) ⟨λb o q _ _ _=>q,λb o q _ _ _=>⟨o.slots,q⟩,λb o q z _=>?_,λb o q _=>⟨o,q⟩,λb ys q=>?_,λb o u q=>?_,λb ps q=>⟨#[],?_⟩⟩ ?_⟩
 ·rw[Bd (λz'=>by subst z';rw[h]at z;cases z)];exact z
 ·rw[Bd (nt b _ q (by intro z;cases z))];exact q
 ·rw[Bd (nt b _ q (by intro z;cases z))];exact q
 ·rw[Bd (nt b _ q (by intro z;cases z)),Array.append_empty];exact q
 ·intro b u q;by_cases hb:b=p
  ·subst hb;rw[Gk]at q;cases q;exact⟨e,hl,its,n,r,e⟩
  ·rw[Bd hb]at q;exact(I.hok b u q).stay (λc v _ z=>z) (λc z=>by rw[Bd (nt c _ z (by intro z;cases z))];exact z) λc ys z=>by rw[Bd (nt c _ z (by intro z;cases z))];exact z
def Fz(P:xZ->Prop)(H H':Hp):Prop:=∀p,(H' p=H p/\(∀vs,H p=vE (.lst vs)->¬P p))∨∃o vs,P p/\H p=vE (.lst vs)/\H' p=vE (.frz o (.lst vs))
theorem ZGI(I:Inv X vD σ H s)(m:Nat->xZ)(n:Nat):∀k:Nat,∃H',Inv X vD σ H' s/\Fz (λp=>∃i,n<=i/\i<n+k/\p=m i) H H'
 |0=>⟨H,I,λp=>.inl ⟨rfl,λ_ _ ⟨i,h1,h2,_⟩=>by lia⟩⟩
 | k + 1=>by
  obtain⟨H',I',F⟩:=ZGI I m n k;have keep:(∀vs,H' (m (n+k))≠vE (.lst vs))->Fz (λp=>∃i,n<=i/\i<n+(k+1)/\p=m i) H H':=λno p=>by
   rcases F p with⟨e,z⟩|⟨o,vs,⟨i,h1,h2,h3⟩,e1,e2⟩
   ·refine .inl ⟨e,λvs e1 ⟨i,h1,h2,h3⟩=>?_⟩;by_cases hi:i<n+k
    ·exact z vs e1 ⟨i,h1,hi,h3⟩
    ·have:i=n+k:=by lia
     subst this;subst h3;exact no vs (e.trans e1)
   ·exact .inr ⟨o,vs,⟨i,h1,by lia,h3⟩,e1,e2⟩
  cases hH:H' (m (n+k))with
  |none=>exact⟨H',I',keep λvs z=>by rw[hH]at z;cases z⟩
  | some u=>
   cases u with
   | lst vs=>
    obtain⟨o,I2⟩:=ZTQ I' hH;refine⟨_,I2,λp=>?_⟩;by_cases hp:p=m (n+k)
    ·subst hp;rcases F (m (n+k))with⟨e,z⟩|⟨o',vs',_,e1,e2⟩
     ·exact .inr ⟨o,vs,⟨n+k,by lia,by lia,rfl⟩,e.symm.trans hH,Gk⟩
     ·rw[hH]at e2;cases e2
    ·rcases F p with⟨e,z⟩|⟨o',vs',⟨i,h1,h2,h3⟩,e1,e2⟩
     ·refine .inl ⟨by rw[Bd hp];exact e,λvs' e1 ⟨i,h1,h2,h3⟩=>?_⟩;by_cases hi:i<n+k
      ·exact z vs' e1 ⟨i,h1,hi,h3⟩
      ·have:i=n+k:=by lia
       subst this;exact hp h3
     ·exact .inr ⟨o',vs',⟨i,h1,by lia,h3⟩,e1,by rw[Bd hp];exact e2⟩
   |_=>exact⟨H',I',keep λvs z=>by rw[hH]at z;cases z⟩
end
noncomputable def Km(f:D->Option D):List D->Option (List D)
 |[]=>vE []
 |d::r=>match f d,Km f r with
  |some d',vE r'=>vE (d'::r')
  |_,_=>vF
def Ff(G:DH)(n:Nat):Nat->D->Option D
 |0,_=>vF
 | k+1,d=>if bel n d=vG then vE d else match d with
  |.ref i=>match G[i]? with
   |some (.lst xs)=>(Km (Ff G n k) xs).map .fl
   |_=>vF
  |.tup xs=>(Km (Ff G n k) xs).map .tup
  |.fl xs=>(Km (Ff G n k) xs).map .fl
  |_=>vF
open Classical in
def freeze(G:DH)(r:R D):R D:=match r with
 | .ok d G'=>if G'.take G.length=G then(match Ff G' G.length 9 d with
   |some d'=>.ok d' G
   |none=>.ok d G')else .ok d G'
 |r=>r
def Bt(t:DE):DE:=λS G=>freeze G (t S G)
structure CutF (b c:Wd) (n:Nat):Prop where
 k:c.K=b.K
 n:c.n=n
 m:c.m=b.m
 tup:∀p xs,b.H p=vE (.tup xs)->c.H p=vE (.tup xs)
 frz:∀p o u,b.H p=vE (.frz o u)->c.H p=vE (.frz o u)
theorem CutF.sqT{n:Nat}(x:CutF b c n){xs:List V}(h:SqT b.K b.H p xs):SqT c.K c.H p xs:=by
 rcases h with(h|⟨o,h⟩)|h
 ·exact .inl (.inl (x.tup _ _ h))
 ·exact .inl (.inr ⟨o,x.frz _ _ _ h⟩)
 ·exact .inr (by rw[x.k];exact h)
theorem CutF.fzL{n:Nat}(x:CutF b c n){xs:List V}(h:FzL b.K b.H p xs):FzL c.K c.H p xs:=by
 rcases h with⟨o,h⟩|h
 ·exact .inl ⟨o,x.frz _ _ _ h⟩
 ·exact .inr (by rw[x.k];exact h)
mutual
theorem Rep.K6{n:Nat}(x:CutF b c n):∀{d:D}{v:V},Rep b d v->bel n d=vG->Rep c d v
 |.non,_,h,_=>h
 |.bl _,_,h,_=>h
 |.int _,_,h,_=>h
 |.str _,_,h,_=>h
 |.ty _,_,h,_=>h
 |.tup ds,v,h,q=>by obtain⟨p,vs,e,t,r⟩:=h;simp only[DL.bel]at q;exact⟨p,vs,e,x.sqT t,Reps.K6 x r q⟩
 |.fl ds,v,h,q=>by obtain⟨p,vs,e,t,r⟩:=h;simp only[DL.bel]at q;exact⟨p,vs,e,x.fzL t,Reps.K6 x r q⟩
 |.ref i,v,h,q=>by obtain⟨l,e⟩:=h;simp only[DL.bel]at q;have q':=of_decide_eq_true q;exact⟨by rw[x.n];exact q',by rw[x.m];exact e⟩
theorem Reps.K6{n:Nat}(x:CutF b c n):∀{ds:List D}{vs:List V},Reps b ds vs->bels n ds=vG->Reps c ds vs
 |[],_,h,_=>h
 |d::ds,vs,h,q=>by obtain⟨v,r,e,h1,h2⟩:=h;simp only[DL.bels,zC]at q;exact⟨v,r,e,Rep.K6 x h1 q.1,Reps.K6 x h2 q.2⟩
end
theorem Xq{f:D->Option D}(hf:∀d d' v,f d=vE d'->Rep b d v->Rep c d' v):∀{ds ds':List D}{vs:List V},Km f ds=vE ds'->Reps b ds vs->Reps c ds' vs
 |[],ds',vs,e,h=>by cases e;exact h
 |d::ds,ds',vs,e,h=>by
  obtain⟨v,r,rfl,h1,h2⟩:=h;unfold Km at e;split at e
  ·rename_i d' r' e1 e2;cases e;exact⟨v,r,rfl,hf _ _ _ e1 h1,Xq hf e2 h2⟩
  ·cases e
theorem ZKo{n:Nat}(s:Sim b G')(x:CutF b c n)(hz:∀i,n<=i->i<b.n->∀vs,b.H (b.m i)=vE (.lst vs)->∃o,c.H (b.m i)=vE (.frz o (.lst vs))):∀(k:Nat)(d d':D)(v:V),Ff G' n k d=vE d'->Rep b d v->Rep c d' v
 |0,d,d',v,e,h=>by cases e
 | k + 1,d,d',v,e,h=>by
  have ih:=ZKo s x hz k;unfold Ff at e;split at e
  ·rename_i hb;cases e;exact h.K6 x hb
  ·rename_i hb;cases d with
   | ref i=>
    dsimp only at e;split at e
    ·rename_i xs hx;rw[zI]at e;obtain⟨ys,e1,rfl⟩:=e;obtain⟨vs,e2,r2⟩:=s.obj i _ hx;obtain⟨il,rfl⟩:=h;have hi:n<=i:=by simp only[DL.bel,decide_eq_true_eq]at hb;lia
     obtain⟨o,e3⟩:=hz i hi il vs e2;exact⟨_,vs,rfl,.inl ⟨o,e3⟩,Xq ih e1 r2⟩
    ·cases e
   |tup xs=>
    dsimp only at e;rw[zI]at e;obtain⟨ys,e1,rfl⟩:=e;obtain⟨p,vs,rfl,t,r⟩:=h;exact⟨p,vs,rfl,x.sqT t,Xq ih e1 r⟩
   |fl xs=>
    dsimp only at e;rw[zI]at e;obtain⟨ys,e1,rfl⟩:=e;obtain⟨p,vs,rfl,t,r⟩:=h;exact⟨p,vs,rfl,x.fzL t,Xq ih e1 r⟩
   |_=>cases e
theorem ZJs{vD:List (xZ×Obj)}{sh:xq}(s:Sim a G)(hG:G'.take G.length=G)(x:Ext a b)(sb:Sim b G')(I:Inv X vD σ b.H sh):
  ∃c:Wd,Inv X vD σ c.H sh/\Ext a c/\Sim c G/\CutF b c a.n/\∀(k:Nat)(d d':D)(v:V),Ff G' G.length k d=vE d'->Rep b d v->Rep c d' v:=by
 have hlen:∀i o,G[i]?=vE o->G'[i]?=vE o:=λi o e=>by have hi:i<G.length:=(zF.mp e).1;rw[<-hG,jY hi]at e;exact e
 obtain⟨H',I',F⟩:=ZGI I b.m a.n (b.n-a.n);have hbn:a.n+(b.n-a.n)=b.n:=by have:=x.n;lia
 rw[hbn]at F;have ct:∀p(u:HO),(∀vs,u≠ .lst vs)->b.H p=vE u->H' p=vE u:=λp u nu e=>by
  rcases F p with⟨e1,_⟩|⟨o,vs,_,e1,_⟩
  ·exact e1.trans e
  ·rw[e]at e1;exact absurd (Option.some.inj e1) (nu vs)
 have tabs:∀p,TabOk b.H p->TabOk H' p:=λp t=>t.mono (λp ps e=>ct p _ (by intro _ z;cases z) e) λp o u e=>ct p _ (by intro _ z;cases z) e
 have cc:CutF b ⟨b.K,a.n,b.m,H'⟩ a.n:=⟨rfl,rfl,rfl,λp xs e=>ct p _ (by intro _ z;cases z) e,λp o u e=>ct p _ (by intro _ z;cases z) e⟩;have old:∀i,i<a.n->H' (b.m i)=b.H (b.m i):=λi hi=>by
  rcases F (b.m i)with⟨e1,_⟩|⟨o,vs,⟨j,h1,h2,h3⟩,e1,e2⟩
  ·exact e1
  ·have:=sb.inj i j (zq hi x.n) h2 h3;lia
 refine⟨⟨b.K,a.n,b.m,H'⟩,I',⟨x.k,zK _,x.m,λp xs e=>cc.tup p xs (x.tup p xs e),λp o u e=>cc.frz p o u (x.frz p o u e),λp t=>tabs p (x.tab p t)⟩,⟨s.len,λi j hi hj=>sb.inj i j (zq hi x.n) (zq hj x.n),λi o e=>?_,λi hi=>?_⟩,cc,λk d d' v hd rb=>?_⟩
 ·show ORep ⟨b.K,a.n,b.m,H'⟩ o (H' (b.m i));rw[old i (s.lt e)];have q:=sb.obj i o (hlen i o e);have lb:=(s.obj i o e).Om;cases o with
  |lst ds=>obtain⟨vs,e1,r1⟩:=q;exact⟨vs,e1,r1.K6 cc lb⟩
  |dct kvs=>obtain⟨us,e1,k1,r1⟩:=q;exact⟨us,e1,k1,r1.K6 cc lb⟩
  |ins c fs=>obtain⟨C,dx,us,n1,e1,k1,r1⟩:=q;exact⟨C,dx,us,n1,e1,k1,r1.K6 cc lb⟩
  |tab C m=>obtain⟨c1,P1,e1,t1⟩:=q;exact⟨c1,P1,e1,tabs _ t1⟩
  |gone=>trivial
 ·show H' (b.m i)≠vF;rw[old i hi];exact sb.tr i (zq hi x.n)
 ·rw[s.len]at hd;refine ZKo sb cc (λi h1 h2 vs e=>?_) k d d' v hd rb;rcases F (b.m i)with⟨e1,z⟩|⟨o,vs',_,e1,e2⟩
  ·exact absurd ⟨i,h1,h2,rfl⟩ (z vs e)
  ·rw[e]at e1;cases e1;exact⟨o,e2⟩
theorem ZMm(s:Sim a G)(h:out E a (freeze G r) Q):
  out E a r λv H=>∀(vD:List (xZ×Obj))(σ:St)(sh:xq),Inv X vD σ H sh->∃H',Inv X vD σ H' sh/\Q v H':=by
 cases r with
 |err e G'=>exact h
 |bad=>exact h
 | ok d G'=>
  intro b v x sb rb vD σ sh I;unfold freeze at h;dsimp only at h;split at h
  ·rename_i hG;split at h
   ·rename_i d' hd;obtain⟨c,Ic,xc,sc,cc,hr⟩:=ZJs s hG x sb I;exact⟨c.H,Ic,h c v xc sc (hr _ _ _ _ hd rb)⟩
   ·exact⟨_,I,h b v x sb rb⟩
  ·exact⟨_,I,h b v x sb rb⟩
theorem Ck(ha:QE X E e t):QE X E e (Bt t):=λvD s σ H Q I h=>by
 obtain⟨a,S,G,hk,rfl,sm,r,h⟩:=h;refine thn (ha vD s σ a.H _ I ⟨a,S,G,hk,rfl,sm,r,ZMm (X:=X) sm h⟩) λu s' ⟨v,H',I',rv,q⟩=>?_
 obtain⟨H2,I2,q2⟩:=q vD σ s' I';exact⟨v,H2,I2,rv,q2⟩
theorem Ma {st:xz} (ha:QS X E st (sAs t (gV i))):QS X E st (sAs (Bt t) (gV i)):=λvD s σ H W I h=>by
 obtain ⟨a,S,G,hk,rfl,sm,r,h⟩:=h;have h2:Dh E a (sAs t (gV i) S G) {W with nx:=λσ H=>∀(vD:List (xZ×Obj))(sh:xq),Inv X vD σ H sh->∃H',Inv X vD σ H' sh/\W.nx σ H'}:=by
  unfold sAs Bt at h;unfold sAs;cases ht:t S G with
  |err e G'=>rw[ht]at h;exact h
  |bad=>rw[ht]at h;exact h
  | ok d G'=>
   rw[ht]at h;intro b σ' x sb rb vD sh I;unfold freeze at h;dsimp only at h;split at h
   ·rename_i hG;split at h
    ·rename_i d' hd;obtain⟨c,Ic,xc,sc,cc,hr⟩:=ZJs sm hG x sb I;refine⟨c.H,Ic,h c σ' xc sc ⟨?_,λj e he=>?_⟩⟩
     ·rw[jv,<-rb.len,jv]
     ·rw[qO]at he;by_cases hij:i=j
      ·subst hij;rw[if_pos rfl]at he;by_cases hl:i<S.length
       ·rw[if_pos hl]at he;have e1:d'=e:=by simpa using he
        subst e1;obtain⟨v,e2,rv⟩:=rb.get i d (by rw[qO,if_pos rfl,if_pos hl]);exact⟨v,e2,hr _ _ _ _ hd rv⟩
       ·rw[if_neg hl]at he;cases he
      ·rw[if_neg hij]at he;obtain⟨v,e2,rv⟩:=rb.get j e (by rw[qO,if_neg hij];exact he);obtain⟨v',_,rv'⟩:=r.get j e he;exact⟨v,e2,rv.K6 cc rv'.bel⟩
    ·exact⟨_,I,h b σ' x sb rb⟩
   ·exact⟨_,I,h b σ' x sb rb⟩
 refine thn (ha vD s σ a.H _ I ⟨a,S,G,hk,rfl,sm,r,h2⟩) λf s' hf=>?_
 cases f with
 |next=>
  obtain⟨σ',H',I',q⟩:=hf;obtain⟨H2,I2,q2⟩:=q vD s' I';exact⟨σ',H2,I2,q2⟩
 |brk=>exact hf
 |cont=>exact hf
 |ret u=>exact hf
end
section
variable{S:DSt}{G:DH}
@[simp]theorem ZBr:dV i S G=(match S[i]? with |some (vE d)=>.ok d G|_=>.bad):=rfl
@[simp]theorem ev_C:dC d S G=.ok d G:=rfl
@[simp]theorem ev_Op{a b:DE}:dOp f a b S G=(a S G).bind λx G1=>(b S G1).bind λy G2=>f x y G2:=rfl
@[simp]theorem ev_Un{f:D->DH->R D}{a:DE}:dUn f a S G=(a S G).bind f:=rfl
@[simp]theorem ev_Nil:Ad S G=.ok [] G:=rfl
@[simp]theorem ZUj{a:DE}{r:DA}:Ab a r S G=(a S G).bind λx G1=>(r S G1).bind λxs G2=>.ok (x::xs) G2:=rfl
@[simp]theorem ev_Fn{f:List D->DH->R D}{t:DA}:dFn f t S G=(t S G).bind f:=rfl
@[simp]theorem ZTz:Fd t S G=tidy G (t S G):=rfl
@[simp]theorem ev_Frz:Bt t S G=freeze G (t S G):=rfl
@[simp]theorem ev_asB{k:Bool}:asB (.bl k) G=.ok k G:=rfl
@[simp]theorem ev_Tst:Ax t S G=(t S G).bind asB:=rfl
@[simp]theorem ev_And{t u:DB}:K3 t u S G=(t S G).bind λk G1=>if k=vG then u S G1 else .ok vH G1:=rfl
@[simp]theorem ev_Or{t u:DB}:dOr t u S G=(t S G).bind λk G1=>if k=vG then .ok vG G1 else u S G1:=rfl
@[simp]theorem ev_Not{t:DB}:Jc t S G=(t S G).bind λk G1=>.ok (!k) G1:=rfl
@[simp]theorem ZUc{u:DE}:Nf t u S G=(t S G).bind λx G1=>(asB x G1).bind λk G2=>if k=vG then u S G2 else .ok (.bl vH) G2:=rfl
@[simp]theorem ev_If{c:DB}{u:DE}:dIf c t u S G=(c S G).bind λk G1=>if k=vG then t S G1 else u S G1:=rfl
@[simp]theorem ZUS{g:D->D->DH->R D}{a b c:DE}:Qq f g a b c S G=(a S G).bind λx G1=>(b S G1).bind λy G2=>(f x y G2).bind λz G3=>(asB z G3).bind λk G4=>
 if k=vG then(c S G4).bind λw G5=>g y w G5 else .ok (.bl vH) G4:=rfl
@[simp]theorem ev_sNx:sNx S G=.nx S G:=rfl
noncomputable def SR.then(r:SR)(u:DS):SR:=match r with
 |.nx S1 G1=>u S1 G1
 |r=>r
@[simp]theorem Ut{t:DS}:Ah t u S G=(t S G).then u:=rfl
@[simp]theorem Wt:(SR.nx S G).then u=u S G:=rfl
@[simp]theorem ZUJ:(SR.rt d G).then u=.rt d G:=rfl
@[simp]theorem ev_sEx:sEx t S G=(t S G).toS λ_ G1=>.nx S G1:=rfl
@[simp]theorem ev_sRt:sRt t S G=(t S G).toS λd G1=>.rt d G1:=rfl
@[simp]theorem ev_sIf{c:DB}{t:DS}:sIf c t u S G=(c S G).toS λk G1=>if k=vG then t S G1 else u S G1:=rfl
@[simp]theorem ev_sAs:sAs t g S G=(t S G).toS λd G1=>(g d S G1).toS λS2 G2=>.nx S2 G2:=rfl
@[simp]theorem ZUp{it:DI}{b:DS}:Dt it g b S G=(it S G).toS λJ G1=>(match J with
 |.pure xs=>Bq g b xs S G1
 |.mt i=>match G1[i]? with
  |some (.lst xs)=>forM i g b xs.length 0 S G1
  |_=>.bad
 |.fn n f=>El f g b n 0 S G1):=rfl
@[simp]theorem ZS4:Fx t S G=(t S G).bind Ib:=rfl
@[simp]theorem ZUB{f:List D->DH->R ItD}{t:DA}:Cy f t S G=(t S G).bind f:=rfl
@[simp]theorem Dr:gV i d S G=.ok (S.set i (vE d)) G:=rfl
@[simp]theorem Q8:Bj [] S G=.ok S G:=rfl
@[simp]theorem Qo{t:DG}{u:DGs}{r:List D}:Am t u (d::r) S G=(t d S G).bind λS1 G1=>u r S1 G1:=rfl
@[simp]theorem Qt{n:Nat}{t:DGs}:Bg n t (.tup ds) S G=if ds.length=n then t ds S G else .bad:=rfl
@[simp]theorem ev_MtL{f:D->List D->DH->R D}{o:DE}{t:DA}:Fi f o t S G=(o S G).bind λx G1=>if isL x G1=vG then(t S G1).bind λxs G2=>f x xs G2 else .bad:=rfl
@[simp]theorem ZMF{it:DI}{caps:List Nat}{c:DB}:Ec it nt caps g c te S G=(it S G).bind λJ G1=>(match J with
 |.pure xs=>Du g c te (Bm nt caps S) xs G1
 |.mt i=>match G1[i]? with
  |some (.lst xs)=>Hy i g c te (Bm nt caps S) xs.length 0 G1
  |_=>.bad
 |.fn n f=>Dw f g c te (Bm nt caps S) n 0 G1).bind Av:=rfl
@[simp]theorem ZGC:Cd S G=.ok vG G:=rfl
@[simp]theorem Ea{k:DSt->DH->SR}:aft (.nx S G) k=k S G:=rfl
@[simp]theorem aft_rt{k:DSt->DH->SR}:aft (.rt d G) k=.rt d G:=rfl
theorem Ei{b:DS}:Bq g b [] S G=.nx S G:=rfl
theorem Dg{b:DS}{x:D}:Bq g b (x::xs) S G=(g x S G).toS λS1 G1=>aft (b S1 G1) (Bq g b xs):=rfl
theorem ZAs{c:DB}{x:D}:Du g c te S (x::xs) G=(g x S G).bind λS1 G1=>(c S1 G1).bind λk G2=>
   if k=vG then(te S1 G2).bind λd G3=>(Du g c te S xs G3).bind λds G4=>.ok (d::ds) G4 else Du g c te S xs G2:=rfl
noncomputable def SR.ret(r:SR):R D:=match r with
 |.nx _ G'=>.ok .non G'
 |.rt d G'=>.ok d G'
 |.err x G'=>.err x G'
 |_=>.bad
@[simp]theorem ZNT:(SR.nx S G).ret=.ok .non G:=rfl
@[simp]theorem ret_rt:(SR.rt d G).ret=.ok d G:=rfl
theorem Bp{np nl:Nat}{b:DS}:Bu np nl b ds G=if ds.length=np then tidy G (b (ds.map vE++zV nl vF) G).ret else .bad:=rfl
end
section
variable{n:Nat}{G:DH}
@[simp]theorem ZT3:bel n .non=vG:=by simp[DL.bel]
@[simp]theorem bel_bl{b:Bool}:bel n (.bl b)=vG:=by simp[DL.bel]
@[simp]theorem ZS6{b:Int}:bel n (.int b)=vG:=by simp[DL.bel]
@[simp]theorem ZUI{b:Str}:bel n (.str b)=vG:=by simp[DL.bel]
@[simp]theorem ZUi{b:List D}:bel n (.tup b)=bels n b:=by simp[DL.bel]
@[simp]theorem bel_fl{b:List D}:bel n (.fl b)=bels n b:=by simp[DL.bel]
@[simp]theorem ZT7{b:Nat}:bel n (.ref b)=decide (b<n):=by simp[DL.bel]
@[simp]theorem ZUn:bels n []=vG:=by simp[DL.bels]
@[simp]theorem ZKr:bels n (d::ds)=(bel n d&&bels n ds):=by simp[DL.bels]
theorem ZM2:bels n ds=vG↔∀d∈ds,bel n d=vG:=by
 induction ds with
 |nil=>simp
 |cons d ds ih=>simp[ih]
theorem G9{f:α->D}{xs:List α}(h:∀x∈xs,bel n (f x)=vG):bels n (xs.map f)=vG:=by rw[ZM2];intro d hd;obtain⟨x,hx,rfl⟩:=zH.mp hd;exact h x hx
@[simp]theorem ZJP{xs:List Int}:bels n (xs.map D.int)=vG:=G9 λ_ _=>ZS6
theorem By(h:bel G.length d=vG):tidy G (.ok d G)=.ok d G:=by unfold tidy;simp[h]
theorem Qs(h:bel G.length d=vG):tidy G (.ok d (G++L))=.ok d G:=by unfold tidy;simp[h]
theorem ZC3(L:DH){k:Nat}(hk:L[k]?=vE (.lst ds))(h:bels G.length ds=vG):tidy G (.ok (.ref (G.length+k)) (G++L))=.ok (.ref G.length) (G++[.lst ds]):=by
 unfold tidy;have e:(G++L)[G.length+k]?=vE (.lst ds):=by rw[zG (by lia)];simpa using hk
 simp[e,Om,h]
theorem Ga(h:bels G.length ds=vG):tidy G (.ok (.ref G.length) (G++ .lst ds::L))=.ok (.ref G.length) (G++[.lst ds]):=ZC3 (.lst ds::L) (k:=0) rfl h
theorem Jx(h:bel G.length d=vG):freeze G (.ok d G)=.ok d G:=by unfold freeze;simp[h,Ff]
theorem Wr{n:Nat}{k:Nat}:∀{ds:List D},bels n ds=vG->Km (Ff G' n (k+1)) ds=vE ds
 |[],_=>rfl
 |d::ds,h=>by simp only[ZKr,zC]at h;unfold Km;rw[Wr h.2];simp[Ff,h.1]
theorem ZLF(L:DH){k:Nat}(hk:L[k]?=vE (.lst ds))(h:bels G.length ds=vG):freeze G (.ok (.ref (G.length+k)) (G++L))=.ok (.fl ds) G:=by
 unfold freeze;have e:(G++L)[G.length+k]?=vE (.lst ds):=by rw[zG (by lia)];simpa using hk
 have m:Ff (G++L) G.length 9 (.ref (G.length+k))=vE (.fl ds):=by unfold Ff;simp[e,Wr h]
 simp[m]
theorem Fb(h:bels G.length ds=vG):freeze G (.ok (.ref G.length) (G++ .lst ds::L))=.ok (.fl ds) G:=ZLF (.lst ds::L) (k:=0) rfl h
theorem Z1(L:DH)(k:Nat):(G++L)[G.length+k]?=L[k]? :=by rw[zG (by lia)];simp
theorem Ej(L:DH):(G++L)[G.length]?=L[0]? :=Z1 L 0
theorem ZCh(L:DH)(k:Nat)(o:DO):(G++L).set (G.length+k) o=G++L.set k o:=by rw[jI _ _ (by lia)];simp
theorem G7(L:DH)(o:DO):(G++L).set G.length o=G++L.set 0 o:=ZCh L 0 o
theorem Jy{lo:Int}:Cm lo 0=[]:=rfl
theorem Io{lo:Int}{n:Nat}:Cm lo (n+1)=.int lo::Cm (lo+1) n:=by
 unfold Cm;rw[qE,zk,qF]
 congr 1
 ·simp
 ·apply qk;intro k _;simp only[Function.comp]
  congr 1
  lia
end
section
variable{G:DH}{i j:Int}{x y:Str}{k l:Bool}
@[simp]theorem ev_add:Ay (.int i) (.int j) G=.ok (.int (i+j)) G:=rfl
@[simp]theorem ev_sub:Gb (.int i) (.int j) G=.ok (.int (i-j)) G:=rfl
theorem log2_small{n:Nat}(h:n<10^100):n.log2<9000:=by
 by_cases hn:n=0
 ·subst hn;decide
 ·rw[Nat.log2_lt hn];exact Nat.lt_trans h (by decide)
@[simp]theorem ZTx{n:Nat}[NeZero n](h:n<10^100):Di (.int i) (.int (no_index (OfNat.ofNat n))) G=.ok (.int (i/OfNat.ofNat n)) G:=
 if_pos ⟨Int.ofNat_lt.mpr (Nat.pos_of_ne_zero (NeZero.ne n)),log2_small h⟩
@[simp]theorem ev_mod:Bo (.int i) (.int j) G=if 0<j then .ok (.int (i%j)) G else .bad:=rfl
@[simp]theorem ev_pow:Ka (.int i) (.int j) G=if 0<=j/\j<=1000000/\i.natAbs<18446744073709551616 then .ok (.int (i^j.toNat)) G else .bad:=rfl
@[simp]theorem ev_lt:Hm (.int i) (.int j) G=.ok (.bl (decide (i<j))) G:=rfl
@[simp]theorem ev_le:Nz (.int i) (.int j) G=.ok (.bl (decide (i<=j))) G:=rfl
@[simp]theorem ev_gt:Iw (.int i) (.int j) G=.ok (.bl (decide (j<i))) G:=rfl
@[simp]theorem ev_eq:Cv (.int i) (.int j) G=.ok (.bl (decide (i=j))) G:=rfl
@[simp]theorem ev_ne:Hi (.int i) (.int j) G=.ok (.bl (!decide (i=j))) G:=rfl
@[simp]theorem ev_eqS:Cv (.str x) (.str y) G=.ok (.bl (decide (x=y))) G:=rfl
@[simp]theorem ev_neS:Hi (.str x) (.str y) G=.ok (.bl (!decide (x=y))) G:=rfl
@[simp]theorem ev_neg:Ry (.int i) G=.ok (.int (-i)) G:=rfl
@[simp]theorem ev_is:Ox d .non G=.ok (.bl (M4 d)) G:=by cases d<;>exact id rfl
@[simp]theorem ZUE:Lx d .non G=.ok (.bl (!M4 d)) G:=by cases d<;>exact id rfl
@[simp]theorem ZTs:M4 .non=vG:=rfl
@[simp]theorem ZUf:M4 (.int i)=vH:=rfl
@[simp]theorem ev_max:Xm [.int i,.int j] G=.ok (.int (max i j)) G:=by
 show R.ok (D.int (if j>i then j else i)) G=_
 congr 2
 split <;> lia
@[simp]theorem ev_min:Ng [.int i,.int j] G=.ok (.int (min i j)) G:=by
 show R.ok (D.int (if j<i then j else i)) G=_
 congr 2
 split <;> lia
@[simp]theorem ZT2:Cj (.fl ds) G=vE ds:=rfl
@[simp]theorem ZIM{n:Nat}:Cj (.ref n) G=(match G[n]? with |some (.lst xs)=>vE xs|_=>vF):=rfl
@[simp]theorem ZT8:Cz [.tup ds] G=.ok (.int ds.length) G:=rfl
@[simp]theorem ZUA:Cz [.fl ds] G=.ok (.int ds.length) G:=rfl
@[simp]theorem ev_ixT:Aj (.tup ds) (.int i) G=(match atI ds i with |some v=>.ok v G|none=>.bad):=rfl
@[simp]theorem ev_ixF:Aj (.fl ds) (.int i) G=(match atI ds i with |some v=>.ok v G|none=>.bad):=rfl
@[simp]theorem ev_ixR{n:Nat}:Aj (.ref n) (.int i) G=(match G[n]? with |some (.lst xs)=>(match atI xs i with |some v=>.ok v G|none=>.bad)|_=>.bad):=by
 unfold Aj;simp only[ZIM];cases G[n]? with
 |none=>rfl
 |some o=>cases o<;>rfl
theorem Jm{n k:Nat}(h:k<n):ixN n (k:Int)=vE k:=by unfold ixN;rw[if_pos (by lia),if_pos (by lia)];simp
theorem ZN1{xs:List α}{k:Nat}{d:α}(h:xs[k]?=vE d):atI xs (k:Int)=vE d:=by unfold atI;rw[Jm (zF.mp h).1];exact h
theorem Fe{xs:List α}{j:Int}{k:Nat}{d:α}(e:j=k)(h:xs[k]?=vE d):atI xs j=vE d:=by subst e;exact ZN1 h
theorem ZSh{xs:List α}{j:Int}(h0:j<0)(h: -(xs.length:Int)<=j):atI xs j=vE (xs[(j+xs.length).toNat]'(by lia)):=by unfold atI ixN;rw[if_neg (by lia),if_pos h];exact zJ (by lia)
@[simp]theorem atI_0{a:α}{xs:List α}:atI (a::xs) 0=vE a:=Fe (k:=0) rfl rfl
@[simp]theorem atI_1{a b:α}{xs:List α}:atI (a::b::xs) 1=vE b:=Fe (k:=1) rfl rfl
@[simp]theorem atI_2{a b c:α}{xs:List α}:atI (a::b::c::xs) 2=vE c:=Fe (k:=2) rfl rfl
@[simp]theorem atI_3{a b c d:α}{xs:List α}:atI (a::b::c::d::xs) 3=vE d:=Fe (k:=3) rfl rfl
@[simp]theorem atI_4{a b c d e:α}{xs:List α}:atI (a::b::c::d::e::xs) 4=vE e:=Fe (k:=4) rfl rfl
@[simp]theorem atI_5{a b c d e f:α}{xs:List α}:atI (a::b::c::d::e::f::xs) 5=vE f:=Fe (k:=5) rfl rfl
@[simp]theorem atI_6{a b c d e f g:α}{xs:List α}:atI (a::b::c::d::e::f::g::xs) 6=vE g:=Fe (k:=6) rfl rfl
@[simp]theorem ZTw:Av ds G=if ds.length<=1000000 then .ok (.ref G.length) (G++[.lst ds])else .bad:=rfl
@[simp]theorem ZUU:Fy [.fl ds] G=.ok (.tup ds) G:=rfl
@[simp]theorem ZUZ{n:Nat}:Fy [.ref n] G=(match G[n]? with |some (.lst xs)=>.ok (.tup xs) G|_=>.bad):=by
 unfold Fy;simp only[ZIM];cases G[n]? with
 |none=>rfl
 |some o=>cases o<;>rfl
@[simp]theorem ev_itT:Ib (.tup ds) G=.ok (.pure ds) G:=rfl
@[simp]theorem ev_itF:Ib (.fl ds) G=.ok (.pure ds) G:=rfl
@[simp]theorem ZUQ:rng1 [.int j] G=if inR j then .ok (.pure (Cm 0 j.toNat)) G else .bad:=rfl
theorem Gu(h0: -1000000000<=i)(h:i<=1000000000):inR i:=⟨by lia,by lia⟩
@[simp]theorem ZT5:isL (.fl ds) G=vG:=rfl
@[simp]theorem ZUd{n:Nat}:isL (.ref n) G=(match G[n]? with |some (.lst _)=>vG|_=>vH):=rfl
@[simp]theorem ev_app{n:Nat}:Fq (.ref n) [d] G=(match G[n]? with |some (.lst xs)=>if xs.length<1000000 then .ok .non (G.set n (.lst (xs++[d])))else .bad|_=>.bad):=rfl
@[simp]theorem ev_all{ks:List Bool}:Pn [.fl (ks.map D.bl)] G=.ok (.bl (ks.all id)) G:=by simp[Pn]
@[simp]theorem ZUV:Ih [d,.ty "int"] G=(match tyD G d with |some .int=>.ok (.bl vG) G|some .bl=>.ok (.bl vG) G|some _=>.ok (.bl vH) G|none=>.bad):=by
 unfold Ih;dsimp only;cases tyD G d with
 |none=>rfl
 |some t=>cases t<;>rfl
@[simp]theorem ZUh:Ih [d,.ty "bool"] G=(match tyD G d with |some .bl=>.ok (.bl vG) G|some _=>.ok (.bl vH) G|none=>.bad):=by
 unfold Ih;dsimp only;cases tyD G d with
 |none=>rfl
 |some t=>cases t<;>rfl
@[simp]theorem ZUF:Ih [d,.ty "tuple"] G=(match tyD G d with |some .tup=>.ok (.bl vG) G|some _=>.ok (.bl vH) G|none=>.bad):=by
 unfold Ih;dsimp only;cases tyD G d with
 |none=>rfl
 |some t=>cases t<;>rfl
@[simp]theorem ZT6:Ih [d,.ty "str"] G=(match tyD G d with |some .str=>.ok (.bl vG) G|some _=>.ok (.bl vH) G|none=>.bad):=by
 unfold Ih;dsimp only;cases tyD G d with
 |none=>rfl
 |some t=>cases t<;>rfl
end
section
variable{c:Prop}[Decidable c]
@[simp]theorem ite_ok{a b:α}:(if c then R.ok a G else R.ok b G)=R.ok (if c then a else b) G:=by split <;> rfl
end
noncomputable def Il(kvs:List (Key×D))(k:Key):Option D:=(kvs.find? λkv=>decide (kv.1=k)).map (·.2)
def putD(kvs:List (Key×D))(k:Key)(v:D):List (Key×D):=
 if(kvs.any λkv=>decide (kv.1=k))=vG then kvs.map (λkv=>if kv.1=k then(kv.1,v)else kv)else kvs++[(k,v)]
def Ge:D->Option Key
 |.int i=>vE (.inl i)
 |.str x=>vE (.inr x)
 |_=>vF
noncomputable def Sd(d:D)(G:DH):Option (List (Key×D)):=match d with
 |.ref i=>match G[i]? with
  |some (.dct kvs)=>vE kvs
  |_=>vF
 |_=>vF
theorem ZSX{x:V}{k:Key}(r:Rep a d x)(h:Ge d=vE k):x=kV k:=by
 cases d<;>first
  |(cases h;exact r)
  |cases h
theorem RepKV.nil:RepKV a [] []:=⟨rfl,rfl⟩
theorem RepKV.cons{k:Key}{us:List (Key×V)}(h:RepKV a ((k,d)::kvs) us):∃v r,us=(k,v)::r/\Rep a d v/\RepKV a kvs r:=by
 obtain⟨h1,v,r,h2,h3,h4⟩:=h;cases us with
 |nil=>cases h2
 |cons p us=>
  obtain⟨q,w⟩:=p;simp only[zk,List.cons.injEq]at h1 h2;obtain⟨rfl,h1⟩:=h1;obtain⟨rfl,rfl⟩:=h2;exact⟨w,us,rfl,h3,h1,h4⟩
theorem RepKV.mk{k:Key}{us:List (Key×V)}(h:Rep a d v)(r:RepKV a kvs us):RepKV a ((k,d)::kvs) ((k,v)::us):=
 ⟨by simp only[zk,r.1],Reps.cons h r.2⟩
theorem RepKV.val{k:Key}:∀{kvs:List (Key×D)}{us:List (Key×V)},RepKV a kvs us->(Il kvs k=vF/\Hq us k=vF)∨∃d v,Il kvs k=vE d/\Hq us k=vE v/\Rep a d v
 |[],us,h=>by obtain⟨h1,_⟩:=h;have:us=[]:=jq.mp h1.symm;subst this;exact .inl ⟨rfl,rfl⟩
 | (q,d)::kvs,us,h=>by
  obtain⟨v,r,rfl,h1,h2⟩:=RepKV.cons h;by_cases e:q=k
  ·exact .inr ⟨d,v,by simp[Il,qV,e],by simp[Hq,qV,e],h1⟩
  ·rcases RepKV.val (k:=k) h2 with⟨e1,e2⟩|⟨d',v',e1,e2,e3⟩
   ·exact .inl ⟨by simpa[Il,qV,e]using e1,by simpa[Hq,qV,e]using e2⟩
   ·exact .inr ⟨d',v',by simpa[Il,qV,e]using e1,by simpa[Hq,qV,e]using e2,e3⟩
theorem RepKV.any{k:Key}:∀{kvs:List (Key×D)}{us:List (Key×V)},RepKV a kvs us->(kvs.any λkv=>decide (kv.1=k))=us.any λkv=>decide (kv.1=k)
 |[],us,h=>by
  obtain⟨h1,_⟩:=h;have:us=[]:=jq.mp h1.symm;subst this
  rfl
 |(q,d)::kvs,us,h=>by obtain⟨v,r,rfl,h1,h2⟩:=RepKV.cons h;simp only[j5,RepKV.any (k:=k) h2]
theorem RepKV.repl{k:Key}(hv:Rep a d v):∀{kvs:List (Key×D)}{us:List (Key×V)},RepKV a kvs us->RepKV a (kvs.map λkv=>if kv.1=k then(kv.1,d)else kv) (us.map λkv=>if kv.1=k then(kv.1,v)else kv)
 |[],us,h=>by obtain⟨h1,_⟩:=h;have:us=[]:=jq.mp h1.symm;subst this;exact RepKV.nil
 |(q,e)::kvs,us,h=>by
  obtain⟨w,r,rfl,h1,h2⟩:=RepKV.cons h;simp only[zk];by_cases hq:q=k
  ·rw[if_pos hq,if_pos hq];exact RepKV.mk hv (RepKV.repl hv h2)
  ·rw[if_neg hq,if_neg hq];exact RepKV.mk h1 (RepKV.repl hv h2)
theorem RepKV.put{k:Key}{us:List (Key×V)}(h:RepKV a kvs us)(hv:Rep a d v):RepKV a (putD kvs k d) (putK us k v):=by
 unfold putD putK;rw[RepKV.any (k:=k) h];split
 ·exact RepKV.repl hv h
 ·exact⟨by simp[h.1],by have:=Reps.append h.2 (Reps.cons hv (Reps.nil));simpa using this⟩
theorem Sim.dct{x:V}(s:Sim a G)(r:Rep a d x)(h:Sd d G=vE kvs):∃i us,d=.ref i/\i<a.n/\x=.ref (a.m i)/\G[i]?=vE (.dct kvs)/\a.H (a.m i)=vE (.dK us)/\RepKV a kvs us:=by
 cases d with
 |ref i=>
  unfold Sd at h;dsimp only at h;split at h
  ·rename_i ks hi;cases h;obtain⟨us,e1,r1⟩:=s.obj i _ hi;exact⟨i,us,rfl,r.1,r.2,hi,e1,r1⟩
  ·cases h
 |_=>cases h
def Mh(d e:D)(G:DH):R D:=match Sd d G,Ge e with
 |some kvs,vE k=>match Il kvs k with
  |some v=>.ok v G
  |none=>.bad
 |none,_=>Aj d e G
 |_,_=>.bad
section
variable{X:Cx}{E:XK}
theorem ZLX(hu:X.A.units+64<cLine):IxR X (λx y H Q=>∃a v,x=.ref a/\DGet H a y (vE v)/\Q v H):=by
 intro value slice vD s σ H x y v u Q I rx ry h hs;obtain⟨a,w,rfl,g,q⟩:=h;obtain rfl:v=Value.ref a:=rx;have hT:=ZMh I g;unfold subscriptTail;refine vz ?_;rw[getitemInPython_of_ne hT.not_modules];refine vz (wpAny_specialOf hT PySem.F.slot_dict_getitem.lookup ?_);have fin:vY (vZ X.prog X.w) X.A (subscripted slice vH (.ref a) u) (λr s₃=>vY (vZ X.prog X.w) X.A (letTemporaryGo value (.ref a) r >>=λ_=>pure r) (EP X vD σ Q) X.xe s₃) X.xe s:=by
  rw[hs];exact wpAny_operating (ZOy (by lia) I g ry λw' s3 I3 rw'=>vz (wpAny_letTemporaryGo (v7 ⟨w,H,I3,rw',q⟩)))
 first
  |exact v7 (vz fin)
  |exact vz (v7 (vz fin))
  |exact vz fin
theorem ZMs{e:D}{x:V}{k:Key}(s:Sim a G)(rd:Rep a d x)(re:Rep a e y)(h1:Sd d G=vE kvs)(h2:Ge e=vE k):
  ∃p,x=.ref p/\((Il kvs k=vF/\DGet a.H p y vF)∨∃v w,Il kvs k=vE v/\Rep a v w/\DGet a.H p y (vE w)):=by
 obtain⟨i,us,rfl,il,rfl,hg,hh,r⟩:=s.dct rd h1;have ey:=ZSX re h2;subst ey;refine⟨a.m i,rfl,?_⟩;have g:=DGet.k (k:=k) hh;rcases r.val (k:=k)with⟨e1,e2⟩|⟨v,w,e1,e2,e3⟩
 ·exact .inl ⟨e1,by rw[e2]at g;exact g⟩
 ·exact .inr ⟨v,w,e1,e3,by rw[e2]at g;exact g⟩
theorem ZJp(hu:X.A.units+64<cLine):IxR X (lR2 X.K E Mh):=(Al (E:=E).or (ZLX hu)).mono λx y H Q h=>by
 obtain⟨a,G,d,e,hk,rfl,s,rd,re,q⟩:=h;unfold Mh at q;split at q
 ·rename_i kvs k h1 h2;obtain⟨p,rfl,⟨e1,_⟩|⟨v,w,e1,rv,g⟩⟩:=ZMs s rd re h1 h2
  ·rw[e1]at q;exact q.elim
  ·rw[e1]at q;exact .inr ⟨p,w,rfl,g,q a w (Ext.refl a) s rv⟩
 ·exact .inl ⟨a,G,d,e,hk,rfl,s,rd,re,q⟩
 ·exact q.elim
theorem Ext.wrD{us:List (Key×V)}(h:a.H p=vE (.dK us)):Ext a (a.put p ho):=
 ⟨rfl,zK _,λ_ _=>rfl,λq xs e=>by
  show upd a.H p ho q=_;rw[Bd (λz=>by subst z;rw[h]at e;cases e)];exact e,λq o u e=>by
  show upd a.H p ho q=_;rw[Bd (λz=>by subst z;rw[h]at e;cases e)];exact e,λ_ t=>t.mono (λq ps e=>by show upd a.H p ho q=_;rw[Bd (λz=>by subst z;rw[h]at e;cases e)];exact e) (λq o u e=>by show upd a.H p ho q=_;rw[Bd (λz=>by subst z;rw[h]at e;cases e)];exact e)⟩
theorem Sim.wrD(s:Sim a G)(hi:i<a.n){us us':List (Key×V)}{kvs':List (Key×D)}(h:a.H (a.m i)=vE (.dK us))(r:RepKV (a.put (a.m i) (.dK us')) kvs' us'):Sim (a.put (a.m i) (.dK us')) (G.set i (.dct kvs')):=by
 refine⟨by rw[jv];exact s.len,s.inj,λj o e=>?_,λj hj=>?_⟩
 ·rw[qO]at e;show ORep _ o (upd a.H (a.m i) (.dK us') (a.m j));by_cases hij:i=j
  ·subst hij;rw[if_pos rfl,if_pos (by rw[s.len];exact hi)]at e;cases e;rw[Gk];exact⟨us',rfl,r⟩
  ·rw[if_neg hij]at e;rw[Bd λz=>hij (s.inj _ _ (s.lt e) hi z).symm];exact(s.obj j o e).mono (Ext.wrD h)
 ·show upd a.H (a.m i) (.dK us') (a.m j)≠vF;by_cases hij:a.m j=a.m i
  ·rw[hij,Gk];simp
  ·rw[Bd hij];exact s.tr j hj
end
section
variable{S:DSt}{G:DH}{n:Nat}{kvs:List (Key×D)}
@[simp]theorem ZTp:Sd (.ref n) G=(match G[n]? with |some (.dct kvs)=>vE kvs|_=>vF):=id rfl
theorem ZQ3{e:D}{k:Key}(h:G[n]?=vE (.dct kvs))(hk:Ge e=vE k):Mh (.ref n) e G=(match Il kvs k with |some v=>.ok v G|none=>.bad):=by unfold Mh;simp[h,hk]
end
section
noncomputable def okD:Nat->D->Bool
 |0,_=>vH
 |_+1,.non=>vG
 |_+1,.int _=>vG
 |_+1,.str _=>vG
 |n+1,.tup ds=>ds.all (okD n)
 |n+1,.fl ds=>ds.all (okD n)
 |_+1,_=>vH
theorem ZB8{f:D->D->Option Bool}{P:D->Prop}(hf:∀x y,P x->P y->∃b,f x y=vE b/\(b=vG↔x=y)):∀{xs ys:List D},(∀x∈xs,P x)->(∀y∈ys,P y)->
  ∃b,eqZ f xs ys=vE b/\(b=vG↔xs.take ys.length=ys.take xs.length)
 |[],ys,_,_=>⟨vG,by cases ys<;>rfl,by simp⟩
 |x::xs,[],_,_=>⟨vG,rfl,by simp⟩
 |x::xs,y::ys,hx,hy=>by obtain⟨b,e1,h1⟩:=hf x y (hx x (by simp)) (hy y (by simp));obtain⟨c,e2,h2⟩:=ZB8 hf (λz hz=>hx z (zX _ hz)) (λz hz=>hy z (zX _ hz));refine⟨b&&c,by simp[eqZ,e1,e2],?_⟩;simp[h1,h2]
theorem ZDi{G:DH}:∀(n:Nat)(d e:D),okD n d=vG->okD n e=vG->∃b,eqD n G d e=vE b/\(b=vG↔d=e)
 |0,d,e,h,_=>by cases h
 | n+1,d,e,h1,h2=>by
  have ih:=ZDi (G:=G) n;cases d with
  |bl _=>simp[okD]at h1
  |ty _=>simp[okD]at h1
  |ref _=>simp[okD]at h1
  | tup xs=>
   cases e with
   |bl _=>simp[okD]at h2
   |ty _=>simp[okD]at h2
   |ref _=>simp[okD]at h2
   |tup ys=>
    simp only[okD,qK]at h1 h2;obtain⟨b,e1,h3⟩:=ZB8 ih (λx hx=>h1 x hx) (λx hx=>h2 x hx);refine⟨b&&xs.length==ys.length,by simp[eqD,view,e1],?_⟩;simp only[zC,h3,beq_iff_eq,D.tup.injEq];constructor
    ·rintro⟨e,hl⟩;rw[<-hl,jL]at e;rw[e,hl,jL]
    ·rintro rfl;exact⟨rfl,rfl⟩
   |_=>exact⟨vH,by simp[eqD,view],by simp⟩
  | fl xs=>
   cases e with
   |bl _=>simp[okD]at h2
   |ty _=>simp[okD]at h2
   |ref _=>simp[okD]at h2
   |fl ys=>
    simp only[okD,qK]at h1 h2;by_cases hl:xs.length=ys.length
    ·obtain⟨b,e1,h3⟩:=ZB8 ih (λx hx=>h1 x hx) (λx hx=>h2 x hx);refine⟨b,by simp[eqD,view,hl,e1],?_⟩;rw[h3,<-hl,jL,hl,jL];simp
    ·exact⟨vH,by simp[eqD,view,hl],by simp;rintro rfl;exact hl rfl⟩
   |_=>exact⟨vH,by simp[eqD,view],by simp⟩
  |non=>cases e<;>first|(simp[okD]at h2;done)|exact⟨_,rfl,by simp[eqV]⟩
  |int i=>cases e<;>first|(simp[okD]at h2;done)|exact⟨_,rfl,by simp[eqV]⟩
  |str i=>cases e<;>first|(simp[okD]at h2;done)|exact⟨_,rfl,by simp[eqV]⟩
open Classical in
theorem ZLS{e:D}(h1:okD 30 d=vG)(h2:okD 30 e=vG):Cv d e G=.ok (.bl (decide (d=e))) G:=by
 obtain⟨b,e1,h⟩:=ZDi (G:=G) 30 d e h1 h2;unfold Cv;rw[e1];cases b with
 |true=>simp[h.mp rfl]
 |false=>simp[show¬d=e from λz=>zy (h.mpr z)]
open Classical in
theorem ZPT{e:D}(h1:okD 30 d=vG)(h2:okD 30 e=vG):Hi d e G=.ok (.bl (!decide (d=e))) G:=by
 obtain⟨b,e1,h⟩:=ZDi (G:=G) 30 d e h1 h2;unfold Hi;rw[e1];cases b with
 |true=>simp[h.mp rfl]
 |false=>simp[show¬d=e from λz=>zy (h.mpr z)]
theorem ZLM(h1:okD 30 d=vG):Cv d d G=.ok (.bl vG) G:=by rw[ZLS h1 h1];simp
theorem ZPK(h1:okD 30 d=vG):Hi d d G=.ok (.bl vH) G:=by rw[ZPT h1 h1];simp
theorem ZIr{n:Nat}(h:∀d∈ds,okD n d=vG):okD (n+1) (.tup ds)=vG:=by simpa[okD]using h
theorem ZJf{n:Nat}(h:∀d∈ds,okD n d=vG):okD (n+1) (.fl ds)=vG:=by simpa[okD]using h
end
def cutD{α:Type}(xs:List α)(lo hi:Option Int):List α:=(xs.drop (HT.sIx xs.length 0 lo)).take (HT.sIx xs.length xs.length hi-HT.sIx xs.length 0 lo)
def Rj(z:Str)(lo hi:Option Int):Str:=⟨(cutD z.cps.toList lo hi).toArray⟩
theorem ZPV(xs:List α)(lo hi:Option Int):(cutD xs lo hi).length<=xs.length:=by unfold cutD;rw[j4,jG];lia
def Ly(t:Option DE)(S:DSt)(G:DH):R (Option Int):=match t with
 |none=>.ok vF G
 |some t=>(t S G).bind λd G1=>match d with
  |.int i=>.ok (vE i) G1
  |_=>.bad
def Yd(d:D)(lo hi:Option Int)(G:DH):R D:=match d with
 |.str z=>if z.length<=1000000 then .ok (.str (Rj z lo hi)) G else .bad
 |.tup xs=>.ok (.tup (cutD xs lo hi)) G
 |d=>match J6 d G with
  |some xs=>.ok (.ref G.length) (G++[.lst (cutD xs lo hi)])
  |none=>.bad
def dSl(e:DE)(lo hi:Option DE):DE:=λS G=>(e S G).bind λd G1=>(Ly lo S G1).bind λl G2=>(Ly hi S G2).bind λh G3=>Yd d l h G3
theorem Xp(n:Nat)(v:Int):((HT.sIx n n (vE v):Nat):Int)=max 0 (min (if v<0 then v+(n:Int)else v) n)/\((HT.sIx n 0 (vE v):Nat):Int)=max 0 (min (if v<0 then v+(n:Int)else v) n):=by
 unfold HT.sIx;by_cases hv:v<0
 ·simp only[if_pos hv];lia
 ·simp only[if_neg hv];lia
theorem ZPw(xs:Array Nat)(i k:Nat):(zZ k).filterMap (λm=>xs[i+m]?)=(xs.toList.drop i).take k:=by
 induction k generalizing i with
 |zero=>simp
 | succ k ih=>
  rw[qE,qY];have e:(List.map Nat.succ (zZ k)).filterMap (λm=>xs[i+m]?)=(zZ k).filterMap (λm=>xs[i+1+m]?):=by
   rw[qX]
   congr 1
   funext m;simp only[Function.comp]
   congr 1
   lia
  rw[e,ih (i+1)];by_cases hi:i<xs.size
  ·have h1:xs[i+0]?=vE xs[i]:=by simp[hi]
   rw[h1];have h2:xs.toList.drop i=xs[i]::xs.toList.drop (i+1):=by rw[zM (by simpa using hi)];simp
   rw[h2];simp
  ·have h1:xs[i+0]?=vF:=by simp;lia
   rw[h1];simp only;rw[zP (by simp;lia),zP (by simp;lia)];simp
theorem ZML(x:Str)(lo hi:Option Int):Txt.slice x lo hi=Rj x lo hi:=by
 have hlen:x.length=x.cps.toList.length:=by simp[Str.length]
 have key:(Builtin.Str.strSliceIndices lo hi 1 x.length).filterMap (x.cps[·]?)=cutD x.cps.toList lo hi:=by
  have e1:∀(v:Option Int),(match v with |none=>(0:Int)|some i=>max 0 (min (if i<0 then i+(x.length:Int)else i) x.length))=((HT.sIx x.length 0 v:Nat):Int):=λv=>by
   cases v with
   |none=>rfl
   |some i=>exact(Xp x.length i).2.symm
  have e2:∀(v:Option Int),(match v with |none=>(x.length:Int)|some i=>max 0 (min (if i<0 then i+(x.length:Int)else i) x.length))=((HT.sIx x.length x.length v:Nat):Int):=λv=>by
   cases v with
   |none=>rfl
   |some i=>exact(Xp x.length i).1.symm
  have e3:Builtin.Str.strSliceIndices lo hi 1 x.length=sliceRange ((HT.sIx x.length 0 lo:Nat):Int) ((HT.sIx x.length x.length hi:Nat):Int) 1:=by
   rw[<-e1 lo,<-e2 hi];unfold Builtin.Str.strSliceIndices
   cases lo<;>cases hi<;>simp
  rw[e3];unfold sliceRange cutD;rw[qX,<-hlen];generalize HT.sIx x.length 0 lo=i;generalize HT.sIx x.length x.length hi=j;have e4:((λa=>x.cps[a]?) ∘ λ(k:Nat)=>((i:Int)+1*(k:Int)).toNat)=λk=>x.cps[i+k]? :=by
   funext k;simp only[Function.comp]
   congr 1
   lia
  have e5:(if(1:Int)>0 then if(i:Int)<(j:Int)then((j:Int)-i+1-1)/1 else 0 else if(i:Int)>(j:Int)then((i:Int)-j-1-1) / -1 else 0).toNat=j-i:=by
   rw[if_pos (by lia)];split
   ·rw[Int.ediv_one];lia
   ·lia
  rw[e4,e5];exact ZPw x.cps i (j-i)
 unfold Txt.slice Rj;split
 ·rename_i h;have h':(Builtin.Str.strSliceIndices lo hi 1 x.length).length=x.length:=by simpa using h
  have hsz:(cutD x.cps.toList lo hi).length=x.cps.toList.length∨(cutD x.cps.toList lo hi).length<x.cps.toList.length:=by have:=ZPV x.cps.toList lo hi;lia
  have hall:(cutD x.cps.toList lo hi).length=x.cps.toList.length:=by
   have e3:(Builtin.Str.strSliceIndices lo hi 1 x.length).length=HT.sIx x.length x.length hi-HT.sIx x.length 0 lo:=by
    have e1:∀(v:Option Int),(match v with |none=>(0:Int)|some i=>max 0 (min (if i<0 then i+(x.length:Int)else i) x.length))=((HT.sIx x.length 0 v:Nat):Int):=λv=>by
     cases v with
     |none=>rfl
     |some i=>exact(Xp x.length i).2.symm
    have e2:∀(v:Option Int),(match v with |none=>(x.length:Int)|some i=>max 0 (min (if i<0 then i+(x.length:Int)else i) x.length))=((HT.sIx x.length x.length v:Nat):Int):=λv=>by
     cases v with
     |none=>rfl
     |some i=>exact(Xp x.length i).1.symm
    have e3:Builtin.Str.strSliceIndices lo hi 1 x.length=sliceRange ((HT.sIx x.length 0 lo:Nat):Int) ((HT.sIx x.length x.length hi:Nat):Int) 1:=by
     rw[<-e1 lo,<-e2 hi];unfold Builtin.Str.strSliceIndices
     cases lo<;>cases hi<;>simp
    rw[e3];unfold sliceRange;rw[qQ,List.length_range];generalize HT.sIx x.length 0 lo=i;generalize HT.sIx x.length x.length hi=j;rw[if_pos (by lia)];split
    ·rw[Int.ediv_one];lia
    ·lia
   have hj:HT.sIx x.length x.length hi<=x.length:=HT.ZHi _ _ (zK _) hi;unfold cutD;rw[j4,jG,<-hlen];lia
  have hs:(cutD x.cps.toList lo hi).Sublist x.cps.toList:=(List.take_sublist _ _).trans (List.drop_sublist _ _);rw[hs.eq_of_length hall]
 ·rw[key]
section
variable{X:Cx}{E:XK}
theorem ZRt:SlR X (λx lo hi H Q=>∃z:Str,x=.str z/\z.length<=sizeLine/\Q (.str (Rj z lo hi)) H):=by
 intro vD s σ H x v vl vu lo hi sl Q I rx hs pl pu h;obtain⟨z,rfl,hz,q⟩:=h;obtain⟨t,rfl⟩:=rx;refine⟨"str",_,PySem.F.slot_str_getitem.lookup,typeIs_str _ _ _,?_⟩
 have fin:∀(l u:Option (Int×Tok)),vl=partValue l->vu=partValue u->l.map (·.1)=lo->u.map (·.1)=hi->vY (vZ X.prog X.w) X.A (getItem (.str z t) (.ref sl)) (EP X vD σ Q) X.xe s:=by
  rintro l u rfl rfl rfl rfl
  refine wpAny_getItem_str_slice (l:=l) (u:=u) (st:=vF) (show s.heap.IsSlice sl l u vF from hs) rfl ?_
  have e:∀Q',(Txt.slice z (l.map (·.1)) (u.map (·.1))).length<=sizeLine/\(∀t' k,Q' (.str (Txt.slice z (l.map (·.1)) (u.map (·.1))) t') {s with toks:=k})->(sliceMade z t l u vF).post Q' s:=λQ' hq=>post_val_or_str hq
  refine e _ ⟨zB (Txt.slice_le z _ _) hz,λt' k=>?_⟩;rw[ZML];exact⟨.str _,H,I.tok k,⟨t',rfl⟩,q⟩
 cases pl with
 |none=>cases pu with
  |none=>exact fin vF vF rfl rfl rfl rfl
  |int j tj=>exact fin vF (vE (j,tj)) rfl rfl rfl rfl
 |int i ti=>cases pu with
  |none=>exact fin (vE (i,ti)) vF rfl rfl rfl rfl
  |int j tj=>exact fin (vE (i,ti)) (vE (j,tj)) rfl rfl rfl rfl
theorem ZND{prog:xK}{E:xj->xq->Prop}{t sl:xZ}{items:Array xj}{vl vu:xj}{lo hi:Option Int}{Q:xj->xq->Prop}(ht:IsTup s.heap t items)(hs:s.heap.IsSliceOf sl vl vu .none)(pl:IsPart vl lo)(pu:IsPart vu hi)
  (hw:HT.sIx items.size 0 lo=0/\HT.sIx items.size items.size hi=items.size) (h:Q (.ref t) s):vY (vZ prog w) A (getItem (.ref t) (.ref sl)) Q E s:=by
 obtain⟨os,hos,hcs,hds⟩:=id hs;have hTs:s.TypeIs (.ref sl) "slice":=⟨os,hos,hcs⟩;unfold getItem
 try with_reducible refine vk ?_
 first|refine vz (v7 ?_)|skip
 refine vz (wpAny_sequenceKey ht.typeIs (by decide) ?_);refine vz (vj (name:=Str.ofString "__getitem__") ht.typeIs PyProof.Rows.slot_tuple_getitem
  (vx PyProof.Rows.slot_tuple_getitem ht.typeIs entry_tuple_getitem ?_ (args_tuple_getitem _ _)))
 show vY _ _ (Builtin.Tuple.tupleItemsOf (.ref t) >>=_) _ _ s;refine vz (tupleItemsOf_ ht ?_);refine vz (wpAny_typeOf hTs ?_);rw[if_pos (by decide)];refine vz (HT.ZJ9 hs pl pu ?_);have hyes:(((HT.sIx items.size 0 lo:Nat):Int)==0&&(1:Int)==1&&(HT.sIx items.size items.size hi-HT.sIx items.size 0 lo)==items.size)=vG:=by rw[hw.1,hw.2];simp
 show vY _ _ (if(((HT.sIx items.size 0 lo:Nat):Int)==0&&(1:Int)==1&&(HT.sIx items.size items.size hi-HT.sIx items.size 0 lo)==items.size)=vG then _ else _) _ _ s;rw[if_pos hyes];refine vz ?_;unfold Builtin.Tuple.tupleIsExact;refine vz (wpAny_typeOf ht.typeIs (v7 ?_));rw[if_pos (by decide)];exact vz (wpAny_rule (v7 ⟨_,rfl,v7 h⟩))
theorem ZLT:SlR X (λx lo hi H Q=>∃a xs,x=.ref a/\SqT X.K H a xs/\(HT.sIx xs.length 0 lo=0/\HT.sIx xs.length xs.length hi=xs.length)/\Q (.ref a) H):=by
 intro vD s σ H x v vl vu lo hi sl Q I rx hs pl pu h;obtain⟨a,xs,rfl,hx,hw,q⟩:=h;cases rx;obtain⟨its,r,ht,hz⟩:=I.tuple hx;have hlen:its.toArray.size=xs.length:=by rw[zY];exact r.length.symm
 exact⟨"tuple",_,PyProof.Rows.slot_tuple_getitem.lookup,ht.typeIs,ZND ht hs pl pu (by rw[hlen];exact hw) ⟨.ref a,H,I,rfl,q⟩⟩
def Q0(E:XK)(a:Wd)(r:R (Option Int))(Q:Option Int->Hp->Prop):Prop:=match r with
 |.ok k G=>∀(b:Wd),Ext a b->Sim b G->Q k b.H
 |.err x G=>XOk E a x G
 |.bad=>False
def QO(X:Cx)(E:XK)(e:Option xX)(t:Option DE):Prop:=PO X e (λσ H Q=>∃(a:Wd)(S:DSt)(G:DH),a.K=X.K/\a.H=H/\Sim a G/\RepS a S σ/\Q0 E a (Ly t S G) Q)
theorem _root_.L2.PO.mono{e:Option xX}{t t':TO}(h:PO X e t)(w:∀σ H Q,t' σ H Q->t σ H Q):PO X e t':=λvD s σ H Q I q=>h vD s σ H Q I (w σ H Q q)
theorem ZJz:QO X E vF vF:=ZPm.mono λσ H Q h=>by obtain⟨a,S,G,hk,rfl,s,r,h⟩:=h;exact h a (Ext.refl a) s
theorem ZJt(he:QE X E e t):QO X E (vE e) (vE t):=(ZRD he).mono λσ H Q h=>by
 obtain⟨a,S,G,hk,rfl,s,r,h⟩:=h;refine⟨a,S,G,hk,rfl,s,r,?_⟩
 have h':Q0 E a ((t S G).bind λd G1=>match d with | .int i=>.ok (vE i) G1|_=>.bad) Q:=h
 cases ht:t S G with
 |ok d G1=>
  rw[ht]at h';intro b v x sb rv;cases d with
  |int i=>exact⟨i,rv,h' b x sb⟩
  |_=>exact h'.elim
 |err x G1=>rw[ht]at h';exact h'
 |bad=>rw[ht]at h';exact h'
theorem Reps.cutD(r:Reps a ds vs)(lo hi:Option Int):Reps a (DL.cutD ds lo hi) (Lr vs lo hi):=by unfold DL.cutD Lr;rw[r.length];exact(r.drop _).take _
theorem Q0.imp{r:R (Option Int)}{Q Q':Option Int->Hp->Prop}(h:Q0 E a r Q)(w:∀v H,Q v H->Q' v H):Q0 E a r Q':=by
 cases r with
 |ok d G=>exact λb x s=>w _ _ (h b x s)
 |err e G=>exact h
 |bad=>exact h
theorem ZE6{r:R (Option Int)}{f:Option Int->DH->R D}(h:out E a (r.bind f) Q):
  Q0 E a r (λk H=>∃(b:Wd)(G:DH),b.H=H/\Ext a b/\Sim b G/\r=.ok k G/\out E b (f k G) Q):=by
 cases r with
 |ok d G=>exact λb x s=>⟨b,G,rfl,x,s,rfl,out.mono x h⟩
 |err e G=>exact h
 |bad=>exact h
theorem ZG8{lo hi:Option xX}{tl th:Option DE}{p2 pos:Pos}(he:QE X E e te)(hl:QO X E lo tl)(hu:QO X E hi th):QE X E (.Subscript e (.Slice lo hi vF p2) pos) (dSl te tl th):=
 (ZRk (ZQV.or (ZOU.or (ZLT.or ZRt))) he hl hu).mono λσ H Q h=>by
 obtain⟨a,S,G,hk,rfl,s,r,h⟩:=h;refine⟨a,S,G,hk,rfl,s,r,(Gq h).imp ?_⟩;rintro v _ ⟨b,d,G1,rfl,x,s1,q,_,h1⟩;refine⟨b,S,G1,x.k.trans hk,rfl,s1,r.mono x,(ZE6 h1).imp ?_⟩;rintro l _ ⟨c,G2,rfl,y,s2,_,h2⟩;refine⟨c,S,G2,y.k.trans (x.k.trans hk),rfl,s2,(r.mono x).mono y,(ZE6 h2).imp ?_⟩;rintro u _ ⟨c3,G3,rfl,y3,s3,_,h3⟩;have hk3:=y3.k.trans (y.k.trans (x.k.trans hk));have q3:=(q.mono y).mono y3
 have lst:out E c3 (match J6 d G3 with |some xs=>.ok (.ref G3.length) (G3++[.lst (cutD xs l u)])|none=>.bad) Q->rSlL X.K v l u c3.H Q:=λh3=>by
  split at h3
  ·rename_i xs hx;obtain⟨p,vs,e1,q1,r1⟩:=Uj s3 q3 hx;exact⟨p,vs,e1,by rw[<-hk3];exact q1,λp hp=>Mt s3 (Reps.cutD r1 l u) h3 p hp⟩
  ·exact h3.elim
 cases d with
 | str z=>
  have h4:out E c3 (if z.length<=1000000 then .ok (.str (Rj z l u)) G3 else .bad) Q:=h3;split at h4
  ·rename_i hl
   cases(show v=V.str z from q3)
   exact .inr (.inr (.inr ⟨z,rfl,zB hl size6,h4 c3 _ (Ext.refl _) s3 rfl⟩))
  ·exact h4.elim
 | tup xs=>
  have h4:out E c3 (.ok (.tup (cutD xs l u)) G3) Q:=h3;obtain⟨p,vs,e1,q1,r1⟩:=q3;by_cases hw:HT.sIx vs.length 0 l=0/\HT.sIx vs.length vs.length u=vs.length
  ·refine .inr (.inr (.inl ⟨p,vs,e1,by rw[<-hk3];exact q1,hw,h4 c3 _ (Ext.refl _) s3 ⟨p,vs,rfl,q1,?_⟩⟩));have:cutD xs l u=xs:=by unfold cutD;rw[r1.length,hw.1,hw.2,<-r1.length];simp
   rw[this];exact r1
  ·exact .inr (.inl ⟨p,vs,e1,by rw[<-hk3];exact q1,hw,λp hp=>ZDF s3 (Reps.cutD r1 l u) h4 p hp⟩)
 |fl xs=>exact .inl (lst h3)
 |ref i=>exact .inl (lst h3)
 |non=>exact(show False from h3).elim
 |bl _=>exact(show False from h3).elim
 |int _=>exact(show False from h3).elim
 |ty _=>exact(show False from h3).elim
section
variable{name:Str}{id:String}{f:D->List D->DH->R D}{o e:xX}{es:List xX}{to:DE}{t:DA}{apos cpos:Pos}
end
end
section
variable{S:DSt}{G:DH}
@[simp]theorem ev_Sl{e:DE}{lo hi:Option DE}:dSl e lo hi S G=(e S G).bind λd G1=>(Ly lo S G1).bind λl G2=>(Ly hi S G2).bind λh G3=>Yd d l h G3:=id rfl
@[simp]theorem ZUY:Ly vF S G=.ok vF G:=id rfl
@[simp]theorem ZUG:Ly (vE t) S G=(t S G).bind λd G1=>match d with | .int i=>.ok (vE i) G1|_=>.bad:=id rfl
@[simp]theorem ev_slT{lo hi:Option Int}:Yd (.tup xs) lo hi G=.ok (.tup (cutD xs lo hi)) G:=id rfl
@[simp]theorem ZTv:Mx [.fl xs] G=.ok (.ref G.length) (G++[.lst xs]):=id rfl
@[simp]theorem R1{z:Str}{i:Int}:Aj (.str z) (.int i) G=if z.length<=1000000 then(match atI z.cps.toList i with |some c=>.ok (sgn c) G|none=>.bad)else .bad:=id rfl
end
end DL
namespace DL
open PySem PySem.Spec L2
open PyProof.Rows hiding St
open Builtin.Str
variable{g:DG}{te:DE}{S:DSt}{G:DH}
section
variable(p:Nat->Bool)(m:Nat)
end
def CStep(g:DG)(c:DB)(te:DE)(S:DSt)(G:DH)(x:D)(r:Option D):Prop:=
 ∃S1,g x S G=.ok S1 G/\((c S1 G=.ok vH G/\r=vF)∨(c S1 G=.ok vG G/\∃d,te S1 G=.ok d G/\r=vE d))
theorem Vl{c:DB}{F:D->Option D}:∀{xs:List D},(∀x∈xs,CStep g c te S G x (F x))->Du g c te S xs G=.ok (xs.filterMap F) G
 |[],_=>rfl
 |x::xs,h=>by
  obtain⟨S1,h1,h2⟩:=h x (by simp);have ih:=Vl (λy hy=>h y (zX _ hy));rw[ZAs,h1];rcases h2 with⟨h2,h3⟩|⟨h2,d,h3,h4⟩
  ·simp[h2,h3,ih,qY]
  ·simp[h2,h3,h4,ih,qY]
theorem ZGn{i:Nat}{c:DB}{F:D->Option D}{xs:List D}(hG:G[i]?=vE (.lst xs))(h:∀x∈xs,CStep g c te S G x (F x)):
  ∀(n j:Nat),j+n=xs.length->Hy i g c te S n j G=.ok ((xs.drop j).filterMap F) G
 |0,j,hj=>by
  unfold Hy;rw[hG];simp only;rw[if_pos (by lia),zP (by lia)]
  rfl
 |n+1,j,hj=>by
  have hlt:j<xs.length:=by lia
  have ih:=ZGn hG h n (j+1) (by lia);obtain⟨S1,h1,h2⟩:=h xs[j] (qx hlt);unfold Hy;rw[hG];simp only;rw[zJ hlt];simp only[h1,R.Jo];rw[zM hlt,qY];rcases h2 with⟨h2,h3⟩|⟨h2,d,h3,h4⟩
  ·simp[h2,h3,ih]
  ·simp[h2,h3,h4,ih]
theorem ZF7{i:Nat}{c:DB}{F:D->Option D}{xs:List D}(hG:G[i]?=vE (.lst xs))(h:∀x∈xs,CStep g c te S G x (F x)):
  Hy i g c te S xs.length 0 G=.ok (xs.filterMap F) G:=ZGn hG h xs.length 0 (by lia)
theorem ZEt{x y:Str}(h:x.cps.toList=y.cps.toList):x=y:=by obtain⟨a⟩:=x;obtain⟨b⟩:=y;simp only at h;rw[Array.toList_inj.mp h]
end DL
namespace DL
open PySem PySem.Spec L2
open PyProof.Rows hiding St
variable{h h':Heap}{p z:xZ}{old:xj}{i:Nat}{os:List xj}
inductive Src where
 |l (a:xZ)
 |t (a:xZ)
variable{sr:Src}{l:List (Src×xZ)}
noncomputable def Src.itn:Src->String
 |.l _=>"list_iterator"
 |.t _=>"tuple_iterator"
noncomputable def Src.adr:Src->xZ
 |.l a=>a
 |.t a=>a
def Src.it(h:Heap)(p:xZ)(k:Nat)(sr:Src):Prop:=∃o,h.get? p=vE o/\o.cls=.type sr.itn/\o.data=.fields #[.ref sr.adr,.int k 0]
def Src.val(h:Heap)(xs:Array xj):Src->Prop
 |.l a=>h.IsList a xs
 |.t a=>h.IsTuple a xs
theorem Src.it.at{k:Nat}(x:sr.it h p k)(e:∀o,h.get? p=vE o->h'.get? p=vE o):sr.it h' p k:=let⟨o,ho,r⟩:=x;⟨o,e o ho,r⟩
theorem Src.val.at{xs:Array xj}(x:sr.val h xs)(e:∀o,h.get? sr.adr=vE o->h'.get? sr.adr=vE o):sr.val h' xs:=by
 cases sr with
 |l a=>obtain⟨o,ho,r⟩:=x;exact⟨o,e o ho,r⟩
 |t a=>obtain⟨o,ho,r⟩:=x;exact⟨o,e o ho,r⟩
theorem Src.it.lt{k:Nat}(x:sr.it h p k):p<h.objs.size:=let⟨_,ho,_⟩:=x;zj ho
section
variable{prog:xK}{w:xw}{A:xJ}{E:xj->xq->Prop}{s:xq}
theorem Src.val.obj{xs:Array xj}(x:sr.val h xs):∃o n,h.get? sr.adr=vE o/\o.data=.seq xs n:=by
 cases sr with
 |l a=>obtain⟨o,ho,_,n,hd⟩:=x;exact⟨o,n,ho,hd⟩
 |t a=>obtain⟨o,ho,_,n,hd⟩:=x;exact⟨o,n,ho,hd⟩
theorem Src.next_item{k:Nat}{xs:Array xj}{x:xj}{Q:xj->xq->Prop}(hit:sr.it s.heap p k)(hv:sr.val s.heap xs)(hx:xs[k]?=vE x)
  (hQ:∀h',sr.it h' p (k+1)->qj p s.heap h'->Q x {s with heap:=h'}):vY (vZ prog w) A (Builtin.SmallTypes.nextOf (.ref p)) Q E s:=by
 cases sr with
 |l a=>exact wpAny_nextOf_list_item (show s.heap.IsListIter p a k from hit) hv hx hQ
 |t a=>
  obtain⟨o,ho,hc,hd⟩:=id hit;obtain⟨ol,hol,_,nl,hdl⟩:=hv;have hT:s.TypeIs (.ref p) "tuple_iterator":=⟨o,ho,hc⟩;unfold Builtin.SmallTypes.nextOf;refine vz (vj (name:=Str.ofString "__next__") hT PySem.F.slot_tuple_iterator_next (vx PySem.F.slot_tuple_iterator_next hT PySem.F.entry_tuple_iterator_next ?_ (PySem.F.args_tuple_iterator_next_1 _)));refine vz (m:=field (.ref p) 0) (vv ho hd (x:=.ref a) rfl ?_)
  show vY _ _ (if(Value.ref a==Value.none)=vG then _ else(field (.ref p) 1 >>=_)) _ _ s
  rw[if_neg (show¬((Value.ref a==Value.none)=vG)from zy)]
  refine vz (m:=field (.ref p) 1) (vv ho hd (x:=.int k 0) rfl (vz (m:=seqItems? (.ref a)) (wpAny_seqItems hol hdl ?_)));simp only[Int.toNat_natCast,hx];refine vz (wpAny_setField ho hd (by simp) (v7 ⟨x,rfl,v7 (hQ _ ⟨_,jH _ ho (Obj.isFreed_of_fields (Obj.data_mapFields hd _)),(Obj.cls_mapFields ..).trans hc,?_⟩ (qj.update ..))⟩))
  rw[Obj.data_mapFields hd];simp[vJ,Src.adr]
theorem Src.next_end{k:Nat}{xs:Array xj}{Q:xj->xq->Prop}(hh:A.handled=vF)(hit:sr.it s.heap p k)(hv:sr.val s.heap xs)(hx:xs[k]?=vF)
  (hE:∀h' e,Heap.ExtBut p s.heap h'->(∃o,h'.get? e=vE o/\o.cls=.type "StopIteration")->E (.ref e) {s with heap:=h'}):vY (vZ prog w) A (Builtin.SmallTypes.nextOf (.ref p)) Q E s:=by
 cases sr with
 |l a=>exact wpAny_nextOf_list_end hh (show s.heap.IsListIter p a k from hit) hv hx hE
 |t a=>
  obtain⟨o,ho,hc,hd⟩:=id hit;obtain⟨ol,hol,_,nl,hdl⟩:=hv;have hT:s.TypeIs (.ref p) "tuple_iterator":=⟨o,ho,hc⟩;unfold Builtin.SmallTypes.nextOf;refine vz (vj (name:=Str.ofString "__next__") hT PySem.F.slot_tuple_iterator_next (vx PySem.F.slot_tuple_iterator_next hT PySem.F.entry_tuple_iterator_next ?_ (PySem.F.args_tuple_iterator_next_1 _)));refine vz (m:=field (.ref p) 0) (vv ho hd (x:=.ref a) rfl ?_)
  show vY _ _ (if(Value.ref a==Value.none)=vG then _ else(field (.ref p) 1 >>=_)) _ _ s
  rw[if_neg (show¬((Value.ref a==Value.none)=vG)from zy)]
  refine vz (m:=field (.ref p) 1) (vv ho hd (x:=.int k 0) rfl (vz (m:=seqItems? (.ref a)) (wpAny_seqItems hol hdl ?_)));simp only[Int.toNat_natCast,hx];refine vz (wpAny_rule (vz (wpAny_setField ho hd (by simp) (vz (m:=newExc (.type "StopIteration") []) ?_))));simp only[newExc,newTuple]
  refine vz (v5 (vz (m:=firstArgMember _ _) (wpAny_of_eq (a:=Value.none) (by first|rfl|(simp only[firstArgMember];rfl)) (v5 ?_ (by size_fits)))) (by size_fits))
  simp only[raiseNew];refine vz (wpAny_handled ?_)
  first|rw[show A.in1.handled=vF from hh]|rw[hh]
  exact vz (v7 (wpAny_throw (hE _ _ (((qj.update ..).extBut.push _).push _) ⟨_,z0 _ rfl,rfl⟩)))
theorem Src.iter{xs:Array xj}{Q:xj->xq->Prop}(hv:sr.val s.heap xs)
  (hQ:Q (.ref s.heap.objs.size) {s with heap:=s.heap.push {cls:=.type sr.itn,data:=.fields #[.ref sr.adr,.int 0 0]}}):vY (vZ prog w) A (pyIter (.ref sr.adr)) Q E s:=by
 cases sr with
 |l a=>exact wpAny_pyIter_list hv hQ
 |t a=>exact wpAny_pyIter_tuple hv hQ
end
abbrev En(h:Heap)(e it:xZ)(f0:xj)(i:Int)(g old:xj):Prop:=
 h.get? e=vE {cls:=.type "enumerate",dict:=vF,data:=.fields #[f0,.bool vH,.ref it,vJ i,g,old],slots:= #[]}
def Gv(i:Int)(g:xj):Prop:=g=.none∨∃t,g=.int i t
section
variable{prog:xK}{w:xw}{A:xJ}{E:xj->xq->Prop}{s:xq}
theorem ZSl{e it:xZ}{k:Nat}{i:Int}{xs:Array xj}{x g:xj}{Q:xj->xq->Prop}(he:En s.heap e it .none i g old)(hg:Gv i g)(hit:sr.it s.heap it k)(hv:sr.val s.heap xs)(hx:xs[k]?=vE x)(hne:e≠it)
  (hQ:∀h' t tk,En h' e it (vJ s.heap.objs.size) (i+1) .none x->sr.it h' it (k+1)->h'.get? s.heap.objs.size=vE {cls:=.type "tuple",data:=.seq #[.int i t,x]}->h'.objs.size=s.heap.objs.size+1->
   (∀b o,b≠e->b≠it->s.heap.get? b=vE o->h'.get? b=vE o)->Q (.ref s.heap.objs.size) {s with heap:=h',toks:=tk}):
  vY (vZ prog w) A (Builtin.«enumerate.__next__» ⟨[.ref e],[]⟩) (λfin s'=>∃v,fin=.done (.ret v)/\Q v s') E s:=by
 obtain⟨hp,gg,d,tk,os⟩:=s;refine vz (m:=field (.ref e) 2) (vv he rfl (x:=.ref it) rfl (vz (m:=Builtin.SmallTypes.nextOf (.ref it)) (Src.next_item hit hv hx λh₁ hit₁ hs₁=>?_)));have he₁:En h₁ e it .none i g old:=(hs₁.2 e hne).trans he;have k₁:∀b o,b≠e->b≠it->hp.get? b=vE o->h₁.get? b=vE o:=λb o _ hb q=>hs₁.extBut b o hb q
 have z₁:h₁.objs.size=hp.objs.size:=hs₁.1;refine vz (m:=field (.ref e) 3) (vv he₁ rfl (x:=vJ i) rfl ?_);refine vz (m:=field (.ref e) 4) (vv he₁ rfl (x:=g) rfl ?_)
 have rest:∀(t:Tok)(tk':Nat),vY (vZ prog w) A (do
   setField (.ref e) 3 (vJ (i+1));setField (.ref e) 4 .none
   let result<-newTuple [.int i t,x]
   if<-Builtin.SmallTypes.ownedTupleIsFree (.ref e)then
    rule "enumerate.__next__.owned-tuple-again"
    let old<-field (.ref e) 5
    setField (.ref e) 5 x
    Builtin.SmallTypes.ownedTupleHandOut (.ref e) result
    PySem.letGo [old] [result]
   ret result) (λfin s'=>∃v,fin=.done (.ret v)/\Q v s') E ⟨h₁,gg,d,tk',os⟩:=by
  intro t tk';refine vz (v8 he₁ (by simp) λh₂ he₂ hs₂=>?_);refine vz (v8 he₂ (by simp) λh₃ he₃ hs₃=>?_)
  replace he₃:En h₃ e it .none (i+1) .none old:=he₃
  have z₃:h₃.objs.size=hp.objs.size:=by rw[hs₃.1];show h₂.objs.size=_;rw[hs₂.1];exact z₁
  have k₃:∀b o,b≠e->b≠it->hp.get? b=vE o->h₃.get? b=vE o:=λb o h1 h2 q=>hs₃.extBut b o h1 (hs₂.extBut b o h1 (k₁ b o h1 h2 q))
  have i₃:sr.it h₃ it (k+1):=(hit₁.at λo q=>hs₂.extBut it o (Ne.symm hne) q).at λo q=>hs₃.extBut it o (Ne.symm hne) q
  refine vz (wpAny_newTuple ?_);generalize hh₄:h₃.push {cls:=.type "tuple",data:=.seq [Value.int i t,x].toArray}=h₄;have he₄:En h₄ e it .none (i+1) .none old:=by rw[<-hh₄];exact zQ _ he₃
  have ht₄:h₄.get? hp.objs.size=vE {cls:=.type "tuple",data:=.seq #[.int i t,x]}:=by rw[<-hh₄,<-z₃];exact z0 _ rfl
  have z₄:h₄.objs.size=hp.objs.size+1:=by rw[<-hh₄,qy,z₃]
  have k₄:∀b o,b≠e->b≠it->hp.get? b=vE o->h₄.get? b=vE o:=λb o h1 h2 q=>by rw[<-hh₄];exact zQ _ (k₃ b o h1 h2 q)
  have i₄:sr.it h₄ it (k+1):=i₃.at λo q=>by rw[<-hh₄];exact zQ _ q
  have ez:e<hp.objs.size:=zj he;refine vz (m:=Builtin.SmallTypes.ownedTupleIsFree (.ref e)) ?_;unfold Builtin.SmallTypes.ownedTupleIsFree;refine vz (vv he₄ rfl (x:=.none) rfl (v7 ?_));simp only[if_true];refine vz (wpAny_rule (vz (vv he₄ rfl (x:=old) rfl (vz (v8 he₄ (by simp) λh₅ he₅ hs₅=>?_)))))
  replace he₅:En h₅ e it .none (i+1) .none x:=he₅
  refine vz (m:=Builtin.SmallTypes.ownedTupleHandOut _ _) ?_;unfold Builtin.SmallTypes.ownedTupleHandOut;refine vz (v8 he₅ (by simp) λh₆ he₆ hs₆=>?_);refine v8 he₆ (by simp) λh₇ he₇ hs₇=>?_
  refine vz (wpAny_letGo (v7 ⟨_,rfl,?_⟩));have up:∀b o,b≠e->h₄.get? b=vE o->h₇.get? b=vE o:=λb o hb q=>hs₇.extBut b o hb (hs₆.extBut b o hb (hs₅.extBut b o hb q))
  show Q (.ref h₃.objs.size) _;rw[z₃];rw[z₃]at he₇;exact hQ h₇ t tk' he₇ (i₄.at λo q=>up it o (Ne.symm hne) q) (up _ _ (jJ ez) ht₄) (by rw[hs₇.1];show h₆.objs.size=_;rw[hs₆.1];show h₅.objs.size=_;rw[hs₅.1];exact z₄) λb o h1 h2 q=>up b o h1 (k₄ b o h1 h2 q)
 rcases hg with rfl|⟨t,rfl⟩
 ·exact vz (m:=mkInt i) (wpAny_mkInt (rest tk (tk+1)))
 ·exact vz (m:=(pure (Value.int i t):Sem xj)) (v7 (rest t tk))
theorem ZK1{e it:xZ}{k:Nat}{i:Int}{xs:Array xj}{x g:xj}{Q:Option xj->xq->Prop}(he:En s.heap e it .none i g old)(hg:Gv i g)(hit:sr.it s.heap it k)(hv:sr.val s.heap xs)(hx:xs[k]?=vE x)(hne:e≠it)
  (hQ:∀h' t tk,En h' e it (vJ s.heap.objs.size) (i+1) .none x->sr.it h' it (k+1)->h'.get? s.heap.objs.size=vE {cls:=.type "tuple",data:=.seq #[.int i t,x]}->h'.objs.size=s.heap.objs.size+1->
   (∀b o,b≠e->b≠it->s.heap.get? b=vE o->h'.get? b=vE o)->Q (vE (.ref s.heap.objs.size)) {s with heap:=h',toks:=tk}):
  vY (vZ prog w) A (pyNext (.ref e)) Q E s:=by
 have hT:s.TypeIs (.ref e) "enumerate":=⟨_,he,rfl⟩;unfold pyNext;exact vz (wpAny_attempt (vj (name:=Str.ofString "__next__") hT PySem.F.slot_enumerate_next
  (vx PySem.F.slot_enumerate_next hT PySem.F.entry_enumerate_next (ZSl he hg hit hv hx hne λh' t tk a1 a2 a3 a4 a5=>v7 (hQ h' t tk a1 a2 a3 a4 a5)) (PySem.F.args_enumerate_next_1 _))))
theorem ZRe{e it:xZ}{k:Nat}{i:Int}{xs:Array xj}{g:xj}{Q:Option xj->xq->Prop}(hh:A.handled=vF)(he:En s.heap e it .none i g old)(hit:sr.it s.heap it k)(hv:sr.val s.heap xs)(hx:xs[k]?=vF)
  (hQ:∀h',Heap.ExtBut it s.heap h'->Q vF {s with heap:=h'}):vY (vZ prog w) A (pyNext (.ref e)) Q E s:=by
 have hT:s.TypeIs (.ref e) "enumerate":=⟨_,he,rfl⟩;unfold pyNext;refine vz (wpAny_attempt (vj (name:=Str.ofString "__next__") hT PySem.F.slot_enumerate_next
  (vx PySem.F.slot_enumerate_next hT PySem.F.entry_enumerate_next (vz (m:=field (.ref e) 2) (vv he rfl (x:=.ref it) rfl (vz (m:=Builtin.SmallTypes.nextOf (.ref it)) (Src.next_end hh hit hv hx λh' x he' hx'=>?_)))) (PySem.F.args_enumerate_next_1 _))))
 obtain⟨o,ho,hc⟩:=hx';exact vz (wpAny_isInstance (T:="StopIteration") (b:=vG) ⟨o,ho,hc⟩ isSubtype_stop (v7 (hQ _ he')))
theorem ZMz{elts:List xX}{x1}{pos:Pos}{e it a:xZ}{i:Int}{g:xj}{Q:Unit->xq->Prop}(he:En s.heap e it (vJ a) i g old)
  (hQ:∀h',En h' e it .none i g old->qj e s.heap h'->Q () {s with heap:=h'}):vY (vZ prog w) A (xU (.Tuple elts x1 pos) (.ref e) (.ref a)) Q E s:=by
 unfold xU;refine vz (wpAny_load he ?_);dsimp only;rw[if_pos (by simp)];exact vz (wpAny_rule (v8 he (by simp) λh' he' hs'=>hQ h' he' hs'))
theorem ZBq{e it:xZ}{f0:xj}{i:Int}{g:xj}{Q:xj->xq->Prop}(he:En s.heap e it f0 i g old)(h:Q (.ref e) s):vY (vZ prog w) A (pyIter (.ref e)) Q E s:=by have hT:s.TypeIs (.ref e) "enumerate":=⟨_,he,rfl⟩;exact wpAny_pyIter_slot hT PySem.F.slot_enumerate_iter (vx PySem.F.slot_enumerate_iter hT PySem.F.entry_enumerate_iter (v7 ⟨_,rfl,"enumerate",_,hT,PySem.F.slot_enumerate_next.lookup,h⟩) (PySem.F.args_enumerate_iter_1 _))
end
abbrev Tp(h:Heap)(T:xZ)(xs:List xj):Prop:=h.get? T=vE {cls:=.type "tuple",data:=.seq xs.toArray}
inductive Drw (h:Heap) (i:Nat):List (Src×xZ)->List xj->Prop where
 |nil:Drw h i [] []
 |cons {sr p r x us xs} (hit:Src.it h p i sr) (hv:sr.val h xs) (hx:xs[i]?=vE x) (t:Drw h i r us):Drw h i ((sr,p)::r) (x::us)
theorem Drw.length{us:List xj}(d:Drw h i l us):us.length=l.length:=by
 induction d with
 |nil=>rfl
 |cons _ _ _ _ ih=>simp[ih]
section
variable{prog:xK}{w:xw}{A:xJ}{E:xj->xq->Prop}{s:xq}
theorem ZMV{T:xZ}{xs:List xj}{x:xj}{k:Nat}{Q:Unit->xq->Prop}(hT:Tp s.heap T xs)(hz:xs.length<=1000000)
  (h:∀h',Tp h' T (xs.set k x)->qj T s.heap h'->Q () {s with heap:=h'}):vY (vZ prog w) A (updateSeq T (·.setIfInBounds k x)) Q E s:=by
 have h1:xs.toArray.size<=sizeLine:=by rw[zY];exact zB hz size6
 refine wpAny_updateSeq hT rfl (h _ ?_ (qj.update ..)) h1 (by rw[Array.size_setIfInBounds];exact Nat.le_succ_of_le h1);show(s.heap.update T _).get? T=_;rw[jH _ hT rfl];simp[Obj.mapSeq]
def ZS(prog:xK)(w:xw)(A:xJ)(E:xj->xq->Prop)(z TO p:xZ)(k:Nat)(R:xq->Prop)(s:xq):Prop:=
 vY (vZ prog w) A (Builtin.SmallTypes.nextOf (.ref p)) (λx s1=>∃os,Tp s1.heap TO os/\os.length<=1000000/\∀h',Tp h' TO (os.set k x)->qj TO s1.heap h'->R {s1 with heap:=h'})
  (λe s'=>vY (vZ prog w) A (setField (.ref z) 0 .none) (λ_ s''=>E e s'') E s') s
theorem ZJ4{TO:xZ}{k:Nat}{xs:Array xj}{x:xj}{Q:xq->Prop}(hTO:Tp s.heap TO os)(hz:os.length<=1000000)(hit:sr.it s.heap p i)(hv:sr.val s.heap xs)(hx:xs[i]?=vE x)
  (h:∀h',Tp h' TO (os.set k x)->sr.it h' p (i+1)->(∀b o,b≠TO->b≠p->s.heap.get? b=vE o->h'.get? b=vE o)->h'.objs.size=s.heap.objs.size->Q {s with heap:=h'}):ZS prog w A E z TO p k Q s:=by
 have hne:TO≠p:=λe=>by
  obtain⟨o,ho,hc,_⟩:=hit;rw[<-e,hTO]at ho;cases ho
  cases sr<;>(simp[Src.itn]at hc)
 refine Src.next_item hit hv hx λh₁ it₁ sb₁=>⟨os,sb₁.extBut _ _ hne hTO,hz,λh₂ t₂ sb₂=>?_⟩
 exact h h₂ t₂ (it₁.at λo e=>sb₂.extBut _ _ (Ne.symm hne) e) (λb o b1 b2 e=>sb₂.extBut b o b1 (sb₁.extBut b o b2 e)) (by rw[sb₂.1];show h₁.objs.size=_;rw[sb₁.1])
theorem ZFi{TO:xZ}{body:xj×Nat->Option Fin×PUnit->Sem (ForInStep (Option Fin×PUnit))}{R:Option Fin×PUnit->xq->Prop}
  (hb:∀(p:xZ)(k:Nat)(s:xq)(R':ForInStep (Option Fin×PUnit)->xq->Prop),ZS prog w A E z TO p k (λs'=>R' (.yield (vF,⟨⟩)) s') s->
   vY (vZ prog w) A (body (.ref p,k) (vF,⟨⟩)) R' E s):
  ∀(l:List (Src×xZ))(us pre post:List xj)(s:xq),Drw s.heap i l us->Tp s.heap TO (pre++post)->post.length=l.length->(pre++post).length<=1000000->(l.map (·.2)).Nodup->(∀q∈l,q.1.adr≠TO)->(∀q∈l,∀r∈l,q.1.adr≠r.2)->
   (∀h',Tp h' TO (pre++us)->(∀q∈l,q.1.it h' q.2 (i+1))->(∀b o,b≠TO->b∉l.map (·.2)->s.heap.get? b=vE o->h'.get? b=vE o)->h'.objs.size=s.heap.objs.size->R (vF,⟨⟩) {s with heap:=h'})->
   vY (vZ prog w) A (forIn ((l.map λq=>Value.ref q.2).zipIdx pre.length) (vF,⟨⟩) body) R E s
 | [],us,pre,post,s,d,hT,hl,hz,nd,na,np,hR=>by
  cases d;cases post with
  |cons _ _=>simp at hl
  |nil=>
   rw[jC,List.zipIdx_nil,List.forIn_nil];exact v7 (hR s.heap hT (λq hq=>by cases hq) (λb o _ _ e=>e) rfl)
 | (sr,p)::l,us,pre,post,s,d,hT,hl,hz,nd,na,np,hR=>by
  cases d with
  |@cons _ _ _ x us xs hit hv hx d=>
  cases post with
  |nil=>simp at hl
  | cons y post=>
   rw[zk,jM,jR];refine vz (hb p pre.length s _ (ZJ4 hT hz hit hv hx λh' hT' it' kp sz=>?_));have e1:(pre++y::post).set pre.length x=(pre++[x])++post:=by simp
   rw[e1]at hT';have e2:pre.length+1=(pre++[x]).length:=by simp
   dsimp only;rw[e2]
   have nd':p∉l.map (·.2)/\(l.map (·.2)).Nodup:=by simpa using nd
   have hTOp:∀q∈l,q.2≠TO:=λq hq e=>by
    have:∃sr k,Src.it s.heap q.2 k sr:=by
     clear hR na np nd nd' e1 e2 hl hT' hz
     induction d with
     |nil=>cases hq
     |cons hit _ _ _ ih=>
      rcases zw.mp hq with rfl|hq
      ·exact⟨_,_,hit⟩
      ·exact ih hq
    obtain⟨sr',k,o,ho,hc,_⟩:=this;rw[e,hT]at ho;cases ho
    cases sr'<;>(simp[Src.itn]at hc)
   have d':Drw h' i l us:=by
    have na':∀q∈l,q.1.adr≠TO:=λq hq=>na q (zX _ hq)
    have np':∀q∈l,q.1.adr≠p:=λq hq=>np q (zX _ hq) (sr,p) zW
    have pp:∀q∈l,q.2≠p:=λq hq e=>nd'.1 (zH.mpr ⟨q,hq,e⟩)
    clear hR na np nd nd' e1 e2 hl hT' hz
    induction d with
    |nil=>exact .nil
    |@cons sr1 p1 r1 x1 us1 xs1 hit1 hv1 hx1 t1 ih=>
     refine .cons (hit1.at λo e=>kp _ o (hTOp _ zW) (pp _ zW) e) (hv1.at λo e=>kp _ o (na' _ zW) (np' _ zW) e) hx1 ?_;exact ih (λq hq=>hTOp q (zX _ hq)) (λq hq=>na' q (zX _ hq)) (λq hq=>np' q (zX _ hq)) (λq hq=>pp q (zX _ hq))
   refine ZFi hb l us (pre++[x]) post {s with heap:=h'} d' hT' (by simpa using hl) (by simpa using hz) nd'.2 (λq hq=>na q (zX _ hq)) (λq hq r hr=>np q (zX _ hq) r (zX _ hr)) λh'' t'' its'' kp'' sz''=>?_
   have hpTO:p≠TO:=λe=>by
    obtain⟨o,ho,hc,_⟩:=hit;rw[e,hT]at ho;cases ho
    cases sr<;>(simp[Src.itn]at hc)
   refine hR h'' (by simpa using t'') (λq hq=>?_) (λb o b1 b2 e=>?_) (sz''.trans sz)
   ·rcases zw.mp hq with rfl|hq
    ·exact it'.at λo e=>kp'' _ o hpTO nd'.1 e
    ·exact its'' q hq
   ·simp only[zk,zw,not_or]at b2;exact kp'' b o b1 b2.2 (kp b o b1 b2.1 e)
end
inductive DrwE (h:Heap) (i:Nat):List (Src×xZ)->Prop where
 |here {sr p r xs} (hit:Src.it h p i sr) (hv:sr.val h xs) (hx:xs[i]?=vF):DrwE h i ((sr,p)::r)
 |there {sr p r x xs} (hit:Src.it h p i sr) (hv:sr.val h xs) (hx:xs[i]?=vE x) (t:DrwE h i r):DrwE h i ((sr,p)::r)
structure ApZ (TO:xZ) (l:List (Src×xZ)):Prop where
 nd:(l.map (·.2)).Nodup
 na:∀q∈l,q.1.adr≠TO
 np:∀q∈l,∀r∈l,q.1.adr≠r.2
 to:∀q∈l,q.2≠TO
theorem ApZ.tail{TO:xZ}{q:Src×xZ}(a:ApZ TO (q::l)):ApZ TO l:=
 ⟨(qD.mp (by simpa using a.nd)).2,λq hq=>a.na q (zX _ hq),λq hq r hr=>a.np q (zX _ hq) r (zX _ hr),λq hq=>a.to q (zX _ hq)⟩
section
variable{prog:xK}{w:xw}{A:xJ}{E:xj->xq->Prop}{s:xq}
theorem DrwE.at{TO:xZ}(a:ApZ TO ((sr,p)::l))(kp:∀b o,b≠TO->b≠p->h.get? b=vE o->h'.get? b=vE o)(d:DrwE h i l):DrwE h' i l:=by
 have pp:∀q∈l,q.2≠p:=λq hq e=>(qD.mp (by simpa using a.nd)).1 (zH.mpr ⟨q,hq,e⟩)
 have np:∀q∈l,q.1.adr≠p:=λq hq=>a.np q (zX _ hq) (sr,p) zW
 have a':=a.tail;clear a
 induction d with
 |here hit hv hx=>exact .here (hit.at λo e=>kp _ o (a'.to _ zW) (pp _ zW) e) (hv.at λo e=>kp _ o (a'.na _ zW) (np _ zW) e) hx
 | there hit hv hx t ih=>
  exact .there (hit.at λo e=>kp _ o (a'.to _ zW) (pp _ zW) e) (hv.at λo e=>kp _ o (a'.na _ zW) (np _ zW) e) hx
   (ih (λq hq=>pp q (zX _ hq)) (λq hq=>np q (zX _ hq)) a'.tail)
theorem ZHj{TO:xZ}{body:xj×Nat->Option Fin×PUnit->Sem (ForInStep (Option Fin×PUnit))}{R:Option Fin×PUnit->xq->Prop}(hh:A.handled=vF)
  (hb:∀(p:xZ)(k:Nat)(s:xq)(R':ForInStep (Option Fin×PUnit)->xq->Prop),ZS prog w A E z TO p k (λs'=>R' (.yield (vF,⟨⟩)) s') s->
   vY (vZ prog w) A (body (.ref p,k) (vF,⟨⟩)) R' E s):
  ∀(l:List (Src×xZ))(os:List xj)(n:Nat)(s:xq),DrwE s.heap i l->Tp s.heap TO os->os.length<=1000000->ApZ TO l->
   (∀h' e,(∀b o,b≠TO->b∉l.map (·.2)->s.heap.get? b=vE o->h'.get? b=vE o)->(∃o,h'.get? e=vE o/\o.cls=.type "StopIteration")->vY (vZ prog w) A (setField (.ref z) 0 .none) (λ_ s''=>E (.ref e) s'') E {s with heap:=h'})->
   vY (vZ prog w) A (forIn ((l.map λq=>Value.ref q.2).zipIdx n) (vF,⟨⟩) body) R E s
 |[],os,n,s,d,hT,hz,a,hE=>by cases d
 | (sr,p)::l,os,n,s,d,hT,hz,a,hE=>by
  rw[zk,jM,jR];refine vz (hb p n s _ ?_);cases d with
  |here hit hv hx=>
   exact Src.next_end hh hit hv hx λh' e xb st=>hE h' e (λb o b1 b2 q=>xb b o (λz=>b2 (by rw[z];simp)) q) st
  |there hit hv hx t=>
   refine ZJ4 hT hz hit hv hx λh' hT' it' kp sz=>?_
   refine ZHj hh hb l _ (n+1) {s with heap:=h'} (t.at a kp) hT' (by simpa using hz) a.tail λh'' e kp'' st=>?_
   refine hE h'' e (λb o b1 b2 q=>?_) st;simp only[zk,zw,not_or]at b2;exact kp'' b o b1 b2.2 (kp b o b1 b2.1 q)
theorem ZH8{TI TO:xZ}{R:Fin->xq->Prop}(hz:IsZip s.heap z TI TO .none)(hTI:Tp s.heap TI (l.map λq=>Value.ref q.2))(hne:l≠[])
  (h:∀h₁,IsZip h₁ z TI TO .ellipsis->qj z s.heap h₁->∀body:xj×Nat->Option Fin×PUnit->Sem (ForInStep (Option Fin×PUnit)),
   (∀(p:xZ)(k:Nat)(s:xq)(R':ForInStep (Option Fin×PUnit)->xq->Prop),ZS prog w A E z TO p k (λs'=>R' (.yield (vF,⟨⟩)) s') s->
    vY (vZ prog w) A (body (.ref p,k) (vF,⟨⟩)) R' E s)->
   vY (vZ prog w) A (forIn ((l.map λq=>Value.ref q.2).zipIdx 0) (vF,⟨⟩) body) (λr s'=>r.1=vF/\∃us,Tp s'.heap TO us/\us.length<=1000000/\IsZip s'.heap z TI TO .ellipsis/\
    ∀h',IsZip h' z TI TO (vJ s'.heap.objs.size)->Tp h' s'.heap.objs.size us->h'.objs.size=s'.heap.objs.size+1->(∀b o,b≠z->s'.heap.get? b=vE o->h'.get? b=vE o)->R (.done (.ret (.ref s'.heap.objs.size))) {s' with heap:=h'}) E {s with heap:=h₁}):
  vY (vZ prog w) A (Builtin.«zip.__next__» ⟨[.ref z],[]⟩) R E s:=by
 refine vz (m:=field (.ref z) 2) (vv hz rfl (x:=.bool vH) rfl (vz (m:=field (.ref z) 3) (vv hz rfl (x:=.ref TI) rfl (vz (m:=seqItems? (.ref TI)) (wpAny_seqItems hTI rfl ?_)))));dsimp only;have hemp:(l.map λq=>Value.ref q.2).toArray.isEmpty=vH:=by cases l with
  |nil=>exact absurd rfl hne
  |cons _ _=>simp
 rw[hemp];refine vz (m:=Builtin.SmallTypes.ownedTupleIsFree (.ref z)) ?_;unfold Builtin.SmallTypes.ownedTupleIsFree;refine vz (vv hz rfl (x:=.none) rfl (v7 ?_));simp only[if_true];refine vz (wpAny_rule (vz (vv hz rfl (x:=.ref TO) rfl (vz (v8 hz (by simp) λh₁ hz₁ hs₁=>?_)))));refine vz (v4 (h h₁ hz₁ hs₁ _ λp k s R' hst=>?_) (λr s' hr=>?_) λ_ _ x=>x)
 ·refine vz (wpAny_onRaise ?_);show vY _ _ (Builtin.SmallTypes.nextOf (.ref p) >>=λv=>pure (vE v)) _ _ s;refine vz (v4 hst (λx s1 hx=>v7 ?_) λ_ _ x=>x);obtain⟨os,hT,hl,hR⟩:=hx;dsimp only;refine vz (wpAny_seqItems hT rfl ?_);dsimp only;exact vz (ZMV hT hl λh' t' sb=>vz (wpAny_letGo (v7 (hR h' t' sb))))
 ·obtain⟨hn,us,hT,hl,hzz,hR⟩:=hr;rw[hn];dsimp only;refine vz (wpAny_seqItems hT rfl ?_);dsimp only;refine vz (wpAny_newTuple ?_ (by show us.toArray.toList.length<=_;simpa using zB hl size6));have hzlt:z<s'.heap.objs.size:=zj hzz;refine vz (m:=Builtin.SmallTypes.ownedTupleHandOut _ _) ?_;unfold Builtin.SmallTypes.ownedTupleHandOut;have e1:us.toArray.toList.toArray=us.toArray:=by simp
  rw[e1];have hz2:IsZip (s'.heap.push {cls:=.type "tuple",data:=.seq us.toArray}) z TI TO .ellipsis:=zQ _ hzz;refine vz (v8 hz2 (by simp) λh₇ hz₇ hs₇=>?_);refine v8 hz₇ (by simp) λh₈ hz₈ hs₈=>?_
  refine v7 (hR h₈ hz₈ ?_ ?_ λb o hb q=>hs₈.extBut _ _ hb (hs₇.extBut _ _ hb (zQ _ q)))
  ·exact hs₈.extBut _ _ (jJ hzlt) (hs₇.extBut _ _ (jJ hzlt) (z0 _ rfl))
  ·rw[hs₈.1];show h₇.objs.size=_;rw[hs₇.1,qy]
theorem ZQH{TI TO:xZ}{us:List xj}{Q:Option xj->xq->Prop}(hz:IsZip s.heap z TI TO .none)(hTI:Tp s.heap TI (l.map λq=>Value.ref q.2))(hTO:Tp s.heap TO os)(hlen:os.length=l.length)(hsz:l.length<=1000000)(hne:l≠[])
  (a:ApZ TO l) (zz:z≠TO/\(∀q∈l,q.2≠z/\q.1.adr≠z)) (d:Drw s.heap i l us)
  (hQ:∀h',IsZip h' z TI TO (vJ s.heap.objs.size)->Tp h' TO us->(∀q∈l,q.1.it h' q.2 (i+1))->Tp h' s.heap.objs.size us->h'.objs.size=s.heap.objs.size+1->
   (∀b o,b≠z->b≠TO->b∉l.map (·.2)->s.heap.get? b=vE o->h'.get? b=vE o)->Q (vE (.ref s.heap.objs.size)) {s with heap:=h'}):vY (vZ prog w) A (pyNext (.ref z)) Q E s:=by
 have hT:s.TypeIs (.ref z) "zip":=⟨_,hz,rfl⟩;unfold pyNext;refine vz (wpAny_attempt (vj (name:=Str.ofString "__next__") hT PySem.F.slot_zip_next (vx PySem.F.slot_zip_next hT PySem.F.entry_zip_next ?_ (PySem.F.args_zip_next_1 _))));refine ZH8 hz hTI hne λh₁ hz₁ hs₁ body hb=>?_
 have k₁:∀b o,b≠z->s.heap.get? b=vE o->h₁.get? b=vE o:=λb o hb q=>hs₁.extBut b o hb q
 have d₁:Drw h₁ i l us:=by
  have h1:∀q∈l,q.2≠z/\q.1.adr≠z:=zz.2;clear hTI hlen hsz hne a zz hQ
  induction d with
  |nil=>exact .nil
  |cons hit hv hx t ih=>exact .cons (hit.at λo e=>k₁ _ o (h1 _ zW).1 e) (hv.at λo e=>k₁ _ o (h1 _ zW).2 e) hx (ih λq hq=>h1 q (zX _ hq))
 refine ZFi (z:=z) (TO:=TO) (i:=i) hb l us [] os {s with heap:=h₁} d₁ (k₁ _ _ (Ne.symm zz.1) hTO) hlen (by simpa[hlen]using hsz) a.nd a.na a.np λh₂ t₂ it₂ k₂ sz₂=>⟨rfl,us,t₂,by rw[d.length];exact hsz,?_,λh₃ z₃ p₃ s₃ k₃=>?_⟩
 ·refine k₂ _ _ zz.1 (λhm=>?_) hz₁;obtain⟨q,hq,e⟩:=zH.mp hm;exact(zz.2 q hq).1 e
 ·have e2:h₂.objs.size=s.heap.objs.size:=by rw[sz₂];exact hs₁.1
  refine⟨_,rfl,v7 ?_⟩;show Q (vE (.ref h₂.objs.size)) _;have z₃':IsZip h₃ z TI TO (vJ h₂.objs.size):=z₃;have p₃':Tp h₃ h₂.objs.size us:=p₃;have s₃':h₃.objs.size=h₂.objs.size+1:=s₃;have k₃':∀b o,b≠z->h₂.get? b=vE o->h₃.get? b=vE o:=k₃;rw[e2]at z₃' p₃' s₃'⊢;exact hQ h₃ z₃' (k₃' _ _ (Ne.symm zz.1) t₂) (λq hq=>(it₂ q hq).at λo e=>k₃' _ o (zz.2 q hq).1 e) p₃' s₃' λb o b1 b2 b3 q=>k₃' b o b1 (k₂ b o b2 b3 (k₁ b o b1 q))
theorem ZRg{TI TO:xZ}{Q:Option xj->xq->Prop}(hh:A.handled=vF)(hz:IsZip s.heap z TI TO .none)(hTI:Tp s.heap TI (l.map λq=>Value.ref q.2))(hTO:Tp s.heap TO os)(hlen:os.length=l.length)(hsz:l.length<=1000000)(hne:l≠[])
  (a:ApZ TO l) (zz:z≠TO/\(∀q∈l,q.2≠z/\q.1.adr≠z)) (d:DrwE s.heap i l)
  (hQ:∀h',(∀b o,b≠z->b≠TO->b∉l.map (·.2)->s.heap.get? b=vE o->h'.get? b=vE o)->Q vF {s with heap:=h'}):vY (vZ prog w) A (pyNext (.ref z)) Q E s:=by
 have hT:s.TypeIs (.ref z) "zip":=⟨_,hz,rfl⟩;unfold pyNext;refine vz (wpAny_attempt (vj (name:=Str.ofString "__next__") hT PySem.F.slot_zip_next (vx PySem.F.slot_zip_next hT PySem.F.entry_zip_next ?_ (PySem.F.args_zip_next_1 _))));refine ZH8 hz hTI hne λh₁ hz₁ hs₁ body hb=>?_
 have k₁:∀b o,b≠z->s.heap.get? b=vE o->h₁.get? b=vE o:=λb o hb q=>hs₁.extBut b o hb q
 have d₁:DrwE h₁ i l:=by
  have h1:∀q∈l,q.2≠z/\q.1.adr≠z:=zz.2;clear hTI hlen hsz hne a zz hQ
  induction d with
  |here hit hv hx=>exact .here (hit.at λo e=>k₁ _ o (h1 _ zW).1 e) (hv.at λo e=>k₁ _ o (h1 _ zW).2 e) hx
  |there hit hv hx t ih=>exact .there (hit.at λo e=>k₁ _ o (h1 _ zW).1 e) (hv.at λo e=>k₁ _ o (h1 _ zW).2 e) hx (ih λq hq=>h1 q (zX _ hq))
 refine ZHj (A:=A.in1) (z:=z) (TO:=TO) (i:=i) (show A.in1.handled=vF from hh) hb l os 0 {s with heap:=h₁} d₁ (k₁ _ _ (Ne.symm zz.1) hTO) (by rw[hlen];exact hsz) a λh₂ e k₂ st=>?_
 have hz₂:IsZip h₂ z TI TO .ellipsis:=by refine k₂ _ _ zz.1 (λhm=>?_) hz₁;obtain⟨q,hq,e⟩:=zH.mp hm;exact(zz.2 q hq).1 e
 obtain⟨o,ho,hc⟩:=st;have hez:e≠z:=λx=>by subst x;rw[hz₂]at ho;cases ho;simp at hc
 refine v8 hz₂ (by simp) λh₃ _ hs₃=>?_
 refine vz (wpAny_isInstance (T:="StopIteration") (b:=vG) ⟨o,hs₃.extBut _ _ hez ho,hc⟩ isSubtype_stop (v7 ?_));exact hQ h₃ λb o b1 b2 b3 q=>hs₃.extBut _ _ b1 (k₂ b o b2 b3 (k₁ b o b1 q))
theorem ZIS:∀(ls:List Src)(pre:Array xj)(s:xq){Q:Array xj->xq->Prop},(∀sr∈ls,∃xs,sr.val s.heap xs)->
  (∀h',(∀q∈ls.zipIdx s.heap.objs.size,q.1.it h' q.2 0)->h'.objs.size=s.heap.objs.size+ls.length->(∀b o,s.heap.get? b=vE o->h'.get? b=vE o)->Q (pre++((ls.zipIdx s.heap.objs.size).map λq=>Value.ref q.2).toArray) {s with heap:=h'})->
  vY (vZ prog w) A (forIn (ls.map λsr=>Value.ref sr.adr) pre λx r=>do let v<-holding r.toList (pyIter x);pure (ForInStep.yield (r.push v))) Q E s
 |[],pre,s,Q,hv,h=>by rw[jC,List.forIn_nil];refine v7 ?_;have:=h s.heap (λq hq=>by cases hq) rfl (λ_ _ e=>e);simpa using this
 | sr::ls,pre,s,Q,hv,h=>by
  rw[zk,jR];obtain⟨xs,hx⟩:=hv sr zW;refine vz (vz (vk (Src.iter hx (v7 ?_))));dsimp only;have z1:(s.heap.push {cls:=.type sr.itn,data:=.fields #[.ref sr.adr,.int 0 0]}).objs.size=s.heap.objs.size+1:=qy ..;refine ZIS ls (pre.push (.ref s.heap.objs.size)) {s with heap:=s.heap.push {cls:=.type sr.itn,data:=.fields #[.ref sr.adr,.int 0 0]}} (λsr' hm=>?_) λh' hi hz kp=>?_
  ·obtain⟨ys,hy⟩:=hv sr' (zX _ hm);exact⟨ys,hy.at λo e=>zQ _ e⟩
  ·dsimp only at hi hz kp⊢;rw[z1]at hi hz⊢;have:=h h' (λq hq=>?_) (by rw[hz,zO];lia) (λb o e=>kp b o (zQ _ e))
   ·rw[jM,zk]at this;simpa using this
   ·rw[jM]at hq;rcases zw.mp hq with rfl|hq
    ·exact⟨_,kp _ _ (z0 _ rfl),rfl,rfl⟩
    ·exact hi q hq
theorem ZP9{ls:List Src}{Q:xj->xq->Prop}(hv:∀sr∈ls,∃xs,sr.val s.heap xs)(hl:ls.length<=1000000)
  (hct:checkTypeCall "zip" ⟨ls.map λsr=>Value.ref sr.adr,[]⟩=pure ()) (hcn:xG "zip.__new__" ⟨.type "zip"::ls.map λsr=>Value.ref sr.adr,[]⟩=pure ()) (hok:∀obj,argsOk "object.__init__" ⟨obj::ls.map λsr=>Value.ref sr.adr,[]⟩)
  (h:∀h' n,n=s.heap.objs.size+ls.length->IsZip h' (n+2) n (n+1) .none->Tp h' n ((ls.zipIdx s.heap.objs.size).map λq=>Value.ref q.2)->Tp h' (n+1) (ls.map λ_=>Value.none)->(∀q∈ls.zipIdx s.heap.objs.size,q.1.it h' q.2 0)->
   (∀b o,s.heap.get? b=vE o->h'.get? b=vE o)->Q (.ref (n+2)) {s with heap:=h'}):
  vY (vZ prog w) A (call (.type "zip") (ls.map λsr=>Value.ref sr.adr)) Q E s:=by
 have g:Meets (Builtin.«zip.__new__» ⟨.type "zip"::ls.map λsr=>Value.ref sr.adr,[]⟩) (λ_ R s=>(∀sr∈ls,∃xs,sr.val s.heap xs)/\
   ∀h' n,n=s.heap.objs.size+ls.length->IsZip h' (n+2) n (n+1) .none->Tp h' n ((ls.zipIdx s.heap.objs.size).map λq=>Value.ref q.2)->Tp h' (n+1) (ls.map λ_=>Value.none)->(∀q∈ls.zipIdx s.heap.objs.size,q.1.it h' q.2 0)->
    (∀b o,s.heap.get? b=vE o->h'.get? b=vE o)->R (.ok (.ret (.ref (n+2)))) {s with heap:=h'}):=
  .of_wp λprog w A R s hh=>by
   obtain⟨hv,hR⟩:=hh;have hsub:=sub_zip;unfold Builtin.«zip.__new__» Builtin.SmallTypes.newClass
   wp_walk
   refine ZIS ls #[] s hv λh1 hi hz kp=>v7 ?_
   have e1:(#[]++((ls.zipIdx s.heap.objs.size).map λq=>Value.ref q.2).toArray:Array xj).toList=(ls.zipIdx s.heap.objs.size).map λq=>Value.ref q.2:=by simp
   rw[e1];have hlen:((ls.zipIdx s.heap.objs.size).map λq=>Value.ref q.2).length=ls.length:=by simp
   refine vz (wpAny_newTuple ?_ (by rw[hlen];exact zB hl size6));refine vz (wpAny_newTuple ?_ (by rw[qQ,hlen];exact zB hl size6));refine vz ?_;unfold Builtin.SmallTypes.newRecord;dsimp only;refine v5 (v7 ⟨_,rfl,?_⟩) (by simp[sizeOk,Builtin.SmallTypes.ownedTupleFields,vX]);generalize e2:s.heap.objs.size+ls.length=n at*
   have e3:((ls.zipIdx s.heap.objs.size).map λq=>Value.ref q.2).map (λ_=>Value.none)=ls.map λ_=>Value.none:=by refine qA (by simp) λi h1 h2=>by simp
   dsimp only;rw[e3];generalize((ls.zipIdx s.heap.objs.size).map λq=>Value.ref q.2)=us at*;generalize(ls.map λ_=>Value.none)=ns at*;have s1:(h1.push {cls:=.type "tuple",data:=.seq us.toArray}).objs.size=n+1:=by rw[qy,hz]
   have s2:((h1.push {cls:=.type "tuple",data:=.seq us.toArray}).push {cls:=.type "tuple",data:=.seq ns.toArray}).objs.size=n+2:=by rw[qy,s1]
   show R (.ok (.ret (.ref ((h1.push {cls:=.type "tuple",data:=.seq us.toArray}).push {cls:=.type "tuple",data:=.seq ns.toArray}).objs.size))) _;rw[s2];refine hR _ n rfl ?_ (zQ _ (zQ _ (by rw[<-hz];exact z0 _ rfl))) (zQ _ (by rw[<-s1];exact z0 _ rfl)) (λq hq=>(hi q hq).at λo e=>zQ _ (zQ _ (zQ _ e))) λb o e=>zQ _ (zQ _ (zQ _ (kp b o e)))
   have:=z0 ((h1.push {cls:=.type "tuple",data:=.seq us.toArray}).push {cls:=.type "tuple",data:=.seq ns.toArray}) (o:={cls:=.type "zip",data:=.fields #[.none,.bool vH,.bool vH,.ref h1.objs.size,.ref (h1.push {cls:=.type "tuple",data:=.seq us.toArray}).objs.size]}) rfl;rw[s2]at this;rw[hz,s1]at this;show _=_;rw[hz,s1];exact this
 refine callType_new PySem.F.called_zip (by decide) hct hcn hok PySem.F.entry_zip_new g ⟨hv,λh' n hn hz hTI hTO hi kp=>⟨⟨_,hz,rfl⟩,h h' n hn hz hTI hTO hi kp⟩⟩
end
end DL
namespace DL
open PySem PySem.W PyProof.Rows
variable{nrem:Nat}
section
def Cw(lt:Nat->Nat->Bool){α:Type}:KasT α->α
 |.ret a=>a
 |.ask i j k=>Cw lt (k (lt i j))
theorem Q7(lt:Nat->Nat->Bool){α β:Type}(f:α->KasT β):∀t:KasT α,Cw lt (t.bind f)=Cw lt (f (Cw lt t))
 |.ret _=>rfl
 |.ask i j k=>Q7 lt f (k (lt i j))
structure WO (lt:Nat->Nat->Bool):Prop where
 asy:∀i j,lt i j=vG->lt j i=vH
 neg:∀i j k,lt i k=vG->lt i j=vG∨lt j k=vG
variable{lt:Nat->Nat->Bool}
theorem WO.refl(o:WO lt)(i:Nat):lt i i=vH:=by
 cases h:lt i i
 ·rfl
 ·have:=o.asy i i h;rw[h]at this;exact this
theorem WO.tr(o:WO lt){i j k:Nat}(h1:lt j i=vH)(h2:lt k j=vH):lt k i=vH:=by
 cases h:lt k i
 ·rfl
 ·rcases o.neg k j i h with z|z
  ·rw[z]at h2;cases h2
  ·rw[z]at h1;cases h1
noncomputable abbrev pt(p:Array Nat)(j:Nat):Nat:=p.getD j 0
theorem Qe(p:Array Nat)(j:Nat):pt p j=(p[j]?).getD 0:=by simp[pt]
def Srt(lt:Nat->Nat->Bool)(p:Array Nat)(k:Nat):Prop:=∀i j,i<=j->j<k->lt (pt p j) (pt p i)=vH
def NIn(lt:Nat->Nat->Bool)(p:Array Nat)(k:Nat):Prop:=∀i j,i<=j->j<k->lt (pt p i) (pt p j)=vH
theorem Jr{p:Array Nat}{i j:Nat}(hj:j<=p.size)(k:Nat):pt (vC p i j) k=if i<=k/\k<j then pt p (i+j-1-k)else pt p k:=by
 rw[Qe,vC,getElem?_mirror_all hj]
 split <;> exact(Qe ..).symm
theorem ZPY{p:Array Nat}{src d:Nat}(hs:src<p.size)(hd:d<=src)(k:Nat):pt (bubble p src d) k=if k=src-d then pt p src else if src-d<k/\k<=src then pt p (k-1)else pt p k:=by
 rw[Qe,getElem?_bubble hs d hd];by_cases h1:k=src-d
 ·rw[if_pos h1,if_pos h1];exact(Qe ..).symm
 ·rw[if_neg h1,if_neg h1];by_cases h2:src-d<k/\k<=src
  ·rw[if_pos h2,if_pos h2];exact(Qe ..).symm
  ·rw[if_neg h2,if_neg h2];exact(Qe ..).symm
theorem ZCQ(o:WO lt)(p:Array Nat):∀f n,1<=n->Srt lt p n->∀m,Cw lt (kas_asc p f n)=m->n<=m/\m<=n+f/\Srt lt p m/\(m<n+f->lt (pt p m) (pt p (m-1))=vG)
 |0,n,h1,h,m,e=>by have e':n=m:=e;subst e';exact⟨zK _,zK _,h,λz=>absurd z (zT _)⟩
 | f + 1,n,h1,h,m,e=>by
  unfold kas_asc at e;have e1:Cw lt (if lt (pt p n) (pt p (n-1))=vG then KasT.ret n else kas_asc p f (n+1))=m:=e;cases hc:lt (pt p n) (pt p (n-1))with
  |true=>
   rw[hc,if_pos rfl]at e1;have e':n=m:=e1;subst e';exact⟨zK _,by lia,h,λ_=>hc⟩
  | false=>
   rw[hc,if_neg (by simp)]at e1;have h':Srt lt p (n+1):=λi j hij hj=>by
    by_cases e:j<n
    ·exact h i j hij e
    ·have e':j=n:=by lia
     subst e';by_cases e2:i=j
     ·rw[e2];exact o.refl _
     ·exact o.tr (h i (j-1) (by lia) (by lia)) hc
   obtain⟨a,b,c,d⟩:=ZCQ o p f (n+1) (by lia) h' m e1;exact⟨by lia,by lia,c,λz=>d (by lia)⟩
structure Dn (lt:Nat->Nat->Bool) (p:Array Nat) (n q:Nat):Prop where
 ni:NIn lt p n
 al:∀i j,n-(q+1)<=i->i<n->n-(q+1)<=j->j<n->lt (pt p i) (pt p j)=vH
 qn:q+1<=n
theorem NIn.rev{p:Array Nat}{n q:Nat}(d:Dn lt p n q)(hn:n<=p.size):NIn lt (vC p (n-(q+1)) n) n:=λi j hij hj=>by
 have:=d.qn;rw[Jr hn,Jr hn];by_cases h1:n-(q+1)<=i
 ·rw[if_pos ⟨h1,by lia⟩,if_pos ⟨by lia,hj⟩];exact d.al _ _ (by lia) (by lia) (by lia) (by lia)
 ·rw[if_neg (by lia)];by_cases h2:n-(q+1)<=j
  ·rw[if_pos ⟨h2,hj⟩];exact d.ni _ _ (by lia) (by lia)
  ·rw[if_neg (by lia)];exact d.ni i j hij hj
theorem Yt(o:WO lt):∀f(p:Array Nat)n q,n+f<=p.size->Dn lt p n q->∀r,Cw lt (kas_desc f p n q)=r->r.1.Perm p/\r.2.1<=n+f/\n<=r.2.1/\Dn lt r.1 r.2.1 r.2.2
 |0,p,n,q,hz,d,r,e=>by have e':(p,n,q)=r:=e;subst e';exact⟨.refl _,zK _,zK _,d⟩
 | f + 1,p,n,q,hz,d,r,e=>by
  have qn:=d.qn;unfold kas_desc at e;have e1:Cw lt (if lt (pt p n) (pt p (n-1))=vG then(if q>0 then kas_desc f (vC p (n-(q+1)) n) (n+1) 0 else kas_desc f p (n+1) 0)
   else .ask (p.getD (n-1) 0) (p.getD n 0) λd=>if d=vG then .ret (p,n,q)else kas_desc f p (n+1) (q+1))=r:=e
  clear e;cases hc:lt (pt p n) (pt p (n-1))with
  | true=>
   rw [hc,if_pos rfl]at e1;have ext:∀p':Array Nat,NIn lt p' n->pt p' n=pt p n->(∀k,k<n->lt (pt p n) (pt p' k)=vG∨k<n)->lt (pt p' (n-1)) (pt p' n)=vH->Dn lt p' (n+1) 0:=λp' hni _ _ hl=>by
    refine⟨λi j hij hj=>?_,λi j h1 h2 h3 h4=>?_,by lia⟩
    ·by_cases e:j<n
     ·exact hni i j hij e
     ·have e':j=n:=by lia
      subst e';by_cases e2:i=j
      ·rw[e2];exact o.refl _
      ·exact o.tr hl (hni i (j-1) (by lia) (by lia))
    ·have e1:i=n:=by lia
     have e2:j=n:=by lia
     rw[e1,e2];exact o.refl _
   by_cases hq:q>0
   ·rw[if_pos hq]at e1;have hl:lt (pt (vC p (n-(q+1)) n) (n-1)) (pt (vC p (n-(q+1)) n) n)=vH:=by
     rw[Jr (by lia),Jr (by lia),if_pos (by lia),if_neg (by lia)];cases hx:lt (pt p (n-(q+1)+n-1-(n-1))) (pt p n)
     ·rfl
     ·rcases o.neg _ (pt p (n-1)) _ hx with z|z
      ·rw[d.al _ _ (by lia) (by lia) (by lia) (by lia)]at z;cases z
      ·rw[o.asy _ _ hc]at z;cases z
    obtain⟨a,b,c,dd⟩:=Yt o f _ (n+1) 0 (by rw[vC,mirror_size];lia) (ext _ (NIn.rev d (by lia)) (by rw[Jr (by lia),if_neg (by lia)]) (λk hk=>.inr hk) hl) r e1;exact⟨a.trans (mirror_perm ..),by lia,by lia,dd⟩
   ·rw[if_neg hq]at e1;obtain⟨a,b,c,dd⟩:=Yt o f p (n+1) 0 (by lia) (ext p d.ni rfl (λk hk=>.inr hk) (o.asy _ _ hc)) r e1;exact⟨a,by lia,by lia,dd⟩
  | false=>
   rw[hc,if_neg (by simp)]at e1;have e2:Cw lt (if lt (pt p (n-1)) (pt p n)=vG then .ret (p,n,q)else kas_desc f p (n+1) (q+1))=r:=e1;cases hd:lt (pt p (n-1)) (pt p n)with
   |true=>
    rw[hd,if_pos rfl]at e2;have e3:(p,n,q)=r:=e2;subst e3;exact⟨.refl _,by show n<=_;lia,zK _,d⟩
   | false=>
    rw[hd,if_neg (by simp)]at e2;have al':∀i,n-(q+1)<=i->i<n+1->lt (pt p i) (pt p n)=vH/\lt (pt p n) (pt p i)=vH:=λi h1 h2=>by
     by_cases e:i=n
     ·rw[e];exact⟨o.refl _,o.refl _⟩
     ·exact⟨o.tr hd (d.al i (n-1) h1 (by lia) (by lia) (by lia)),o.tr (d.al (n-1) i (by lia) (by lia) h1 (by lia)) hc⟩
    obtain⟨a,b,c,dd⟩:=Yt o f p (n+1) (q+1) (by lia) ⟨λi j hij hj=>by
     by_cases e:j<n
     ·exact d.ni i j hij e
     ·have e':j=n:=by lia
      subst e';by_cases e2:i=j
      ·rw[e2];exact o.refl _
      ·exact o.tr hd (d.ni i (j-1) (by lia) (by lia)),λi j h1 h2 h3 h4=>by
     by_cases ei:i=n
     ·rw[ei];exact(al' j (by lia) h4).2
     ·by_cases ej:j=n
      ·rw[ej];exact(al' i (by lia) h2).1
      ·exact d.al i j (by lia) (by lia) (by lia) (by lia),by lia⟩ r e2
    exact⟨a,by lia,by lia,dd⟩
theorem ZGW(o:WO lt){p:Array Nat}{n:Nat}(h1:1<=n)(hn:n<=nrem)(hz:nrem<=p.size)(d:NIn lt p n):∀r,Cw lt (kas_tail3 n nrem p)=r->r.2.Perm p/\r.1<=nrem/\1<=r.1/\Srt lt r.2 r.1:=by
 intro r e;unfold kas_tail3 at e;rw[Q7]at e;have s0:Srt lt (vC p 0 n) n:=λi j hij hj=>by rw[Jr (by lia),Jr (by lia),if_pos (by lia),if_pos (by lia)];exact d _ _ (by lia) (by lia)
 obtain⟨a,b,c,_⟩:=ZCQ o (vC p 0 n) (nrem-n) n h1 s0 _ rfl;have e':(Cw lt (kas_asc (vC p 0 n) (nrem-n) n),vC p 0 n)=r:=e;subst e';exact⟨mirror_perm ..,by show Cw lt (kas_asc (vC p 0 n) (nrem-n) n)<=nrem;lia,by show 1<=Cw lt (kas_asc (vC p 0 n) (nrem-n) n);lia,c⟩
theorem ZKj(o:WO lt){p:Array Nat}{n:Nat}(h1:1<=n)(hn:n<nrem)(hz:nrem<=p.size)(al:∀i j,i<n->j<n->lt (pt p i) (pt p j)=vH)(hl:lt (pt p n) (pt p (n-1))=vG):
  ∀r,Cw lt (kas_descPart n nrem p)=r->r.2.Perm p/\r.1<=nrem/\1<=r.1/\Srt lt r.2 r.1:=by
 intro r e;unfold kas_descPart at e;rw[Q7]at e;have d0:Dn lt p (n+1) 0:=⟨λi j hij hj=>by
  by_cases e:j<n
  ·exact al i j (by lia) e
  ·have e':j=n:=by lia
   subst e';by_cases e2:i=j
   ·rw[e2];exact o.refl _
   ·exact o.tr (o.asy _ _ hl) (al i (j-1) (by lia) (by lia)),λi j _ _ _ _=>by
  have e1:i=n:=by lia
  have e2:j=n:=by lia
  rw[e1,e2];exact o.refl _,by lia⟩
 obtain⟨a,b,c,dd⟩:=Yt o (nrem-(n+1)) p (n+1) 0 (by lia) d0 _ rfl
 revert a b c dd e
 generalize Cw lt (kas_desc (nrem-(n+1)) p (n+1) 0)=x;intro e a b c dd;have hx:x.1.size=p.size:=a.size_eq;split at e
 ·obtain⟨a',b',c',d'⟩:=ZGW o (by lia) (by lia) (by rw[vC,mirror_size];lia) (NIn.rev dd (by lia)) r e;exact⟨(a'.trans (mirror_perm ..)).trans a,b',c',d'⟩
 ·obtain⟨a',b',c',d'⟩:=ZGW o (by lia) (by lia) (by lia) dd.ni r e;exact⟨a'.trans a,b',c',d'⟩
theorem ZSg(o:WO lt){p:Array Nat}(h1:1<=nrem)(hz:nrem<=p.size):∀r,Cw lt (kas_count nrem p)=r->r.2.Perm p/\r.1<=nrem/\1<=r.1/\Srt lt r.2 r.1:=by
 intro r e;unfold kas_count at e;rw[Q7]at e;obtain⟨a,b,c,d⟩:=ZCQ o p (nrem-1) 1 (zK _) (λi j hij hj=>by
  have e1:i=0:=by lia
  have e2:j=0:=by lia
  rw[e1,e2];exact o.refl _) _ rfl
 revert a b c d e
 generalize Cw lt (kas_asc p (nrem-1) 1)=n;intro e a b c d;split at e
 ·have e':(n,p)=r:=e;subst e';exact⟨.refl _,by show n<=nrem;lia,a,c⟩
 ·rename_i hne;have hn:n<nrem:=by
   have:n≠nrem:=by simpa using hne
   lia
  have hl:=d (by lia);split at e
  ·rename_i hgt;have e':Cw lt (if lt (pt p 0) (pt p (n-1))=vG then .ret (n,p)else kas_descPart n nrem (vC p 0 n))=r:=e;cases hc:lt (pt p 0) (pt p (n-1))with
   |true=>
    rw[hc,if_pos rfl]at e';have e2:(n,p)=r:=e';subst e2;exact⟨.refl _,by show n<=nrem;lia,a,c⟩
   | false=>
    rw[hc,if_neg (by simp)]at e';have al:∀i j,i<n->j<n->lt (pt p i) (pt p j)=vH:=λi j hi hj=>o.tr (c j (n-1) (by lia) (by lia) |> λz=>z) (o.tr hc (c 0 i (by lia) hi) |> λz=>by exact z)
    obtain⟨a',b',c',d'⟩:=ZKj o (p:=vC p 0 n) a hn (by rw[vC,mirror_size];lia) (λi j hi hj=>by
     rw[Jr (by lia),Jr (by lia),if_pos (by lia),if_pos (by lia)];exact al _ _ (by lia) (by lia)) (by
     rw[Jr (by lia),Jr (by lia),if_neg (by lia),if_pos (by lia)];rcases o.neg _ (pt p (0+n-1-(n-1))) _ hl with z|z
     ·exact z
     ·rw[al _ _ (by lia) (by lia)]at z;cases z) r e'
    exact⟨a'.trans (mirror_perm ..),b',c',d'⟩
  ·have e1:n=1:=by lia
   subst e1;exact ZKj o (zK _) hn hz (λi j hi hj=>by
    have e1:i=0:=by lia
    have e2:j=0:=by lia
    rw[e1,e2];exact o.refl _) hl r e
theorem ZD6(o:WO lt)(p:Array Nat)(k:Nat)(hs:Srt lt p k):∀f l r,r-l<=f->l<=r->r<=k->(∀i,i<l->lt (pt p k) (pt p i)=vH)->(∀i,r<=i->i<k->lt (pt p k) (pt p i)=vG)->
  ∀m,Cw lt (kas_place p k f l r)=m->m<=k/\(∀i,i<m->lt (pt p k) (pt p i)=vH)/\(∀i,m<=i->i<k->lt (pt p k) (pt p i)=vG)
 |0,l,r,hf,hlr,hr,h1,h2,m,e=>by have e':l=m:=e;subst e';exact⟨by lia,h1,λi hi hk=>h2 i (by lia) hk⟩
 | f+1,l,r,hf,hlr,hr,h1,h2,m,e=>by
  unfold kas_place at e;split at e
  ·have e':l=m:=e;subst e';exact⟨by lia,h1,λi hi hk=>h2 i (by lia) hk⟩
  ·rename_i hlt;have e':Cw lt (if lt (pt p k) (pt p ((l+r)/2))=vG then kas_place p k f l ((l+r)/2)else kas_place p k f ((l+r)/2+1) r)=m:=e;cases hc:lt (pt p k) (pt p ((l+r)/2))with
   |true=>
    rw[hc,if_pos rfl]at e';refine ZD6 o p k hs f l ((l+r)/2) (by lia) (by lia) (by lia) h1 (λi hi hk=>?_) m e';rcases o.neg _ (pt p i) _ hc with z|z
    ·exact z
    ·rw[hs _ i hi hk]at z;cases z
   |false=>
    rw[hc,if_neg (by simp)]at e';exact ZD6 o p k hs f ((l+r)/2+1) r (by lia) (by lia) hr (λi hi=>o.tr (hs i ((l+r)/2) (by lia) (by lia)) hc) h2 m e'
theorem ZG3(o:WO lt):∀f(p:Array Nat)k,k+f=p.size->Srt lt p k->(Cw lt (kas_bin f p k)).Perm p/\Srt lt (Cw lt (kas_bin f p k)) p.size
 |0,p,k,hz,hs=>⟨.refl _,by
  have:k=p.size:=by lia
  rw[<-this];exact hs⟩
 | f + 1,p,k,hz,hs=>by
  unfold kas_bin;rw[Q7];obtain⟨hm,h1,h2⟩:=ZD6 o p k hs k 0 k (by lia) (by lia) (zK _) (λi hi=>by lia) (λi hi hk=>by lia) _ rfl
  revert hm h1 h2
  generalize Cw lt (kas_place p k k 0 k)=m;intro hm h1 h2;have sz:(bubble p k (k-m)).size=p.size:=bubble_size ..;have hk:k<p.size:=by lia
  have e:∀j,pt (bubble p k (k-m)) j=if j=m then pt p k else if m<j/\j<=k then pt p (j-1)else pt p j:=λj=>by
   rw[ZPY hk (by lia)];have:k-(k-m)=m:=by lia
   rw[this]
  obtain⟨a,b⟩:=ZG3 o f (bubble p k (k-m)) (k+1) (by lia) (λi j hij hj=>by
   rw[e i,e j];by_cases ji:j=m
   ·rw[if_pos ji];by_cases ii:i=m
    ·rw[if_pos ii];exact o.refl _
    ·rw[if_neg ii,if_neg (by lia)];exact h1 i (by lia)
   ·rw[if_neg ji];by_cases jm:m<j
    ·rw[if_pos ⟨jm,by lia⟩];by_cases ii:i=m
     ·rw[if_pos ii];exact o.asy _ _ (h2 _ (by lia) (by lia))
     ·rw[if_neg ii];by_cases im:m<i
      ·rw[if_pos ⟨im,by lia⟩];exact hs _ _ (by lia) (by lia)
      ·rw[if_neg (by lia)];exact hs _ _ (by lia) (by lia)
    ·rw[if_neg (by lia),if_neg (by lia),if_neg (by lia)];exact hs i j hij (by lia))
  rw[sz]at b;exact⟨a.trans (bubble_perm ..),b⟩
theorem ZFy(o:WO lt){n:Nat}(hn:1<=n):(Cw lt (kas_sort n)).toList.Perm (zZ n)/\Srt lt (Cw lt (kas_sort n)) n:=by
 unfold kas_sort;rw[Q7];obtain⟨a,b,c,d⟩:=ZSg o (p:=(zZ n).toArray) (nrem:=n) hn (by simp) _ rfl
 revert a b c d
 generalize Cw lt (kas_count n (zZ n).toArray)=x;intro a b c d;have hx:x.2.size=n:=by rw[a.size_eq];simp
 split
 ·have e:max x.1 1=x.1:=by lia
  rw[e];obtain⟨a',b'⟩:=ZG3 o (n-x.1) x.2 x.1 (by lia) d;rw[hx]at b';exact⟨by simpa using(a'.trans a).toList,b'⟩
 ·have e:x.1=n:=by lia
  rw[e]at d;exact⟨by simpa[Cw]using a.toList,d⟩
end
end DL
namespace DL
open PySem PySem.Spec L2
open PyProof.Rows hiding St
variable{vD:List (xZ×Obj)}{σ:St}{H:Hp}{s:xq}{w:xw}{K:PySem.W.Frag}{elts:List xX}{i:Nat}{a:Wd}{ta:DA}
section
variable{X:Cx}{vD:List (xZ×Obj)}{σ:St}{H:Hp}{s:xq}{h':Heap}
theorem ZCw{t':Nat}{fp:List xZ}(I:Inv X vD σ H s)(k:∀b o,b∉fp->s.heap.get? b=vE o->h'.get? b=vE o)(hf:∀b∈fp,FpOk X vD H b):Inv X vD σ H {s with heap:=h',toks:=t'}:=by
 have nit:∀b u,H b=vE u->b∉fp:=λb u e z=>by rw[(hf b z).1]at e;cases e
 refine I.step (g':=s.gens) (d':=s.drawn) (ch:=fp) (λb hb=>?_) (λb o _ _ hc e _=>k b o hc e) (λb o _ _ hc e _=>⟨o.slots,k b o hc e⟩) (λ_ _ _ _ n=>n)
  (λb o hc e=>⟨o,k b o hc e⟩) (λ_ _ e=>e) (λ_ _ _ e=>e) (λb ps e=>⟨#[],by rw[e];simp⟩) (λm hm=>?_) (λb u e=>?_) I.bare
 ·obtain⟨f0,f1,f2,f3,f4,f5⟩:=hf b hb;exact⟨f3,f1,f4,f5⟩
 ·obtain⟨o,es,ep,ho,r⟩:=hm;exact⟨o,es,ep,k _ o (λz=>(hf _ z).2.1 rfl) ho,r⟩
 ·refine(I.hok b u e).stay (λc v hc q=>k c v ?_ q) (λ_ q=>q) λ_ _ q=>q
  rcases hc with z|z
  ·rw[z];exact nit b u e
  ·exact nit c _ z
theorem ZFE{t':Nat}{fp:List xZ}{p:xZ}{xs:List V}{its:List xj}(I:Inv X vD σ H s)(k:∀b o,b∉fp->s.heap.get? b=vE o->h'.get? b=vE o)(hf:∀b∈fp,FpOk X vD H b)(hp:s.heap.objs.size<=p)
  (hz:xs.length<=sizeLine) (r:Vals xs its) (ht:Tp h' p its):Inv X vD σ (upd H p (.tup xs)) {s with heap:=h',toks:=t'}:=by
 obtain⟨g0,g1,g2,g3,g4,g5⟩:=I.Kg (H':=H) hp (I.hok.fresh hp);exact ZAf (ZCw I k hf) g0 (zB I.sz hp) g1 g4 g5 ⟨hz,its,r,_,ht,rfl,_,rfl⟩
end
def Src.sq(K:PySem.W.Frag)(H:Hp)(xs:List V):Src->Prop
 |.l a=>SqL K H a xs
 |.t a=>SqT K H a xs
variable{sr:Src}{ls:List Src}
theorem Src.sq.val{X:Cx}{xs:List V}(I:Inv X vD σ H s)(h:sr.sq X.K H xs):∃its:List xj,Vals xs its/\sr.val s.heap its.toArray/\xs.length<=sizeLine:=by
 cases sr with
 |l a=>obtain⟨its,r,p,hz⟩:=I.list h;exact⟨its,r,p.isList,hz⟩
 |t a=>obtain⟨its,r,p,hz⟩:=I.tuple h;exact⟨its,r,p,hz⟩
theorem Src.sq.inj{X:Cx}{xs ys:List V}(I:Inv X vD σ H s)(h:sr.sq X.K H xs)(h':sr.sq X.K H ys):xs=ys:=by
 cases sr with
 |l a=>exact I.ZCl h h'
 |t a=>exact I.ZDI h h'
def Ite(K:PySem.W.Frag)(sr:Src)(n:Int):It:=
 ⟨λi H=>∃xs x,sr.sq K H xs/\xs[i]?=vE x,λi H v H'=>∃p x,v=.ref p/\H p=vF/\H'=upd H p (.tup [.int (n+i),x])/\∀xs,sr.sq K H xs->xs[i]?=vE x,λi H=>∃xs,sr.sq K H xs/\xs.length<=i⟩
theorem ZH4{P:xK}{x1}{pos:Pos}(sr:Src)(n:Int)(e it:xZ)(hne:e≠it):
  Turn P w K (.Tuple elts x1 pos) (Ite K sr n) [e,it] e (λi h=>∃g old,En h e it .none (n+i) g old/\Gv (n+i) g/\sr.it h it i) where
 mem:=by simp
 obj:=λi h st b hb=>by
  obtain⟨g,old,he,_,o,ho,_,hd⟩:=st;rcases(show b=e∨b=it by simpa using hb)with rfl|rfl
  ·exact⟨_,he,λv z=>by cases z⟩
  ·exact⟨o,ho,λv z=>by rw[hd]at z;cases z⟩
 keep:=λi h h' st k=>by obtain⟨g,old,he,hg,hi⟩:=st;exact⟨g,old,k e (by simp) _ he,hg,hi.at λo q=>k it (by simp) o q⟩
 item:=by
  intro X hP hw hK hc i vD s σ H E I hf st hg;subst hP hw hK;obtain⟨xs,x,hq,hx⟩:=hg;obtain⟨its,rv,hv,hz⟩:=Src.sq.val I hq;obtain⟨u,hu,ru⟩:=rv.get hx;obtain⟨g,old,he,hgv,hi⟩:=st;refine ZK1 he hgv hi hv (x:=u) (by simpa using hu) hne λh1 t tk e1 i1 t1 z1 k1=>⟨_,rfl,?_⟩
  refine ZMz (s:={s with heap:=h1,toks:=tk}) e1 λh2 e2 sb=>?_
  have hpe:s.heap.objs.size≠e:=jJ (zj he);have I2:Inv X vD σ (upd H s.heap.objs.size (.tup [.int (n+i),x])) {s with heap:=h2,toks:=tk}:=
   ZFE (fp:=[e,it]) (its:=[.int (n+i) t,u]) I (λb o hb q=>by
    have hb':b≠e/\b≠it:=by simpa using hb
    exact sb.extBut b o hb'.1 (k1 b o hb'.1 hb'.2 q)) hf (zK _) (by show 2<=sizeLine;decide) (.cons ⟨t,rfl⟩ (.cons ru .nil)) (sb.extBut _ _ hpe t1)
  have hfr:H s.heap.objs.size=vF:=I.hok.fresh (zK _);refine⟨.ref s.heap.objs.size,_,I2,rfl,⟨_,x,rfl,hfr,rfl,λys hy=>by rw[Src.sq.inj I hy hq];exact hx⟩,⟨.none,u,?_,.inl rfl,i1.at λo q=>sb.extBut _ _ (Ne.symm hne) q⟩,λb hb=>?_⟩
  ·have ee:n+(i:Int)+1=n+((i+1:Nat):Int):=by lia
   rw[<-ee];exact e2
  ·have hb':b=e∨b=it:=by simpa using hb
   rw[Bd (λz=>?_)]
   ·exact(hf b hb).1
   ·rcases hb' with rfl|rfl
    ·exact hpe z.symm
    ·have hlt:=Src.it.lt hi;rw[z]at hlt;exact zT _ hlt
 done:=by
  intro X hP hw hK hc i vD s σ H E I hf st hg;subst hP hw hK;obtain⟨xs,hq,hx⟩:=hg;obtain⟨its,rv,hv,hz⟩:=Src.sq.val I hq;obtain⟨g,old,he,hgv,hi⟩:=st;have hl:=rv.length;refine ZRe (I.ok.hd hc) he hi hv (by simp;lia) λh1 xb=>⟨rfl,?_⟩
  exact ZCw (t':=s.toks) (fp:=[e,it]) I (λb o hb q=>xb b o (λz=>hb (by simp[z])) q) hf
 self:=λ_ _ _ _ _ st h=>by obtain⟨g,old,he,_⟩:=st;exact ZBq he h
section
variable{X:Cx}{E:XK}
theorem ZNb{prog:xK}{A:xJ}{E:xj->xq->Prop}{xs:Array xj}{Q:xj->xq->Prop}(hv:sr.val s.heap xs)
  (h:∀h',En h' (s.heap.objs.size+1) s.heap.objs.size .none 0 .none .none->sr.it h' s.heap.objs.size 0->(∀b o,s.heap.get? b=vE o->h'.get? b=vE o)->Q (.ref (s.heap.objs.size+1)) {s with heap:=h'}):
  vY (vZ prog w) A (call (.type "enumerate") [.ref sr.adr]) Q E s:=by
 have g:Meets (Builtin.«enumerate.__new__» ⟨[.type "enumerate",.ref sr.adr],[]⟩) (λ_ R s=>sr.val s.heap xs/\
   R (.ok (.ret (.ref (s.heap.push {cls:=.type sr.itn,data:=.fields #[.ref sr.adr,.int 0 0]}).objs.size)))
    {s with heap:=(s.heap.push {cls:=.type sr.itn,data:=.fields #[.ref sr.adr,.int 0 0]}).push {cls:=.type "enumerate",data:=.fields #[.none,.bool vH,.ref s.heap.objs.size,vJ 0,.none,.none]}}):=
  .of_wp λprog w A R s h=>by
   obtain⟨hp,g,d,tk,os⟩:=s;obtain⟨hl,h⟩:=h;have hsub:=sub_enumerate;have hL:sr.val (Shared.heap ⟨hp,g,d,tk,os⟩) xs:=hl
   wp_walk
   refine wpAny_stack_any λst=>v7 ?_
   split
   ·rename_i c _ _ _ _ _
    cases(c==Value.type "enumerate")<;>(wp_walk using Src.iter hL;exact⟨_,rfl,h⟩)
   ·wp_walk using Src.iter hL
    exact⟨_,rfl,h⟩
 refine callType_new PySem.F.called_enumerate (by decide) (PySem.F.typeCall_enumerate_1 _) (PySem.F.newCall_enumerate_1 _) (λobj=>PySem.F.args_object_init_2 obj _) PySem.F.entry_enumerate_new g ⟨hv,?_⟩;have hz:(s.heap.push {cls:=.type sr.itn,data:=.fields #[.ref sr.adr,.int 0 0]}).objs.size=s.heap.objs.size+1:=qy ..;show _/\_;rw[hz];have he:En ((s.heap.push {cls:=.type sr.itn,data:=.fields #[.ref sr.adr,.int 0 0]}).push {cls:=.type "enumerate",data:=.fields #[.none,.bool vH,.ref s.heap.objs.size,vJ 0,.none,.none]}) (s.heap.objs.size+1) s.heap.objs.size .none 0 .none .none:=by
  have:=z0 (s.heap.push {cls:=.type sr.itn,data:=.fields #[.ref sr.adr,.int 0 0]}) (o:={cls:=.type "enumerate",data:=.fields #[.none,.bool vH,.ref s.heap.objs.size,vJ 0,.none,.none]}) rfl;rw[hz]at this;exact this
 exact⟨⟨_,he,rfl⟩,h _ he ⟨_,zQ _ (z0 _ rfl),rfl,rfl⟩ λb o x=>zQ _ (zQ _ x)⟩
def ZLc(K:PySem.W.Frag)(ta:TA):TI:=λσ H R=>ta σ H λvs H1=>∃sr xs,vs=[.ref (Src.adr sr)]/\sr.sq K H1 xs/\R (Ite K sr 0) H1
theorem ZNB{elts:List xX}{x1}{tp:Pos}{a:xX}{ta:TA}{p pos:Pos}(hg:Gl X "enumerate")(hm:X.mg "enumerate"=vF)(ha:PA X [a] ta)(hs:vW [a] X.env=[(vH,eval a X.env)]:=by rfl):PI X (.Tuple elts x1 tp) (.Call (.Name "enumerate" p) [a] [] pos) (ZLc X.K ta):=by
 intro vD s σ H R I h;refine Call_ (Jq I hg hm PyProof.Rows.boot_enumerate (PyProof.Rows.callWith_type1 (thn (ha pos vD s σ H _ I h) λus s1 ⟨vs,H1,I1,r1,q1⟩=>?_) hs rfl));obtain⟨sr,xs,e,hq,q⟩:=q1;subst e;cases r1 with
 |cons r rr=>
  cases rr;cases r;obtain⟨its,rv,hv,hz⟩:=Src.sq.val I1 hq;refine ZNb hv λh' he hi kp=>?_
  refine ZBq he ?_;have I2:Inv X vD σ H1 {s1 with heap:=h'}:=I1.kept (t':=s1.toks) kp;refine⟨s1.heap.objs.size+1,[s1.heap.objs.size+1,s1.heap.objs.size],_,_,H1,rfl,I2,ZH4 sr 0 _ _ (Nat.succ_ne_self _),⟨.none,.none,by simpa using he,.inl rfl,hi⟩,λb hb=>?_,q⟩;have hb':b=s1.heap.objs.size+1∨b=s1.heap.objs.size:=by simpa using hb
  have hle:s1.heap.objs.size<=b:=by rcases hb' with rfl|rfl<;>lia
  exact I1.Kg hle (I1.hok.fresh hle)
end
inductive DrV (K:PySem.W.Frag) (H:Hp) (i:Nat):List Src->List V->Prop where
 |nil:DrV K H i [] []
 |cons {sr r v us xs} (hq:Src.sq K H xs sr) (hx:xs[i]?=vE v) (t:DrV K H i r us):DrV K H i (sr::r) (v::us)
inductive StV (K:PySem.W.Frag) (H:Hp) (i:Nat):List Src->Prop where
 |here {sr r xs} (hq:Src.sq K H xs sr) (hx:xs.length<=i):StV K H i (sr::r)
 |there {sr r v xs} (hq:Src.sq K H xs sr) (hx:xs[i]?=vE v) (t:StV K H i r):StV K H i (sr::r)
def Itz(K:PySem.W.Frag)(ls:List Src):It:=
 ⟨λi H=>∃us,DrV K H i ls us,λi H v H'=>∃p us,v=.ref p/\H p=vF/\H'=upd H p (.tup us)/\∀us',DrV K H i ls us'->us'=us,λi H=>StV K H i ls⟩
theorem DrV.length{us:List V}(d:DrV K H i ls us):us.length=ls.length:=by
 induction d with
 |nil=>rfl
 |cons _ _ _ ih=>simp[ih]
section
variable{X:Cx}{vD:List (xZ×Obj)}{σ:St}{H:Hp}{s:xq}
theorem DrV.inj(I:Inv X vD σ H s):∀{ls:List Src}{us us':List V},DrV X.K H i ls us->DrV X.K H i ls us'->us=us'
 |[],_,_,d,d'=>by cases d;cases d';rfl
 | sr::ls,_,_,d,d'=>by
  cases d with
  | cons hq hx t=>
   cases d' with
   |cons hq' hx' t'=>
    have e:=Src.sq.inj I hq hq';subst e;rw[hx]at hx';cases hx';rw[DrV.inj I t t']
theorem DrV.drw(I:Inv X vD σ H s):∀{l:List (Src×xZ)}{us:List V},DrV X.K H i (l.map (·.1)) us->(∀q∈l,q.1.it s.heap q.2 i)->∃ws,Drw s.heap i l ws/\Vals us ws
 |[],us,d,h=>by cases d;exact⟨[],.nil,.nil⟩
 | (sr,p)::l,us,d,h=>by
  cases d with
  |cons hq hx t=>
   obtain⟨its,rv,hv,hz⟩:=Src.sq.val I hq;obtain⟨u,hu,ru⟩:=rv.get hx;obtain⟨ws,d',r'⟩:=DrV.drw I t λq hq=>h q (zX _ hq)
   exact⟨u::ws,.cons (h (sr,p) zW) hv (by simpa using hu) d',.cons ru r'⟩
theorem StV.drw(I:Inv X vD σ H s):∀{l:List (Src×xZ)},StV X.K H i (l.map (·.1))->(∀q∈l,q.1.it s.heap q.2 i)->DrwE s.heap i l
 |[],d,h=>by cases d
 | (sr,p)::l,d,h=>by
  cases d with
  |here hq hx=>
   obtain⟨its,rv,hv,hz⟩:=Src.sq.val I hq;have hl:=rv.length;exact .here (h (sr,p) zW) hv (by simp;lia)
  |there hq hx t=>
   obtain⟨its,rv,hv,hz⟩:=Src.sq.val I hq;obtain⟨u,hu,ru⟩:=rv.get hx;exact .there (h (sr,p) zW) hv (by simpa using hu) (StV.drw I t λq hq=>h q (zX _ hq))
end
theorem ZOS{P:xK}{x1}{pos:Pos}(l:List (Src×xZ))(z TI TO:xZ)(a:ApZ TO l)(zz:z≠TO/\(∀q∈l,q.2≠z/\q.1.adr≠z))(tt:TI≠z/\TI≠TO/\∀q∈l,q.2≠TI)(hsz:l.length<=1000000)(hne:l≠[]):
  Turn P w K (.Tuple elts x1 pos) (Itz K (l.map (·.1))) (z::TI::TO::l.map (·.2)) z
   (λi h=>IsZip h z TI TO .none/\Tp h TI (l.map λq=>Value.ref q.2)/\(∃os,Tp h TO os/\os.length=l.length)/\∀q∈l,q.1.it h q.2 i) where
 mem:=by simp
 obj:=λi h st b hb=>by
  obtain⟨hz,hTI,⟨os,hTO,_⟩,hi⟩:=st;rcases zw.mp hb with rfl|hb
  ·exact⟨_,hz,λv z=>by cases z⟩
  ·rcases zw.mp hb with rfl|hb
   ·exact⟨_,hTI,λv z=>by cases z⟩
   ·rcases zw.mp hb with rfl|hb
    ·exact⟨_,hTO,λv z=>by cases z⟩
    ·obtain⟨q,hq,rfl⟩:=zH.mp hb;obtain⟨o,ho,_,hd⟩:=hi q hq;exact⟨o,ho,λv z=>by rw[hd]at z;cases z⟩
 keep:=λi h h' st k=>by obtain⟨hz,hTI,⟨os,hTO,ho⟩,hi⟩:=st;exact⟨k z (by simp) _ hz,k TI (by simp) _ hTI,⟨os,k TO (by simp) _ hTO,ho⟩,λq hq=>(hi q hq).at λo e=>k q.2 (by simp only[zw];exact .inr (.inr (.inr (zH.mpr ⟨q,hq,rfl⟩)))) o e⟩
 item:=by
  intro X hP hw hK hc i vD s σ H E I hf st hg;subst hP hw hK;obtain⟨us,dv⟩:=hg;obtain⟨hz,hTI,⟨os,hTO,ho⟩,hi⟩:=st;obtain⟨ws,dw,rv⟩:=DrV.drw I dv hi;refine ZQH hz hTI hTO ho hsz hne a zz dw λh1 z1 t1 i1 p1 s1 k1=>⟨_,rfl,?_⟩
  refine wpAny_letOwnedTupleGo_zip (s:={s with heap:=h1}) z1 λh2 z2 sb=>?_
  have hpz:s.heap.objs.size≠z:=jJ (zj hz);have hul:us.length<=sizeLine:=by rw[dv.length,qQ];exact zB hsz size6
  have I2:Inv X vD σ (upd H s.heap.objs.size (.tup us)) {s with heap:=h2}:=
   ZFE (t':=s.toks) (fp:=z::TI::TO::l.map (·.2)) (its:=ws) I (λb o hb q=>by simp only[zw,not_or]at hb;exact sb.extBut b o hb.1 (k1 b o hb.1 hb.2.2.1 hb.2.2.2 q)) hf (zK _) hul rv (sb.extBut _ _ hpz p1)
  have hfr:H s.heap.objs.size=vF:=I.hok.fresh (zK _)
  have up:∀b o,b≠z->b≠TO->b∉l.map (·.2)->s.heap.get? b=vE o->h2.get? b=vE o:=λb o b1 b2 b3 q=>sb.extBut b o b1 (k1 b o b1 b2 b3 q)
  refine⟨.ref s.heap.objs.size,_,I2,rfl,⟨_,us,rfl,hfr,rfl,λus' d'=>DrV.inj I d' dv⟩,⟨z2,up TI _ tt.1 tt.2.1 (λhm=>?_) hTI,⟨ws,sb.extBut _ _ (Ne.symm zz.1) t1,dw.length⟩,λq hq=>(i1 q hq).at λo e=>sb.extBut _ _ (zz.2 q hq).1 e⟩,λb hb=>?_⟩
  ·obtain⟨q,hq,e⟩:=zH.mp hm;exact tt.2.2 q hq e
  ·rw [Bd (λe=>?_)]
   ·exact(hf b hb).1
   ·have lt:b<s.heap.objs.size:=by
     rcases zw.mp hb with rfl|hb
     ·exact zj hz
     ·rcases zw.mp hb with rfl|hb
      ·exact zj hTI
      ·rcases zw.mp hb with rfl|hb
       ·exact zj hTO
       ·obtain⟨q,hq,rfl⟩:=zH.mp hb;exact(hi q hq).lt
    rw[e]at lt;exact zT _ lt
 done:=by
  intro X hP hw hK hc i vD s σ H E I hf st hg;subst hP hw hK;obtain⟨hz,hTI,⟨os,hTO,ho⟩,hi⟩:=st;have dw:=StV.drw I hg hi;refine ZRg (I.ok.hd hc) hz hTI hTO ho hsz hne a zz dw λh1 k1=>⟨rfl,?_⟩
  exact ZCw (t':=s.toks) (fp:=z::TI::TO::l.map (·.2)) I (λb o hb q=>by simp only[zw,not_or]at hb;exact k1 b o hb.1 hb.2.2.1 hb.2.2.2 q) hf
 self:=λ_ _ _ _ _ st h=>wpAny_pyIter_zip st.1 h
def Ja (G:DH) (j:Nat):List D->Option (Option (List D))
 |[]=>vE (vE [])
 | d::r=>match Cj d G with
  |none=>vF
  | some xs=>match xs[j]? with
   |none=>vE vF
   |some x=>match Ja G j r with
    |some (vE ys)=>vE (vE (x::ys))
    |o=>o
def Gz(ds:List D)(j:Nat)(G:DH):Option (Option D):=(Ja G j ds).map λo=>o.map D.tup
def lenOf(G:DH)(d:D):Nat:=match Cj d G with
 |some xs=>xs.length
 |none=>0
def Lb(G:DH)(d:D):Bool:=(Cj d G).isSome
def Ez(n:Int)(d:D)(j:Nat)(G:DH):Option (Option D):=match Cj d G with
 |none=>vF
 |some xs=>vE (xs[j]?.map λx=>.tup [.int (n+j),x])
def Ie(ds:List D)(G:DH):R ItD:=match ds with
 |[d]=>if Lb G d=vG then .ok (.fn (lenOf G d) (Ez 0 d)) G else .bad
 |_=>.bad
def I9(n:Nat)(ds:List D)(G:DH):R ItD:=if ds.all (Lb G)=vG/\ds.length=n then .ok (.fn (lenOf G (ds.headD .non)) (Gz ds)) G else .bad
section
variable{X:Cx}{E:XK}
theorem ZCk{G:DH}{d:D}{v:V}{xs:List D}(s:Sim a G)(r:Rep a d v)(h:Cj d G=vE xs):
  ∃sr:Src,v=.ref sr.adr/\(∃vs,sr.sq a.K a.H vs)/\∀b:Wd,Ext a b->∀G',Sim b G'->∀ys,Cj d G'=vE ys->∃us,sr.sq b.K b.H us/\Reps b ys us:=by
 cases d with
 |tup ds=>
  obtain⟨p,vs,rfl,hq,rv⟩:=r;refine⟨.t p,rfl,⟨vs,hq⟩,λb x G' s' ys hy=>?_⟩
  cases(show vE ds=vE ys from hy)
  exact⟨vs,x.sqT hq,rv.mono x⟩
 |fl ds=>
  obtain⟨p,vs,rfl,hq,rv⟩:=r;refine⟨.l p,rfl,⟨vs,hq.sq⟩,λb x G' s' ys hy=>?_⟩
  cases(show vE ds=vE ys from hy)
  exact⟨vs,(x.fzL hq).sq,rv.mono x⟩
 | ref i=>
  obtain⟨hi,rfl⟩:=r;have hx:∃zs,G[i]?=vE (.lst zs):=by
   unfold Cj at h;dsimp only at h;split at h
   ·rename_i zs hz;exact⟨zs,hz⟩
   ·cases h
  obtain⟨zs,hz⟩:=hx;obtain⟨vs,e1,_⟩:=s.lst hz;refine⟨.l (a.m i),rfl,⟨vs,.of e1⟩,λb x G' s' ys hy=>?_⟩;unfold Cj at hy;dsimp only at hy;split at hy
  ·rename_i zs' hz';cases hy;obtain⟨us,e2,r2⟩:=s'.lst hz';rw[x.m i hi]at e2;exact⟨us,.of e2,r2⟩
  ·cases hy
 |_=>cases h
theorem ZQF{G:DH}{d:D}{v:V}(hk:a.K=X.K)(rd:∀b:Wd,Ext a b->∀G',Sim b G'->∀ys,Cj d G'=vE ys->∃us,sr.sq b.K b.H us/\Reps b ys us)(n:Nat):RepI a (.fn n (Ez 0 d)) (Ite X.K sr 0):=by
 intro b x G' s' i;have kb:b.K=X.K:=x.k.trans hk;constructor
 ·intro e he;unfold Ez at he;split at he
  ·cases he
  ·rename_i ys hy;obtain⟨us,hq,ru⟩:=rd b x G' s' ys hy;rw[kb]at hq;cases hyi:ys[i]? with
   |none=>rw[hyi]at he;cases he
   |some y=>
    rw[hyi]at he;have he':D.tup [.int (0+i),y]=e:=by simpa using he
    subst he';obtain⟨u,hu,rx⟩:=ru.get hyi;refine⟨⟨us,u,hq,hu⟩,?_⟩;rintro w H' ⟨p,u',rfl,hp,rfl,hu'⟩;refine⟨b.put p (.tup [.int (0+i),u']),rfl,Ext.put hp,s'.put hp,p,_,rfl,.of Gk,?_⟩;have e1:=hu' us hq;rw[hu]at e1;cases e1;exact⟨_,_,rfl,rfl,Reps.cons (rx.mono (Ext.put hp)) rfl⟩
 ·intro he;unfold Ez at he;split at he
  ·cases he
  ·rename_i ys hy;obtain⟨us,hq,ru⟩:=rd b x G' s' ys hy;rw[kb]at hq;cases hyi:ys[i]? with
   |none=>exact⟨us,hq,by rw[<-ru.length];exact qG.mp hyi⟩
   |some y=>rw[hyi]at he;cases he
theorem R7{elts:List xX}{x1}{tp:Pos}{e:xX}{p pos:Pos}(hg:Gl X "enumerate")(hm:X.mg "enumerate"=vF)(ha:QA X E [e] ta)(hs:vW [e] X.env=[(vH,eval e X.env)]:=by rfl):
  QI X E (.Tuple elts x1 tp) (.Call (.Name "enumerate" p) [e] [] pos) (Cy Ie ta):=(ZNB hg hm ha hs).mono λσ H Q h=>by
 obtain⟨a,S,G,hk,rfl,s,r,h⟩:=h;refine⟨a,S,G,hk,rfl,s,r,(V0 h).imp ?_⟩;rintro vs _ ⟨b,ds,G1,rfl,x,s1,q,-,h1⟩;unfold Ie at h1;split at h1
 ·rename_i d;split at h1
  ·rename_i hok;obtain⟨v,r,e1,q1,q2⟩:=q
   cases(show r=[]from q2)
   subst e1
   obtain⟨xs,hx⟩:=qL.mp (show(Cj d G1).isSome=vG from hok)
   obtain⟨sr,rfl,⟨us,hq⟩,rd⟩:=ZCk s1 q1 hx;have kb:b.K=X.K:=x.k.trans hk;exact⟨sr,us,rfl,by rw[<-kb];exact hq,h1 b _ (Ext.refl b) s1 (ZQF (G:=G1) (v:=.non) kb rd _)⟩
  ·exact h1.elim
 ·exact h1.elim
theorem ZFf{G:DH}(s:Sim a G):∀{ds:List D}{vs:List V},Reps a ds vs->ds.all (Lb G)=vG->∃ls:List Src,vs=ls.map (λsr=>V.ref sr.adr)/\(∀sr∈ls,∃us,sr.sq a.K a.H us)/\
   ∀b:Wd,Ext a b->∀G',Sim b G'->∀i,(∀ys,Ja G' i ds=vE (vE ys)->∃us,DrV b.K b.H i ls us/\Reps b ys us)/\(Ja G' i ds=vE vF->StV b.K b.H i ls)
 |[],vs,r,_=>by
  cases(show vs=[]from r)
  refine⟨[],rfl,(λ_ h=>nomatch h),λb x G' s' i=>⟨λys h=>?_,λh=>?_⟩⟩
  ·cases h;exact⟨[],.nil,rfl⟩
  ·cases h
 | d::ds,vs,r,h=>by
  rw[qB,zC]at h;obtain⟨v,vr,rfl,q1,q2⟩:=r
  obtain⟨xs,hx⟩:=qL.mp (show(Cj d G).isSome=vG from h.1)
  obtain⟨sr,rfl,hq,rd⟩:=ZCk s q1 hx;obtain⟨ls,rfl,hqs,rds⟩:=ZFf s q2 h.2;refine⟨sr::ls,rfl,λsr' hm=>?_,λb x G' s' i=>⟨λys hy=>?_,λhy=>?_⟩⟩
  ·rcases zw.mp hm with rfl|hm
   ·exact hq
   ·exact hqs sr' hm
  ·unfold Ja at hy;split at hy
   ·cases hy
   ·rename_i zs hz;obtain⟨us,hu,ru⟩:=rd b x G' s' zs hz;split at hy
    ·cases hy
    ·rename_i y hyi;obtain⟨u,hui,rx⟩:=ru.get hyi;split at hy
     ·rename_i ys' hys;cases hy;obtain⟨us',d',r'⟩:=(rds b x G' s' i).1 ys' hys;exact⟨u::us',.cons hu hui d',Reps.cons rx r'⟩
     ·rename_i hno;exact absurd hy (hno _)
  ·unfold Ja at hy;split at hy
   ·cases hy
   ·rename_i zs hz;obtain⟨us,hu,ru⟩:=rd b x G' s' zs hz;split at hy
    ·rename_i hyi;exact .here hu (by rw[<-ru.length];exact qG.mp hyi)
    ·rename_i y hyi;obtain⟨u,hui,rx⟩:=ru.get hyi;split at hy
     ·cases hy
     ·exact .there hu hui ((rds b x G' s' i).2 hy)
theorem ZO2{ds:List D}(hk:a.K=X.K)(rd:∀b:Wd,Ext a b->∀G',Sim b G'->∀i,(∀ys,Ja G' i ds=vE (vE ys)->∃us,DrV b.K b.H i ls us/\Reps b ys us)/\(Ja G' i ds=vE vF->StV b.K b.H i ls))(n:Nat):
  RepI a (.fn n (Gz ds)) (Itz X.K ls):=by
 intro b x G' s' i;have kb:b.K=X.K:=x.k.trans hk;constructor
 ·intro e he;unfold Gz at he;cases hz:Ja G' i ds with
  |none=>rw[hz]at he;cases he
  | some o=>
   cases o with
   |none=>rw[hz]at he;cases he
   |some ys=>
    rw[hz]at he;have he':D.tup ys=e:=by simpa using he
    subst he';obtain⟨us,d,ru⟩:=(rd b x G' s' i).1 ys hz;rw[kb]at d;refine⟨⟨us,d⟩,?_⟩;rintro w H' ⟨p,us',rfl,hp,rfl,hu'⟩;cases hu' us d;exact⟨b.put p (.tup us),rfl,Ext.put hp,s'.put hp,p,us,rfl,.of Gk,ru.mono (Ext.put hp)⟩
 ·intro he;unfold Gz at he;cases hz:Ja G' i ds with
  |none=>rw[hz]at he;cases he
  | some o=>
   cases o with
   |none=>
    have:=(rd b x G' s' i).2 hz;rw[kb]at this;exact this
   |some ys=>rw[hz]at he;cases he
def ZCb(n:Nat)(K:PySem.W.Frag)(ta:TA):TI:=λσ H R=>ta σ H λvs H1=>∃ls:List Src,vs=ls.map (λsr=>V.ref sr.adr)/\(∀sr∈ls,∃us,sr.sq K H1 us)/\ls.length=n/\R (Itz K ls) H1
theorem ZDB:∀{ls:List Src}{us:List xj},Vals (ls.map λsr=>V.ref sr.adr) us->us=ls.map λsr=>Value.ref sr.adr
 |[],us,h=>by cases h;rfl
 | sr::ls,us,h=>by
  rw[zk]at h;cases h with
  |cons r rr=>
   cases r;rw[ZDB rr]
   rfl
theorem V9{n:Nat}{q:Src×Nat}(h:q∈ls.zipIdx n):q.1∈ls/\n<=q.2/\q.2<n+ls.length:=by obtain⟨i,hi,rfl⟩:=q9 h;simp only[List.length_zipIdx]at hi;simp only[List.getElem_zipIdx];exact⟨qx hi,by lia,by lia⟩
theorem ZGw{x1}{tp:Pos}{R:It->Hp->Prop}(I:Inv X vD σ H s)(hq:∀sr∈ls,∃us,sr.sq X.K H us)(hne:ls≠[])(hl:ls.length<=1000000)
  (hct:checkTypeCall "zip" ⟨ls.map λsr=>Value.ref sr.adr,[]⟩=pure ()) (hcn:xG "zip.__new__" ⟨.type "zip"::ls.map λsr=>Value.ref sr.adr,[]⟩=pure ()) (hok:∀obj,argsOk "object.__init__" ⟨obj::ls.map λsr=>Value.ref sr.adr,[]⟩)
  (q:R (Itz X.K ls) H):vY (vZ X.prog X.w) X.A (call (.type "zip") (ls.map λsr=>Value.ref sr.adr)) (λv s1=>vY (vZ X.prog X.w) X.A (pyIter v) (PIE X vD σ (.Tuple elts x1 tp) R) X.xe s1) X.xe s:=by
 have hv:∀sr∈ls,∃xs,sr.val s.heap xs:=λsr hm=>by obtain⟨us,h⟩:=hq sr hm;obtain⟨its,_,h',_⟩:=Src.sq.val I h;exact⟨_,h'⟩
 have hlt:∀sr∈ls,sr.adr<s.heap.objs.size:=λsr hm=>by obtain⟨xs,h⟩:=hv sr hm;obtain⟨o,n,ho,_⟩:=h.obj;exact zj ho
 refine ZP9 hv hl hct hcn hok λh' n hn hz hTI hTO hi kp=>?_
 refine wpAny_pyIter_zip hz ?_;have I2:Inv X vD σ H {s with heap:=h'}:=I.kept (t':=s.toks) kp
 have em:(ls.zipIdx s.heap.objs.size).map (·.1)=ls:=by refine qA (by simp) λi h1 h2=>by simp
 have e2:(ls.zipIdx s.heap.objs.size).map (·.2)=List.range' s.heap.objs.size ls.length:=by refine qA (by simp) λi h1 h2=>by simp[Nat.add_comm]
 have qb:∀q∈ls.zipIdx s.heap.objs.size,q.1.adr<s.heap.objs.size/\s.heap.objs.size<=q.2/\q.2<n:=λq hm=>⟨hlt _ (V9 hm).1,(V9 hm).2.1,by rw[hn];exact(V9 hm).2.2⟩
 have hsn:s.heap.objs.size<=n:=by rw[hn];exact jN _ _
 have ap:ApZ (n+1) (ls.zipIdx s.heap.objs.size):=⟨by rw[e2];exact List.nodup_range',λq hm=>zE (zq (qb q hm).1 (Nat.le_succ_of_le hsn)),λq hm r hr=>zE (zq (qb q hm).1 (qb r hr).2.1),λq hm=>zE (qC (qb q hm).2.2)⟩;have T:=ZOS (P:=X.prog) (w:=X.w) (K:=X.K) (elts:=elts) (x1:=x1) (pos:=tp) (ls.zipIdx s.heap.objs.size) (n+2) n (n+1) ap ⟨Nat.succ_ne_self (n+1),λq hm=>⟨zE (zq (qb q hm).2.2 (jN n 2)),zE (zq (qb q hm).1 (zB hsn (jN n 2)))⟩⟩
  ⟨zE (Nat.lt_add_of_pos_right (by decide)),zE (zU n),λq hm=>zE (qb q hm).2.2⟩ (by simpa using hl) (by intro e;apply hne;rw[<-em,e];rfl)
 rw [em]at T;refine⟨n+2,_,_,_,H,rfl,I2,T,⟨hz,hTI,⟨_,hTO,by simp⟩,hi⟩,λb hb=>?_,q⟩;have hle:s.heap.objs.size<=b:=by
  rcases zw.mp hb with rfl|hb
  ·exact zB hsn (jN n 2)
  ·rcases zw.mp hb with rfl|hb
   ·exact hsn
   ·rcases zw.mp hb with rfl|hb
    ·exact Nat.le_succ_of_le hsn
    ·obtain⟨q,hq,rfl⟩:=zH.mp hb;exact(V9 hq).2.1
 exact I.Kg hle (I.hok.fresh hle)
theorem ZPb(a b c:xj):checkTypeCall "zip" ⟨[a,b,c],[]⟩=pure ():=by kernel_rfl
theorem ZN6(a b c:xj):xG "zip.__new__" ⟨[.type "zip",a,b,c],[]⟩=pure ():=by kernel_rfl
theorem ZNY(a b c d:xj):argsOk "object.__init__" ⟨[a,b,c,d],[]⟩:=by unfold argsOk;rw[signature?_of (id:="object.__init__") (n:=['_','_','t','i','n','i','_','_']) (o:=['t','c','e','j','b','o']) (by kernel_rfl) PySem.F.owner_object];kernel_rfl
theorem ZSG{elts:List xX}{x1}{tp:Pos}{a b:xX}{ta:TA}{p pos:Pos}(hg:Gl X "zip")(hm:X.mg "zip"=vF)(ha:PA X [a,b] ta)(hs:vW [a,b] X.env=[(vH,eval a X.env),(vH,eval b X.env)]:=by rfl)(hs2:vW [b] X.env=[(vH,eval b X.env)]:=by rfl):
  PI X (.Tuple elts x1 tp) (.Call (.Name "zip" p) [a,b] [] pos) (ZCb 2 X.K ta):=by
 intro vD s σ H R I h;refine Call_ (Jq I hg hm PyProof.Rows.boot_zip (PyProof.Rows.callWith_type1 (thn (ha pos vD s σ H _ I h) λus s1 ⟨vs,H1,I1,r1,q1⟩=>?_) (by rw[hs,hs2]) (by rw[hs2];rfl)));obtain⟨ls,rfl,hq,hl,q⟩:=q1;cases ZDB r1
 match ls,hl with
 |[x,y],_=>exact ZGw I1 hq (by simp) (by simp) (PySem.F.typeCall_zip_2 _ _) (PySem.F.newCall_zip_2 _ _) (λobj=>PySem.F.args_object_init_3 obj _ _) q
theorem ZLh{elts:List xX}{x1}{tp:Pos}{a b c:xX}{ta:TA}{p pos:Pos}(hg:Gl X "zip")(hm:X.mg "zip"=vF)(ha:PA X [a,b,c] ta)(hs:vW [a,b,c] X.env=[(vH,eval a X.env),(vH,eval b X.env),(vH,eval c X.env)]:=by rfl)
  (hs2:vW [b,c] X.env=[(vH,eval b X.env),(vH,eval c X.env)]:=by rfl):PI X (.Tuple elts x1 tp) (.Call (.Name "zip" p) [a,b,c] [] pos) (ZCb 3 X.K ta):=by
 intro vD s σ H R I h;refine Call_ (Jq I hg hm PyProof.Rows.boot_zip (PyProof.Rows.callWith_type1 (thn (ha pos vD s σ H _ I h) λus s1 ⟨vs,H1,I1,r1,q1⟩=>?_) (by rw[hs,hs2]) (by rw[hs2];rfl)));obtain⟨ls,rfl,hq,hl,q⟩:=q1;cases ZDB r1
 match ls,hl with
 |[x,y,z],_=>exact ZGw I1 hq (by simp) (by simp) (ZPb _ _ _) (ZN6 _ _ _) (λobj=>ZNY obj _ _ _) q
theorem ZHc{n:Nat}{Q:It->Hp->Prop}(hK:K=X.K)(h:lI K E (Cy (I9 n) ta) σ H Q):ZCb n K (lA K E ta) σ H Q:=by
 subst hK;obtain⟨a,S,G,hk,rfl,s,r,h⟩:=h;refine⟨a,S,G,hk,rfl,s,r,(V0 h).imp ?_⟩;rintro vs _ ⟨b,ds,G1,rfl,x,s1,q,-,h1⟩;unfold I9 at h1;split at h1
 ·rename_i hok;obtain⟨ls,e,hq,rd⟩:=ZFf s1 q hok.1;have kb:b.K=X.K:=x.k.trans hk;have hl:ls.length=n:=by have:=q.length;rw[e,qQ]at this;lia
  exact⟨ls,e,λsr hm=>by rw[<-kb];exact hq sr hm,hl,h1 b _ (Ext.refl b) s1 (ZO2 kb rd _)⟩
 ·exact h1.elim
theorem Zr{elts:List xX}{x1}{tp:Pos}{a b:xX}{p pos:Pos}(hg:Gl X "zip")(hm:X.mg "zip"=vF)(ha:QA X E [a,b] ta)(hs:vW [a,b] X.env=[(vH,eval a X.env),(vH,eval b X.env)]:=by rfl)(hs2:vW [b] X.env=[(vH,eval b X.env)]:=by rfl):
  QI X E (.Tuple elts x1 tp) (.Call (.Name "zip" p) [a,b] [] pos) (Cy (I9 2) ta):=(ZSG hg hm ha hs hs2).mono λσ H Q h=>ZHc rfl h
theorem ZL0{elts:List xX}{x1}{tp:Pos}{a b c:xX}{p pos:Pos}(hg:Gl X "zip")(hm:X.mg "zip"=vF)(ha:QA X E [a,b,c] ta)(hs:vW [a,b,c] X.env=[(vH,eval a X.env),(vH,eval b X.env),(vH,eval c X.env)]:=by rfl)
  (hs2:vW [b,c] X.env=[(vH,eval b X.env),(vH,eval c X.env)]:=by rfl):QI X E (.Tuple elts x1 tp) (.Call (.Name "zip" p) [a,b,c] [] pos) (Cy (I9 3) ta):=(ZLh hg hm ha hs hs2).mono λσ H Q h=>ZHc rfl h
end
def ixL:D->D->DH->R D
 | .ref p,.int k,G=>match G[p]? with
  |some (.lst xs)=>match atI xs k with
   |some v=>.ok v G
   |none=>.bad
  |_=>.bad
 |_,_,_=>.bad
def Pj(to ti te:DE)(f:D->D->DH->R D):DS:=λS G=>(to S G).toS λo G1=>(ti S G1).toS λi G2=>(ixL o i G2).toS λx G3=>(te S G3).toS λy G4=>(f x y G4).toS λz G5=>(Ql o i z G5).toS λ_ G6=>.nx S G6
noncomputable def La:DS:=λ_ _=>.bad
section
variable{X:Cx}{E:XK}
theorem U3{st:xz}:QS X E st La:=λvD s σ H W I h=>by obtain⟨a,S,G,hk,rfl,sm,r,h⟩:=h;exact h.elim
theorem Zm{o i e:xX}{op:Operator}{to ti te:DE}{f:D->D->DH->R D}{tpos pos:Pos}(ho:QE X E o to)(hi:QE X E i ti)(he:QE X E e te)(hop:OpR X (inplaceOp op) (lR2 X.K E f))
  (ha:∀ov iv new,augStore i ov iv new=(do holding [new,ov,iv] (setItem ov iv new);release [new,ov,iv] [];pure .next):=by intros;rfl):QS X E (.AugAssign (.Subscript o i tpos) op e pos) (Pj to ti te f):=by
 intro vD s σ H W I h;obtain⟨a,S,G,hk,rfl,sm,r,h⟩:=h;refine wpAny_AugAssign_SubscriptAny (thn (ho vD s σ a.H _ I ⟨a,S,G,hk,rfl,sm,r,J0 h⟩) ?_) ha;rintro ov s1 ⟨vo,H1,I1,ro,b1,o,G1,rfl,x1,m1,q1,_,h1⟩;have k1:=x1.k.trans hk;refine thn (hi vD s1 σ b1.H _ I1 ⟨b1,S,G1,k1,rfl,m1,r.mono x1,J0 h1⟩) ?_;rintro iv s2 ⟨vi,H2,I2,ri,b2,i,G2,rfl,x2,m2,q2,_,h2⟩;have k2:=x2.k.trans k1;have q1':=q1.mono x2;cases i with
 | int k=>
  cases o with
  | ref p=>
   obtain⟨hp,rfl⟩:=q1'
   cases(show vi=V.int k from q2)
   cases ro;obtain⟨t,rfl⟩:=ri;unfold ixL at h2;dsimp only at h2;split at h2
   ·rename_i xs hx';obtain⟨vs,e1,r1⟩:=m2.lst hx';split at h2
    ·rename_i d hd;obtain⟨v,ev,rd⟩:=ZKU r1 hd;have h2':Dh E b2 ((te S G2).toS λy G4=>(f d y G4).toS λz G5=>(Ql (.ref p) (.int k) z G5).toS λ_ G6=>.nx S G6) W:=h2;obtain⟨its,rv,pl,hz⟩:=I2.list (.of e1);obtain⟨j,g1,g2,g3,g4,g5⟩:=Wl ev;obtain⟨w,ew,rw'⟩:=rv.get g2;have hl:=rv.length;have hn:=line63;have fin:vY (vZ X.prog X.w) X.A (getItem (.ref (b2.m p)) (.int k t)) (λold s3=>old=w/\s3=s2) X.xe s2:=by
      by_cases h0:0<=k
      ·have hj:k.toNat=j:=by rw[seqIndex_of h0 g5]at g1;exact Option.some.inj g1
       exact wpAny_getItem_list pl.isList h0 (by lia) (by rw[hj];simpa using ew) ⟨rfl,rfl⟩
      ·have hj:(k+(its.toArray.size:Int)).toNat=j:=by rw[seqIndex_neg (by lia) g4]at g1;rw[zY,<-hl];exact Option.some.inj g1
       exact wpAny_getItem_list_neg pl.isList (by lia) (by rw[zY]<;>lia) (by lia) (by rw[hj];simpa using ew) ⟨rfl,rfl⟩
     refine thn fin ?_;rintro old s3 ⟨rfl,rfl⟩;refine thn (he vD s3 σ b2.H _ I2 ⟨b2,S,G2,k2,rfl,m2,(r.mono x1).mono x2,J0 h2'⟩) ?_;rintro yv s4 ⟨vy,H4,I4,ry,b4,y,G4,rfl,x4,m4,q4,_,h4⟩;have k4:=x4.k.trans k2;refine thn (hop vD s4 σ b4.H v vy old yv _ I4 rw' ry ⟨b4,G4,d,y,k4,rfl,m4,rd.mono x4,q4,J0 h4⟩) ?_;rintro new s5 ⟨vn,H5,I5,rn,b5,z,G5,rfl,x5,m5,q5,_,h5⟩;unfold Ql at h5;dsimp only at h5;split at h5
     ·rename_i ys hy;split at h5
      ·rename_i jj hjj;obtain⟨ws,e5,r5⟩:=m5.lst hy;have hp5:p<b5.n:=zq hp (zB x4.n x5.n);have em:b5.m p=b2.m p:=(x5.m p (zq hp x4.n)).trans (x4.m p hp);obtain⟨x6,m6⟩:=ZCc m5 hp5 e5 (r5.set q5 jj);refine thn (set_list vD s5 σ b5.H (.ref (b2.m p)) (.int k) vn (.ref (b2.m p)) (.int k t) new (λH'=>W.nx σ H') I5 rfl ⟨t,rfl⟩ rn ⟨b5.m p,ws,k,jj,by rw[em],rfl,e5,by rw[<-r5.length];exact hjj,?_⟩) ?_
       ·exact h5 _ σ x6 m6 (((((r.mono x1).mono x2).mono x4).mono x5).mono x6)
       ·rintro _ s6 ⟨H6,I6,q6⟩;exact⟨σ,H6,I6,q6⟩
      ·exact h5.elim
     ·exact h5.elim
    ·exact h2.elim
   ·exact h2.elim
  |_=>exact(show False from h2).elim
 |_=>cases o<;>exact(show False from h2).elim
end
def K7(ds:List D)(G:DH):R D:=match ds with
 | [d]=>match Cj d G with
  |some xs=>match Hz xs with
   |some (n::ns)=>.ok (.int (ns.foldl min n)) G
   |_=>.bad
  |none=>.bad
 |_=>.bad
def Jt(ds:List D)(G:DH):R D:=match ds with
 | [d]=>match Cj d G with
  |some xs=>match Hz xs with
   |some (n::ns)=>.ok (.int (ns.foldl max n)) G
   |_=>.bad
  |none=>.bad
 |_=>.bad
theorem W4:∀(ns:List Int)(n:Int),ns.foldl min n<=n/\(∀x∈ns,ns.foldl min n<=x)/\(ns.foldl min n=n∨ns.foldl min n∈ns)
 |[],n=>⟨qq _,λx h=>(by cases h),.inl rfl⟩
 | m::ns,n=>by
  obtain⟨h1,h2,h3⟩:=W4 ns (min n m);rw[jV];refine⟨by lia,λx hx=>?_,?_⟩
  ·rcases zw.mp hx with rfl|hx
   ·lia
   ·exact h2 x hx
  ·rcases h3 with h|h
   ·by_cases e:n<=m
    ·exact .inl (by rw[h];lia)
    ·exact .inr (by rw[h];rw[show min n m=m by lia];exact zW)
   ·exact .inr (zX _ h)
theorem ZGc:∀(ns:List Int)(n:Int),n<=ns.foldl max n/\(∀x∈ns,x<=ns.foldl max n)/\(ns.foldl max n=n∨ns.foldl max n∈ns)
 |[],n=>⟨qq _,λx h=>(by cases h),.inl rfl⟩
 | m::ns,n=>by
  obtain⟨h1,h2,h3⟩:=ZGc ns (max n m);rw[jV];refine⟨by lia,λx hx=>?_,?_⟩
  ·rcases zw.mp hx with rfl|hx
   ·lia
   ·exact h2 x hx
  ·rcases h3 with h|h
   ·by_cases e:m<=n
    ·exact .inl (by rw[h];lia)
    ·exact .inr (by rw[h];rw[show max n m=m by lia];exact zW)
   ·exact .inr (zX _ h)
section
variable{X:Cx}{E:XK}
theorem intAt{ns:List Int}{its:List xj}{w:xj}(hv:Vals (ns.map V.int) its)(hw:its.toArray[i]?=vE w):i<ns.length/\∃t,w=.int (ns.getD i 0) t:=by
 have hw':its[i]?=vE w:=by simpa using hw
 have hl:i<(ns.map V.int).length:=by rw[hv.length];exact(zF.mp hw').1
 have hl':i<ns.length:=by simpa using hl
 obtain⟨u,hu,ru⟩:=hv.get (i:=i) (x:=V.int ns[i]) (by simp[hl']);rw[hw']at hu;cases hu;obtain⟨t,rfl⟩:=ru;exact⟨hl',t,by simp[hl']⟩
theorem ZH0(hc:X.calm=vG):CallR X (.builtin "min") (lRn X.K E K7):=by
 intro vD s σ H vs us Q I rs h;obtain⟨a,G,ds,hk,rfl,sm,r,q⟩:=h;unfold K7 at q;split at q
 ·rename_i d;obtain⟨v,rfl,rv⟩:=reps1 r;split at q
  ·rename_i xs hs;split at q
   ·rename_i n ns hn;cases Vd hn;obtain⟨p,ws,rfl,h1,r1⟩:=Lq sm rv hs;cases ZDe r1;rw[hk]at h1;obtain⟨u,rfl,ru⟩:=vals1 rs;cases ru;refine call_min_walk (ZBM I hc h1 λit fp wr its St s₂ hv W st hfp fin=>⟨it,fp,wr,its.toArray.size,_,St,_,rfl,W,st,hfp,?_,CmpOf.ints_lt (λi=>(n::ns).getD i 0) (λi w hw=>(intAt hv hw).2),λw h' tk hw kk=>?_⟩)
    ·rw[zY,<-hv.length];simp
    ·obtain⟨hl,t,rfl⟩:=intAt hv hw;obtain⟨b1,b2⟩:=argBest_lt (λi=>(n::ns).getD i 0) (its.toArray.size-1);refine⟨.int (ns.foldl min n),a.H,fin h' tk kk,⟨t,?_⟩,q a _ (Ext.refl a) sm rfl⟩;have hsz:its.toArray.size=ns.length+1:=by rw[zY,<-hv.length];simp
     obtain⟨m1,m2,m3⟩:=W4 ns n;have hle:∀x∈n::ns,ns.foldl min n<=x:=λx hx=>by
      rcases zw.mp hx with rfl|hx
      ·exact m1
      ·exact m2 x hx
     have hin:ns.foldl min n∈n::ns:=by
      rcases m3 with h|h
      ·rw[h];exact zW
      ·exact zX _ h
     obtain⟨j,hj,ej⟩:=q9 hin;have c1:=b2 j (by simp at hj;lia);have c2:=hle _ (qx hl);have e1:(n::ns).getD j 0=ns.foldl min n:=by rw[zD,zJ hj];exact ej
     have e2:(n::ns).getD (argBest (λi j=>decide ((λi=>(n::ns).getD i 0) i<(λi=>(n::ns).getD i 0) j)) (its.toArray.size-1)) 0=(n::ns)[argBest (λi j=>decide ((λi=>(n::ns).getD i 0) i<(λi=>(n::ns).getD i 0) j)) (its.toArray.size-1)]:=by rw[zD,zJ hl];rfl
     have c1':=c1;rw[e1]at c1';rw[<-e2]at c2
     congr 1
     exact Int.le_antisymm c1' c2
   ·exact q.elim
  ·exact q.elim
 ·exact q.elim
theorem ZHd(hc:X.calm=vG):CallR X (.builtin "max") (lRn X.K E Jt):=by
 intro vD s σ H vs us Q I rs h;obtain⟨a,G,ds,hk,rfl,sm,r,q⟩:=h;unfold Jt at q;split at q
 ·rename_i d;obtain⟨v,rfl,rv⟩:=reps1 r;split at q
  ·rename_i xs hs;split at q
   ·rename_i n ns hn;cases Vd hn;obtain⟨p,ws,rfl,h1,r1⟩:=Lq sm rv hs;cases ZDe r1;rw[hk]at h1;obtain⟨u,rfl,ru⟩:=vals1 rs;cases ru;refine call_max_walk (ZBM I hc h1 λit fp wr its St s₂ hv W st hfp fin=>⟨it,fp,wr,its.toArray.size,_,St,_,rfl,W,st,hfp,?_,CmpOf.ints_gt (λi=>(n::ns).getD i 0) (λi w hw=>(intAt hv hw).2),λw h' tk hw kk=>?_⟩)
    ·rw[zY,<-hv.length];simp
    ·obtain⟨hl,t,rfl⟩:=intAt hv hw;obtain⟨b1,b2⟩:=argBest_gt (λi=>(n::ns).getD i 0) (its.toArray.size-1);refine⟨.int (ns.foldl max n),a.H,fin h' tk kk,⟨t,?_⟩,q a _ (Ext.refl a) sm rfl⟩;have hsz:its.toArray.size=ns.length+1:=by rw[zY,<-hv.length];simp
     obtain⟨m1,m2,m3⟩:=ZGc ns n;have hle:∀x∈n::ns,x<=ns.foldl max n:=λx hx=>by
      rcases zw.mp hx with rfl|hx
      ·exact m1
      ·exact m2 x hx
     have hin:ns.foldl max n∈n::ns:=by
      rcases m3 with h|h
      ·rw[h];exact zW
      ·exact zX _ h
     obtain⟨j,hj,ej⟩:=q9 hin;have c1:=b2 j (by simp at hj;lia);have c2:=hle _ (qx hl);have e1:(n::ns).getD j 0=ns.foldl max n:=by rw[zD,zJ hj];exact ej
     have e2:(n::ns).getD (argBest (λi j=>decide ((λi=>(n::ns).getD i 0) i>(λi=>(n::ns).getD i 0) j)) (its.toArray.size-1)) 0=(n::ns)[argBest (λi j=>decide ((λi=>(n::ns).getD i 0) i>(λi=>(n::ns).getD i 0) j)) (its.toArray.size-1)]:=by rw[zD,zJ hl];rfl
     have c1':=c1;rw[e1]at c1';rw[<-e2]at c2
     congr 1
     exact Int.le_antisymm c2 c1'
   ·exact q.elim
  ·exact q.elim
 ·exact q.elim
def Ln:D->D->DH->R D
 |.ref p,.int k,G=>match G[p]? with
  |some (.lst xs)=>if -(2^63)<=k/\k<2^63/\xs.length*k.toNat<=1000000 then .ok (.ref G.length) (G++[.lst (zV k.toNat xs).flatten])else .bad
  |_=>.bad
 |_,_,_=>.bad
theorem Reps.rep{ds:List D}{vs:List V}(r:Reps a ds vs):∀k,Reps a (zV k ds).flatten (zV k vs).flatten
 |0=>rfl
 |k+1=>by rw[zS,zS,q8,q8];exact r.append (Reps.rep r k)
theorem ZHK:OpR X (xD .Mult) (lR2 X.K E Ln):=ZQA.mono λx y H Q h=>by
 obtain⟨a,G,d,e,hk,rfl,s,rd,re,q⟩:=h;cases d with
 | ref p=>
  cases e with
  | int k=>
   unfold Ln at q;dsimp only at q;split at q
   ·rename_i xs hx;split at q
    ·rename_i hc;obtain⟨vs,e1,r1⟩:=s.lst hx;obtain⟨hp,rfl⟩:=rd;refine⟨a.m p,k,vs,rfl,re,e1,hc.1,hc.2.1,?_,λp hp=>Mt s (Reps.rep r1 k.toNat) q p hp⟩;rw[<-r1.length];exact zB hc.2.2 size6
    ·exact q.elim
   ·exact q.elim
  |_=>exact(show False from q).elim
 |_=>exact(show False from q).elim
end
end DL
namespace DL
open PySem PySem.W PyProof.Rows
def Safe(n:Nat){α:Type}(P:α->Prop):KasT α->Prop
 |.ret a=>P a
 |.ask i j k=>i<n/\j<n/\∀b,Safe n P (k b)
theorem Safe.bind{n:Nat}{α β:Type}{f:α->KasT β}{P:α->Prop}{Q:β->Prop}(h2:∀a,P a->Safe n Q (f a)):∀{t:KasT α},Safe n P t->Safe n Q (t.bind f)
 |.ret a,h=>h2 a h
 |.ask _ _ _,h=>⟨h.1,h.2.1,λb=>Safe.bind h2 (h.2.2 b)⟩
def Ents(n:Nat)(p:Array Nat):Prop:=0<n/\p.Perm (zZ n).toArray
theorem Ents.lt{n:Nat}{p:Array Nat}(h:Ents n p){x:Nat}(hx:x∈p):x<n:=by have:=h.2.mem_iff.mp hx;simpa using this
theorem Ents.pt{n:Nat}{p:Array Nat}(h:Ents n p)(k:Nat):p.getD k 0<n:=by
 by_cases hk:k<p.size
 ·have:p.getD k 0=p[k]:=by simp[Array.getD,hk]
  rw[this];exact h.lt (Array.getElem_mem hk)
 ·have:p.getD k 0=0:=by simp[Array.getD,hk]
  rw[this];exact h.1
theorem Ents.perm{n:Nat}{p q:Array Nat}(h:Ents n p)(e:q.Perm p):Ents n q:=⟨h.1,e.trans h.2⟩
theorem ZDa{n:Nat}{p:Array Nat}(h:Ents n p):∀f m,Safe n (λ_=>True) (kas_asc p f m)
 |0,m=>trivial
 | f+1,m=>⟨h.pt _,h.pt _,λb=>by
   cases b with
   |true=>exact trivial
   |false=>exact ZDa h f (m+1)⟩
theorem Zq{n:Nat}:∀f{p:Array Nat}m q,Ents n p->Safe n (λr=>Ents n r.1) (kas_desc f p m q)
 |0,p,m,q,h=>h
 | f+1,p,m,q,h=>⟨h.pt _,h.pt _,λb=>by
   cases b with
   |true=>
    by_cases hq:q>0
    ·simp only[if_true,if_pos hq];exact Zq f _ _ (h.perm (mirror_perm ..))
    ·simp only[if_true,if_neg hq];exact Zq f _ _ h
   |false=>
    refine⟨h.pt _,h.pt _,λd=>?_⟩;cases d with
    |true=>exact h
    |false=>exact Zq f _ _ h⟩
theorem ZGL{n:Nat}{p:Array Nat}(h:Ents n p)(m k:Nat):Safe n (λr=>Ents n r.2) (kas_tail3 m k p):=by unfold kas_tail3;refine Safe.bind (P:=λ_=>True) (λa _=>?_) (ZDa (h.perm (mirror_perm ..)) _ _);exact h.perm (mirror_perm ..)
theorem ZHV{n:Nat}{p:Array Nat}(h:Ents n p)(m k:Nat):Safe n (λr=>Ents n r.2) (kas_descPart m k p):=
 Safe.bind (P:=λr=>Ents n r.1) (λa ha=>by
  split
  ·exact ZGL (ha.perm (mirror_perm ..)) _ _
  ·exact ZGL ha _ _) (Zq _ _ _ h)
theorem ZHT{n:Nat}{p:Array Nat}(h:Ents n p)(k:Nat):Safe n (λr=>Ents n r.2) (kas_count k p):=
 Safe.bind (P:=λ_=>True) (λa _=>by
  split
  ·exact h
  ·split
   ·refine⟨h.pt _,h.pt _,λc=>?_⟩;cases c with
    |true=>exact h
    |false=>exact ZHV (h.perm (mirror_perm ..)) _ _
   ·exact ZHV h _ _) (ZDa h _ _)
theorem X6{n:Nat}{p:Array Nat}(h:Ents n p)(k:Nat):∀f l r,Safe n (λ_=>True) (kas_place p k f l r)
 |0,l,r=>trivial
 | f+1,l,r=>by
  unfold kas_place;split
  ·trivial
  ·refine⟨h.pt _,h.pt _,λc=>?_⟩;cases c with
   |true=>exact X6 h k f _ _
   |false=>exact X6 h k f _ _
theorem ZGb{n:Nat}:∀f{p:Array Nat}k,Ents n p->Safe n (λ_=>True) (kas_bin f p k)
 |0,p,k,h=>trivial
 |f+1,p,k,h=>Safe.bind (P:=λ_=>True) (λa _=>ZGb f _ (h.perm (bubble_perm ..))) (X6 h k _ _ _)
theorem ZTH{n:Nat}(hn:0<n):Safe n (λ_=>True) (kas_sort n):=
 Safe.bind (P:=λr=>Ents n r.2) (λa ha=>by
  split
  ·exact ZGb _ _ ha
  ·trivial) (ZHT ⟨hn,Array.Perm.refl _⟩ _)
end DL
namespace DL
open PySem PySem.Spec L2
open PyProof.Rows hiding St
variable{a:Wd}{d:D}{v:V}{xs ys:List D}{G:DH}{vs:List V}{te:DE}{g:DG}{us:List (Str×V)}{F:List D->DH->R D}{CX:CXT}{fd:xV}{ps:List Str}{e:xX}{ta:DA}{T:String}
def ltL:List D->List D->Option Bool
 |[],[]=>vE vH
 |[],_::_=>vE vG
 |_::_,[]=>vE vH
 |.int a::r,.int b::r'=>if a=b then ltL r r' else vE (decide (a<b))
 |.str a::r,.str b::r'=>if a=b then ltL r r' else vE (decide (a.cps.toList<b.cps.toList))
 |_::_,_::_=>vF
def ltD:D->D->Option Bool
 |.tup xs,.tup ys=>ltL xs ys
 |_,_=>vF
def ltI(xs:List D)(i j:Nat):Bool:=(ltD (xs.getD i .non) (xs.getD j .non)).getD vH
noncomputable def isIt:D->Bool
 |.tup (.int _::_)=>vG
 |_=>vH
noncomputable def Wb:D->Bool
 |.tup (.str _::_)=>vG
 |_=>vH
def Qx(xs:List D):Bool:=(xs.all isIt||xs.all Wb)&&xs.all λx=>xs.all λy=>(ltD x y).isSome
def Mj(xs:List D):List D:=if xs.length<2 then xs else(Cw (ltI xs) (PySem.W.kas_sort xs.length)).toList.map λi=>xs.getD i .non
def V2(ds:List D)(G:DH):R D:=match ds with
 |[d]=>match J6 d G with
  |some xs=>if(xs.length<64/\(Mj xs).length<64)/\Qx xs=vG then .ok (.ref G.length) (G++[.lst (Mj xs)])else .bad
  |none=>.bad
 |_=>.bad
theorem ZE8{n:Nat}{cmp:Nat->Nat->(Bool->xq->Prop)->xq->Prop}{lt:Nat->Nat->Bool}{s:xq}(h:∀i j,i<n->j<n->∀C:Bool->xq->Prop,C (lt i j) s->cmp i j C s){α:Type}{P:α->Prop}{Q:α->xq->Prop}:
  ∀{t:PySem.W.KasT α},Safe n P t->Q (Cw lt t) s->t.kasWp cmp Q s
 |.ret _,_,hq=>hq
 |.ask i j k,hs,hq=>h i j hs.1 hs.2.1 _ (ZE8 h (hs.2.2 (lt i j)) hq)
section
variable{prog:xK}{w:xw}{A:xJ}{s:xq}
theorem ZPy{c:Bool}{a b:Int}{t u:Tok}{Q:Bool->xq->Prop}{E:xj->xq->Prop}(h:Q (decide (a<b)) s):vY (vZ prog w) A (oneLt' c (.int a t) (.int b u)) Q E s:=by
 cases c with
 |true=>exact oneLt_int h
 |false=>exact PySem.W.kat_one _ _ (lt_int (Q:=PySem.W.BoolBack Q) h)
theorem ZN4{c:Bool}{a b:Str}{t u:Tok}{Q:Bool->xq->Prop}{E:xj->xq->Prop}(h:Q (decide (a.cps.toList<b.cps.toList)) s):vY (vZ prog w) A (oneLt' c (.str a t) (.str b u)) Q E s:=by
 cases c with
 |true=>exact oneLt_str h
 |false=>exact PySem.W.kat_one _ _ (lt_str (Q:=PySem.W.BoolBack Q) h)
theorem ZBf{Q:Bool->xq->Prop}{fin:Bool}:∀{xs ys:List D}{vs ws:List V}{us zs:List xj}{i:Nat}{k:Bool},Reps a xs vs->Reps a ys ws->Vals vs us->Vals ws zs->ltL xs ys=vE k->fin=decide (us.length<zs.length)->Q k s->
  PySem.W.KatLex prog w A vG fin Q (us.zip zs) i s
 |[],[],vs,ws,us,zs,i,k,r1,r2,v1,v2,h,hf,hq=>by
  cases(show vs=[]from r1);cases(show ws=[]from r2);cases v1;cases v2
  cases h;subst hf;exact PySem.W.kat_nil hq
 |[],y::ys,vs,ws,us,zs,i,k,r1,r2,v1,v2,h,hf,hq=>by
  cases(show vs=[]from r1);cases v1
  obtain⟨w1,wr,rfl,_,_⟩:=r2;cases v2;cases h;subst hf;exact PySem.W.kat_nil (by simpa using hq)
 |x::xs,[],vs,ws,us,zs,i,k,r1,r2,v1,v2,h,hf,hq=>by
  cases(show ws=[]from r2);cases v2
  obtain⟨w1,wr,rfl,_,_⟩:=r1;cases v1;have hk:k=vH:=by cases x<;>(simp[ltL]at h;exact h)
  subst hk;subst hf;exact PySem.W.kat_nil (by simpa using hq)
 | x::xs,y::ys,vs,ws,us,zs,i,k,r1,r2,v1,v2,h,hf,hq=>by
  have hcase:(∃m n,x=.int m/\y=.int n)∨(∃m n,x=.str m/\y=.str n):=by
   cases x<;>cases y<;>first
    |exact .inl ⟨_,_,rfl,rfl⟩
    |exact .inr ⟨_,_,rfl,rfl⟩
    |(exfalso;simp[ltL]at h)
  obtain⟨v0,vr,rfl,e1,r1⟩:=r1;obtain⟨w0,wr,rfl,e2,r2⟩:=r2;rcases hcase with⟨m,n,rfl,rfl⟩|⟨m,n,rfl,rfl⟩
  ·cases(show v0=V.int m from e1)
   cases(show w0=V.int n from e2)
   cases v1 with
   | cons q1 v1=>
    cases v2 with
    | cons q2 v2=>
     obtain⟨t,rfl⟩:=q1;obtain⟨u,rfl⟩:=q2;rw[List.zip_cons_cons];refine PySem.W.kat_cons (wpAny_eqBool_int (PySem.W.kat_go (λhe=>?_) λhe=>?_))
     ·have e:m=n:=by simpa using he
      rw[show ltL (.int m::xs) (.int n::ys)=if m=n then ltL xs ys else vE (decide (m<n))from rfl,if_pos e]at h
      exact PySem.W.kat_yes (ZBf r1 r2 v1 v2 h (by simpa using hf) hq)
     ·have e:m≠n:=by simpa using he
      rw[show ltL (.int m::xs) (.int n::ys)=if m=n then ltL xs ys else vE (decide (m<n))from rfl,if_neg e]at h
      cases h;exact PySem.W.kat_no (ZPy hq)
  ·cases(show v0=V.str m from e1)
   cases(show w0=V.str n from e2)
   cases v1 with
   | cons q1 v1=>
    cases v2 with
    | cons q2 v2=>
     obtain⟨t,rfl⟩:=q1;obtain⟨u,rfl⟩:=q2;rw[List.zip_cons_cons];refine PySem.W.kat_cons (wpAny_eqBool_str (PySem.W.kat_go (λhe=>?_) λhe=>?_))
     ·have e:m=n:=by simpa using he
      rw[show ltL (.str m::xs) (.str n::ys)=if m=n then ltL xs ys else vE (decide (m.cps.toList<n.cps.toList))from rfl,if_pos e]at h
      exact PySem.W.kat_yes (ZBf r1 r2 v1 v2 h (by simpa using hf) hq)
     ·have e:m≠n:=by simpa using he
      rw[show ltL (.str m::xs) (.str n::ys)=if m=n then ltL xs ys else vE (decide (m.cps.toList<n.cps.toList))from rfl,if_neg e]at h
      cases h;exact PySem.W.kat_no (ZN4 hq)
end
section
variable{X:Cx}{E:XK}{vD:List (xZ×Obj)}{σ:St}{s:xq}{H:Hp}{h':Heap}
theorem ZJL{t':Nat}(I:Inv X vD σ H s)(k:∀b o,b≠X.env.locals->s.heap.get? b=vE o->h'.get? b=vE o)(ns:∀m,s.heap.Ns X.env.locals m->h'.Ns X.env.locals m):Inv X vD σ H {s with heap:=h',toks:=t'}:=by
 refine I.step (g':=s.gens) (d':=s.drawn) (ch:=[]) (λ_ z=>nomatch z) (λb o hL _ _ e _=>k b o hL e) (λb o hL _ _ e _=>⟨o.slots,k b o hL e⟩) (λ_ _ _ _ n=>n) (λb o _ e=>?_) (λ_ _ e=>e) (λ_ _ _ e=>e)
  (λb ps e=>⟨#[],by rw[e];simp⟩) ns (λb u e=>?_) I.bare
 ·by_cases hb:b=X.env.locals
  ·obtain⟨m,hn,_⟩:=I.loc;obtain⟨o',_,_,ho',_⟩:=ns m hn;exact⟨o',by rw[hb];exact ho'⟩
  ·exact⟨o,k b o hb e⟩
 ·have nL:∀c w,H c=vE w->c≠X.env.locals:=λc w e z=>by rw[z,I.free]at e;cases e
  refine(I.hok b u e).stay (λc v hc q=>k c v ?_ q) (λ_ q=>q) λ_ _ q=>q
  rcases hc with z|z
  ·rw[z];exact nL b u e
  ·exact nL c _ z
end
section
variable{prog:xK}{w:xw}{A:xJ}{E:xj->xq->Prop}{s:xq}
theorem ZTJ{l:xZ}{vs:List xj}{Q:xj->xq->Prop}(hl:s.heap.IsList l vs.toArray)(hz:vs.length<64)
  (h:∀h1,h1.get? (s.heap.objs.size+1)=vE (seqObj "list" vs.toArray 0)->(∀b o,s.heap.get? b=vE o->h1.get? b=vE o)->
   vY (vZ prog w) A.in1.in1 (Builtin.«list.sort» ⟨[.ref (s.heap.objs.size+1)],[]⟩) (λfin s'=>fin=.done (.ret .none)/\Q (.ref (s.heap.objs.size+1)) s') E {s with heap:=h1}):
  vY (vZ prog w) A (call (.builtin "sorted") [.ref l]) Q E s:=by
 have h64:vs.length<=sizeLine:=by rw[vX];lia
 refine Calls.call_function_entry kind_sorted plain_sorted entry_sorted (args_sorted1 _) ?_;unfold Builtin.«sorted»;refine vz (m:=checkCount "sorted" 1 1 _) (v7 (vz (collect_list hl (vz (wpAny_newList ?_ h64)) h64)))
 generalize hh:(s.heap.push (seqObj "list" #[] 0)).update s.heap.objs.size (Obj.mapSeq (·++vs.toArray))=h0
 have e0:h0.objs.size=s.heap.objs.size+1:=by rw[<-hh,Heap.size_update,size_push']
 have k0:∀b o,s.heap.get? b=vE o->h0.get? b=vE o:=λb o q=>by have hlt:b<s.heap.objs.size:=zj q;rw[<-hh,Heap.get?_update_ne _ _ _ _ (zE hlt),Heap.get?_push_ne _ _ _ (zE hlt)];exact q
 have hD:(h0.push (seqObj "list" vs.toArray 0)).get? (s.heap.objs.size+1)=vE (seqObj "list" vs.toArray 0):=by rw[<-e0];exact z0 _ rfl
 have hq:=h (h0.push (seqObj "list" vs.toArray 0)) hD λb o q=>zQ _ (k0 b o q)
 show vY _ _ _ _ _ {s with heap:=h0.push (seqObj "list" vs.toArray 0)};rw[e0];refine vz (vk (vx slot_list_sort ⟨_,hD,rfl⟩ entry_list_sort ?_ (args_list_sort _)));refine v4 hq (λfin s' hf=>?_) λ_ _ x=>x
 exact⟨_,hf.1,v7 ⟨_,rfl,hf.2⟩⟩
theorem ZSn{a:xZ}{vs:List xj}{n:Nat}{P:Fin->xq->Prop}(ho:s.heap.get? a=vE (seqObj "list" vs.toArray n))(h2:vs.length<2)
  (h:∀h' c,h'.get? a=vE (seqObj "list" vs.toArray c)->(∀b o,b≠a->s.heap.get? b=vE o->h'.get? b=vE o)->P (.done (.ret .none)) {s with heap:=h'}):vY (vZ prog w) A (Builtin.«list.sort» ⟨[.ref a],[]⟩) P E s:=by
 have ha:a<s.heap.objs.size:=zj ho;have s1:=qj.update s.heap a (Obj.mapSeq λ_=>(#[]:Array xj));obtain⟨e1,ho1⟩:∃e1,(s.heap.update a (Obj.mapSeq λ_=>(#[]:Array xj))).get? a=vE (seqObj "list" #[] e1):=⟨_,get?_update_seq ho λ_=> #[]⟩;rw[list_sort_plain];refine vz (listItems_at ho rfl (vz (listUpdate_at ho rfl ?_ (by rw[zY,vX];lia) (j8 _))))
 refine vz (seqEpoch_at ho1 rfl (vz (wpAny_newTuple (vz (wpAny_newList (vk ?_) (j8 _))) (by show vs.length<=_;rw[vX];lia))));dsimp only;have hn2:vs.toArray.size<2:=by rw[zY];lia
 rw[if_pos hn2,if_pos hn2];refine vz (v7 (vz (wpAny_of_eq (a:=((),SortSt.mk' general' (vs.toArray.zip vs.toArray) #[] 7 vF)) rfl ?_)));dsimp only
 have hout:(arrOf (SortSt.mk' general' (vs.toArray.zip vs.toArray) #[] 7 vF)).map (·.2)=vs.toArray:=by
  show(vs.toArray.zip vs.toArray).map (·.2)=vs.toArray
  refine Array.ext (by simp) λi h1 h2=>by simp
 rw[hout];generalize hh:((s.heap.update a (Obj.mapSeq λ_=>(#[]:Array xj))).push {cls:=.type "tuple",data:=.seq vs.toArray.toList.toArray}).push {cls:=.type "list",data:=.seq ([]:List xj).toArray}=h3;have ho3:h3.get? a=vE (seqObj "list" #[] e1):=by rw[<-hh];exact zQ _ (zQ _ ho1)
 have k3:∀b o,b≠a->s.heap.get? b=vE o->h3.get? b=vE o:=λb o hb q=>by rw[<-hh];exact zQ _ (zQ _ (s1.extBut b o hb q))
 refine vz (seqEpoch_at (o:=seqObj "list" #[] e1) ?_ rfl ?_)
 ·exact ho3
 have s2:=qj.update h3 a (Obj.mapSeq λ_=>vs.toArray);obtain⟨c2,hc2⟩:∃c2,(h3.update a (Obj.mapSeq λ_=>vs.toArray)).get? a=vE (seqObj "list" vs.toArray c2):=⟨_,get?_update_seq ho3 λ_=>vs.toArray⟩;refine vz (listUpdate_at ho3 rfl ?_ (j8 _) (by show vs.toArray.size<=_;rw[zY,vX];lia));simp only[bne_self_eq_false,jx,if_false];exact v7 (h _ c2 hc2 λb o hb q=>s2.extBut b o hb (k3 b o hb q))
end
theorem ZLG:xE "sorted"=vE (.builtin "sorted"):=by decide +kernel
section
variable{X:Cx}{E:XK}{vD:List (xZ×Obj)}{σ:St}{s:xq}{H:Hp}
theorem Z4(I:Inv X vD σ a.H s)(hk:a.K=X.K){u:xj}(r:Rep a d v)(ru:RelV v u)(h:d=.tup xs):∃p o vs us n,u=.ref p/\s.heap.get? p=vE o/\o.cls=.type "tuple"/\o.data=.seq us n/\Vals vs us.toList/\Reps a xs vs:=by subst h;obtain⟨p,vs,rfl,hq,rv⟩:=r;cases ru;rw[hk]at hq;obtain⟨its,rr,⟨o,ho,hc,n,hd⟩,hz⟩:=I.tuple hq;exact⟨p,o,vs,its.toArray,n,rfl,ho,hc,hd,by simpa using rr,rv⟩
theorem ZLo(h:isIt d=vG):∃i r,d=.tup (.int i::r):=by
 unfold isIt at h;split at h
 ·exact⟨_,_,rfl⟩
 ·cases h
theorem ZS9(h:Wb d=vG):∃i r,d=.tup (.str i::r):=by
 unfold Wb at h;split at h
 ·exact⟨_,_,rfl⟩
 ·cases h
theorem ZGi(I:Inv X vD σ a.H s)(hk:a.K=X.K):∀{xs:List D}{vs:List V}{us:List xj},Reps a xs vs->Vals vs us->xs.all isIt=vG->∃fs,PySem.W.KatTups s.heap us fs/\fs.length=us.length/\∀v∈fs,∃i t,v=.int i t
 |[],vs,us,r,v,h=>by
  cases(show vs=[]from r);cases v
  exact⟨[],.nil,rfl,λ_ hm=>nomatch hm⟩
 | d::xs,vs,us,r,v,h=>by
  rw[qB,zC]at h;obtain⟨v0,vr,rfl,e1,r1⟩:=r;cases v with
  | cons q1 v1=>
   obtain⟨i,rr,rfl⟩:=ZLo h.1;obtain⟨p,o,ws,zs,n,rfl,ho,hc,hd,hv,hr⟩:=Z4 I hk e1 q1 rfl;obtain⟨w0,wr,rfl,g1,g2⟩:=hr
   cases(show w0=V.int i from g1)
   obtain⟨fs,k1,k2,k3⟩:=ZGi I hk r1 v1 h.2;have hz:∃t,zs[0]?=vE (.int i t):=by
    cases hz:zs.toList with
    |nil=>rw[hz]at hv;cases hv
    | cons z zr=>
     rw[hz]at hv;cases hv with
     |cons q _=>
      obtain⟨t,rfl⟩:=q;exact⟨t,by rw[<-qH,hz];rfl⟩
   obtain⟨t,hz⟩:=hz;refine⟨.int i t::fs,.cons ho hc hd hz k1,by simp[k2],λv hm=>?_⟩;rcases zw.mp hm with rfl|hm
   ·exact⟨i,t,rfl⟩
   ·exact k3 v hm
theorem ZIg(I:Inv X vD σ a.H s)(hk:a.K=X.K):∀{xs:List D}{vs:List V}{us:List xj},Reps a xs vs->Vals vs us->xs.all Wb=vG->∃fs,PySem.W.KatTups s.heap us fs/\fs.length=us.length/\∀v∈fs,∃i t,v=.str i t
 |[],vs,us,r,v,h=>by
  cases(show vs=[]from r);cases v
  exact⟨[],.nil,rfl,λ_ hm=>nomatch hm⟩
 | d::xs,vs,us,r,v,h=>by
  rw[qB,zC]at h;obtain⟨v0,vr,rfl,e1,r1⟩:=r;cases v with
  | cons q1 v1=>
   obtain⟨i,rr,rfl⟩:=ZS9 h.1;obtain⟨p,o,ws,zs,n,rfl,ho,hc,hd,hv,hr⟩:=Z4 I hk e1 q1 rfl;obtain⟨w0,wr,rfl,g1,g2⟩:=hr
   cases(show w0=V.str i from g1)
   obtain⟨fs,k1,k2,k3⟩:=ZIg I hk r1 v1 h.2;have hz:∃t,zs[0]?=vE (.str i t):=by
    cases hz:zs.toList with
    |nil=>rw[hz]at hv;cases hv
    | cons z zr=>
     rw[hz]at hv;cases hv with
     |cons q _=>
      obtain⟨t,rfl⟩:=q;exact⟨t,by rw[<-qH,hz];rfl⟩
   obtain⟨t,hz⟩:=hz;refine⟨.str i t::fs,.cons ho hc hd hz k1,by simp[k2],λv hm=>?_⟩;rcases zw.mp hm with rfl|hm
   ·exact⟨i,t,rfl⟩
   ·exact k3 v hm
theorem ZFd{ws:List V}{us:List xj}{Q:VK}{h2:Heap}{c:Nat}(I:Inv X vD σ a.H s)(sm:Sim a G)(q:out E a (.ok (.ref G.length) (G++[.lst ys])) Q)(r:Reps a ys ws)(v:Vals ws us)(hz:us.length<64)
  (hD:h2.get? (s.heap.objs.size+1)=vE (seqObj "list" us.toArray c)) (k:∀b o,b≠X.env.locals->s.heap.get? b=vE o->h2.get? b=vE o) (ns:∀m,s.heap.Ns X.env.locals m->h2.Ns X.env.locals m):
  EP X vD σ Q (.ref (s.heap.objs.size+1)) {s with heap:=h2}:=by
 have hle:s.heap.objs.size<=s.heap.objs.size+1:=jk _;obtain⟨g0,g1,g2,g3,g4,g5⟩:=I.Kg (H':=a.H) hle (I.hok.fresh hle);have I2:Inv X vD σ a.H {s with heap:=h2}:=ZJL (t':=s.toks) I k ns;refine⟨.ref (s.heap.objs.size+1),_,ZAf I2 g0 (zB I.sz hle) g1 g4 g5 (o:=.lst ws) ⟨?_,us,c,v,hD⟩,rfl,Mt sm r q _ g0⟩;rw[v.length,vX];lia
end
section
variable{X:Cx}{E:XK}
theorem ZSK(h:Qx xs=vG){x y:D}(hx:x∈xs)(hy:y∈xs):∃k,ltD x y=vE k:=by unfold Qx at h;rw[zC]at h;exact qL.mp (qK.mp (qK.mp h.2 x hx) y hy)
theorem ZSH{x y:D}{k:Bool}(h:ltD x y=vE k):∃xs ys,x=.tup xs/\y=.tup ys/\ltL xs ys=vE k:=by
 unfold ltD at h;split at h
 ·exact⟨_,_,rfl,rfl,h⟩
 ·cases h
theorem ZG1(r:Reps a xs vs):∀l:List Nat,(∀i∈l,i<xs.length)->Reps a (l.map λi=>xs.getD i .non) (l.map λi=>vs.getD i .non)
 |[],_=>rfl
 |i::l,h=>by
  have hi:i<xs.length:=h i zW;obtain⟨v,ev,rv⟩:=r.get (i:=i) (d:=xs[i]) (zJ hi);refine⟨vs.getD i .non,_,rfl,?_,ZG1 r l λj hj=>h j (zX _ hj)⟩;have e1:xs.getD i .non=xs[i]:=by simp[hi]
  have e2:vs.getD i .non=v:=by rw[zD,ev];rfl
  show Rep a (xs.getD i .non) (vs.getD i .non);rw[e1,e2];exact rv
theorem ZF3{us:List xj}(r:Vals vs us):∀l:List Nat,(∀i∈l,i<vs.length)->Vals (l.map λi=>vs.getD i .non) (l.map λi=>us.getD i .none)
 |[],_=>.nil
 |i::l,h=>by
  have hi:i<vs.length:=h i zW;obtain⟨u,eu,ru⟩:=r.get (i:=i) (x:=vs[i]) (zJ hi);rw[zk,zk];have e1:vs.getD i .non=vs[i]:=by simp[hi]
  have e2:us.getD i .none=u:=by rw[zD,eu];rfl
  rw[e1,e2];exact .cons ru (ZF3 r l λj hj=>h j (zX _ hj))
theorem ZEo{n:Nat}{lt:Nat->Nat->Bool}{P:Array Nat->Prop}:∀{t:PySem.W.KasT (Array Nat)},Safe n P t->P (Cw lt t)
 |.ret _,h=>h
 |.ask i j k,h=>ZEo (t:=k (lt i j)) (h.2.2 (lt i j))
theorem ZGX{n:Nat}:∀f{p:Array Nat}k,Ents n p->Safe n (Ents n) (PySem.W.kas_bin f p k)
 |0,p,k,h=>h
 |f+1,p,k,h=>Safe.bind (P:=λ_=>True) (λa _=>ZGX f _ (h.perm (bubble_perm ..))) (X6 h k _ _ _)
theorem ZFK{n:Nat}(hn:0<n):Safe n (Ents n) (PySem.W.kas_sort n):=
 Safe.bind (P:=λr=>Ents n r.2) (λa ha=>by
  split
  ·exact ZGX _ _ ha
  ·exact ha) (ZHT ⟨hn,Array.Perm.refl _⟩ _)
theorem ZOu:CallR X (.builtin "sorted") (lRn X.K E V2):=by
 intro vD s σ H vs us Q I rs h;obtain⟨a,G,ds,hk,rfl,sm,r,q⟩:=h;unfold V2 at q;split at q
 ·rename_i d;obtain⟨v,rfl,rv⟩:=reps1 r;split at q
  ·rename_i xs hs;split at q
   ·rename_i hc;obtain⟨p,ws,rfl,h1,r1⟩:=Uj sm rv hs;rw[hk]at h1;obtain⟨u,rfl,ru⟩:=vals1 rs;cases ru;obtain⟨its,hv,pl,hz⟩:=I.list h1;have hlx:xs.length=its.length:=r1.length.trans hv.length;refine ZTJ pl.isList (by lia) λh1 hD k1=>?_
    obtain⟨m,hn,_⟩:=id I.loc;have hns1:h1.Ns X.env.locals m:=hn.keeps k1;have hDL:s.heap.objs.size+1≠X.env.locals:=jJ (qC I.lt);have nsAll:∀{h2:Heap},h2.Ns X.env.locals m->∀m',s.heap.Ns X.env.locals m'->h2.Ns X.env.locals m':=λ{h2}hh m' hm'=>by have e1:=hn.eq_nsMap;have e2:=hm'.eq_nsMap;rw[e2,<-e1];exact hh
    by_cases hlen:xs.length<2
    ·refine ZSn (s:={s with heap:=h1}) hD (by lia) λh2 c hD2 k2=>⟨rfl,?_⟩
     have es:Mj xs=xs:=by unfold Mj;rw[if_pos hlen]
     rw[es]at q;refine ZFd I sm q r1 hv (by lia) hD2 (λb o hb e=>k2 b o ?_ (k1 b o e)) (nsAll (hns1.at λo e=>k2 _ o (Ne.symm hDL) e));exact zE (qC (zj e))
    ·have es:Mj xs=(Cw (ltI xs) (PySem.W.kas_sort xs.length)).toList.map λi=>xs.getD i .non:=by unfold Mj;rw[if_neg hlen]
     rw[es]at q;refine PySem.W.kat_list_sort (s:={s with heap:=h1}) (Att.ZNj hns1) (news:=Att.ledger h1 X.env.locals (s.heap.objs.size+1)) ?_ hD hDL (Att.ZDN _ _) (λ⟨_,_⟩ hp=>(Att.U8.mp hp).2.1) (by lia) (by lia) λe1 h2 F2 N2=>?_
     ·rintro⟨b,o⟩ hp;obtain⟨n1,n2,e⟩:=Att.U8.mp hp;exact⟨e,n1,Att.ZDN _ _⟩
     have k2:∀b o,b≠X.env.locals->s.heap.get? b=vE o->h2.get? b=vE o:=λb o hb e=>
      (N2 (b,o) (zX _ (Att.U8.mpr ⟨hb,zE (qC (zj e)),k1 b o e⟩))).1
     have I2:Inv X vD σ a.H {s with heap:=h2}:=ZJL (t':=s.toks) I k2 (nsAll F2.ns);have hpos:0<its.length:=by lia
     have fin:(PySem.W.kas_sort its.length).kasWp (PySem.W.kas_ask X.prog X.w X.A.in1.in1 (tuples' vG) its) (λp s''=>PySem.W.KasFin (Att.Zx h1) X.env.locals m (s.heap.objs.size+1) e1 (p.toList.map λi=>its.getD i Value.none) (λs3=>PySem.Fin.done (.ret .none)=PySem.Fin.done (.ret .none)/\EP X vD σ Q (.ref (s.heap.objs.size+1)) s3) s'') {s with heap:=h2}:=by
      refine ZE8 (lt:=ltI xs) (λi j hi hj C hC=>?_) (ZFK hpos) ?_
      ·have hxi:i<xs.length:=by lia
       have hxj:j<xs.length:=by lia
       obtain⟨v1,ev1,rv1⟩:=r1.get (i:=i) (d:=xs[i]) (zJ hxi);obtain⟨v2,ev2,rv2⟩:=r1.get (i:=j) (d:=xs[j]) (zJ hxj);obtain⟨u1,eu1,ru1⟩:=hv.get ev1;obtain⟨u2,eu2,ru2⟩:=hv.get ev2;obtain⟨k,hlt⟩:=ZSK hc.2 (qx hxi) (qx hxj);obtain⟨as,bs,ea,eb,hlL⟩:=ZSH hlt;obtain⟨p1,o1,vs1,us1,n1,rfl,ho1,_,hd1,hv1,hr1⟩:=Z4 I2 hk rv1 ru1 ea;obtain⟨p2,o2,vs2,us2,n2,rfl,ho2,_,hd2,hv2,hr2⟩:=Z4 I2 hk rv2 ru2 eb
       have hC':C k {s with heap:=h2}:=by
        have:ltI xs i j=k:=by
         unfold ltI;have e1:xs.getD i .non=xs[i]:=by simp[hxi]
         have e2:xs.getD j .non=xs[j]:=by simp[hxj]
         rw[e1,e2,hlt];rfl
        rw[<-this];exact hC
       unfold PySem.W.kas_ask;have g1:its.getD i Value.none=.ref p1:=by rw[zD,eu1];rfl
       have g2:its.getD j Value.none=.ref p2:=by rw[zD,eu2];rfl
       rw[g1,g2];exact PySem.W.kat_lt ho1 hd1 ho2 hd2 (ZBf hr1 hr2 hv1 hv2 hlL (by simp) hC')
      ·have hen:Ents its.length (Cw (ltI xs) (PySem.W.kas_sort its.length)):=ZEo (ZFK hpos);rw[hlx]at q;refine PySem.W.KasFin.intro F2 N2 (.head λ⟨_,_⟩ hp=>(Att.U8.mp hp).2.1) λh3 c F3 N3=>⟨rfl,?_⟩
       have hin:∀i∈(Cw (ltI xs) (PySem.W.kas_sort its.length)).toList,i<its.length:=λi hi=>hen.lt (by simpa using hi)
       refine ZFd I sm q (ZG1 r1 _ λi hi=>by rw[hlx];exact hin i hi) (ZF3 hv _ λi hi=>by rw[hv.length];exact hin i hi) ?_ (N3 _ zW).1 (λb o hb e=>?_) (nsAll F3.ns)
       ·rw[hlx]at es;have:=hc.1.2;rw[es]at this;simpa using this
       ·exact(N3 (b,o) (zX _ (Att.U8.mpr ⟨hb,zE (qC (zj e)),k1 b o e⟩))).1
     unfold Qx at hc;rw[zC,j9]at hc;rcases hc.2.1 with hall|hall
     ·obtain⟨fs,t1,t2,t3⟩:=ZGi I2 hk r1 hv hall;refine PySem.W.kat_kind (T:=.type "int") t1 (by lia) (λv hm=>?_) (by decide) ?_
      ·obtain⟨i,t,rfl⟩:=t3 v hm;exact PySem.W.Looks.now
      ·exact fin
     ·obtain⟨fs,t1,t2,t3⟩:=ZIg I2 hk r1 hv hall;refine PySem.W.kat_kind (T:=.type "str") t1 (by lia) (λv hm=>?_) (by decide) ?_
      ·obtain⟨i,t,rfl⟩:=t3 v hm;exact PySem.W.Looks.now
      ·exact fin
   ·exact q.elim
  ·exact q.elim
 ·exact q.elim
end
section
variable{S:DSt}{G:DH}
@[simp]theorem ZTq{to ti:DE}{f:D->D->DH->R D}:Pj to ti te f S G=(to S G).toS λo G1=>(ti S G1).toS λi G2=>(ixL o i G2).toS λx G3=>(te S G3).toS λy G4=>(f x y G4).toS λz G5=>(Ql o i z G5).toS λ_ G6=>.nx S G6:=id rfl
theorem Vq{p:Nat}{k:Int}(h:G[p]?=vE (.lst xs))(e:atI xs k=vE d):ixL (.ref p) (.int k) G=.ok d G:=by unfold ixL;simp only;rw[h];simp only;rw[e]
noncomputable def Er(xs:List D):List D:=xs.zipIdx.map λq=>.tup [.int q.2,q.1]
noncomputable def Oq(xs ys:List D):List D:=(xs.zip ys).map λq=>.tup [q.1,q.2]
theorem ZI9{f:Nat->DH->Option (Option D)}{b:DS}(h:∀j G,f j G=vE xs[j]?):∀(n j:Nat),j+n=xs.length->∀S G,El f g b n j S G=Bq g b (xs.drop j) S G
 |0,j,e,S,G=>by
  unfold El;rw[h,zA (by lia),zP (by lia)]
  rfl
 |n+1,j,e,S,G=>by
  have hj:j<xs.length:=by lia
  unfold El;rw[h,zJ hj,zM hj,Dg];have:El f g b n (j+1)=Bq g b (xs.drop (j+1)):=by funext S G;exact ZI9 h n (j+1) (by lia) S G
  rw[this]
theorem Uo{f:Nat->DH->Option (Option D)}{b:DS}{n:Nat}(h:∀j G,f j G=vE xs[j]?)(hn:n=xs.length):El f g b n 0 S G=Bq g b xs S G:=by rw[ZI9 h n 0 (by lia)];rfl
theorem Y7(j:Nat)(G:DH):Ez 0 (.fl xs) j G=vE (Er xs)[j]? :=by
 unfold Ez Er;simp only[Cj,zx,List.getElem?_zipIdx]
 cases xs[j]?<;>simp
theorem ZMd(j:Nat)(G:DH):Ez 0 (.tup xs) j G=vE (Er xs)[j]? :=by
 unfold Ez Er;simp only[Cj,zx,List.getElem?_zipIdx]
 cases xs[j]?<;>simp
theorem Lg:(Er xs).length=xs.length:=by simp[Er]
@[simp]theorem ZUL:Ie [.fl xs] G=.ok (.fn xs.length (Ez 0 (.fl xs))) G:=by simp[Ie,Lb,Cj,lenOf]
@[simp]theorem ZP4{b:DS}:El (Ez 0 (.fl xs)) g b xs.length 0 S G=Bq g b (Er xs) S G:=Uo Y7 Lg.symm
@[simp]theorem ZUk{b:DS}:El (Ez 0 (.tup xs)) g b xs.length 0 S G=Bq g b (Er xs) S G:=Uo ZMd Lg.symm
theorem ZJQ{f:Nat->DH->Option (Option D)}{c:DB}{F:D->Option D}(hf:∀j,f j G=vE xs[j]?)(h:∀x∈xs,CStep g c te S G x (F x)):
  ∀(n j:Nat),xs.length<=j+n->Dw f g c te S n j G=.ok ((xs.drop j).filterMap F) G
 |0,j,hj=>by
  unfold Dw;rw[hf,zA (by lia)];simp only;rw[zP (by lia)]
  rfl
 | n+1,j,hj=>by
  unfold Dw;rw[hf];by_cases hlt:j<xs.length
  ·have ih:=ZJQ hf h n (j+1) (by lia);obtain⟨S1,h1,h2⟩:=h xs[j] (qx hlt);rw[zJ hlt];simp only[h1,R.Jo];rw[zM hlt,qY];rcases h2 with⟨h2,h3⟩|⟨h2,d,h3,h4⟩
   ·simp[h2,h3,ih]
   ·simp[h2,h3,h4,ih]
  ·rw[zA (by lia),zP (by lia)]
   rfl
theorem Vw{f:Nat->DH->Option (Option D)}{c:DB}{F:D->Option D}{n:Nat}(hf:∀j,f j G=vE xs[j]?)(h:∀x∈xs,CStep g c te S G x (F x))(hn:xs.length<=n):
  Dw f g c te S n 0 G=.ok (xs.filterMap F) G:=ZJQ hf h n 0 (by lia)
theorem ZB4{e:D}(hd:Cj d G=vE xs)(he:Cj e G=vE ys)(j:Nat):Gz [d,e] j G=vE (Oq xs ys)[j]? :=by
 unfold Gz Oq;simp only[Ja,hd,he,zx,List.getElem?_zip_eq_some]
 have ez:(xs.zip ys)[j]?=match xs[j]?,ys[j]? with
  |some x,vE y=>vE (x,y)
  |_,_=>vF:=by
  rw[List.zip,List.getElem?_zipWith]
  cases xs[j]?<;>cases ys[j]?<;>rfl
 rw[ez];cases xs[j]? with
 |none=>rfl
 |some x=>
  cases ys[j]? with
  |none=>rfl
  |some y=>rfl
theorem Vi{e:D}(hd:Cj d G=vE xs)(he:Cj e G=vE ys):I9 2 [d,e] G=.ok (.fn xs.length (Gz [d,e])) G:=by simp[I9,Lb,hd,he,lenOf]
@[simp]theorem ZFm:Cj (.fl xs) G=vE xs:=id rfl
@[simp]theorem M5:Cj (.tup xs) G=vE xs:=id rfl
theorem ZSR{i:Nat}(h:G[i]?=vE (.lst xs)):Cj (.ref i) G=vE xs:=by simp[Cj,h]
theorem ZKG{n:Int}{ns:List Int}(h:Cj d G=vE ((n::ns).map D.int)):K7 [d] G=.ok (.int (ns.foldl min n)) G:=by simp only[K7,h,ZBi]
theorem ZHz{n:Int}{ns:List Int}(h:Cj d G=vE ((n::ns).map D.int)):Jt [d] G=.ok (.int (ns.foldl max n)) G:=by simp only[Jt,h,ZBi]
theorem ZG4{p:Nat}{k:Nat}(h:G[p]?=vE (.lst [d]))(hk:k<=1000000):Ln (.ref p) (.int (k:Int)) G=.ok (.ref G.length) (G++[.lst (zV k d)]):=by
 unfold Ln;simp only;rw[h];simp only;have e:(zV k [d]).flatten=zV k d:=by
  induction k with
  |zero=>rfl
  |succ k ih=>rw[zS,q8,ih (by lia),zS];rfl
 rw[if_pos ⟨by lia,by lia,by simpa using hk⟩,Int.toNat_natCast,e]
end
def Bts(i:Int):Prop:=i.natAbs.log2<33554432
def MulB(i j:Int):Prop:=CMul i j∨(Bts i/\Bts j)
noncomputable instance (i:Int):Decidable (Bts i):=by unfold Bts;infer_instance
noncomputable instance (i j:Int):Decidable (MulB i j):=by unfold MulB;infer_instance
theorem MulB.ok{i j:Int}(h:MulB i j):IntMulOk i j:=by
 rcases h with h|⟨h1,h2⟩
 ·exact h.ok
 ·have b:∀k:Int,Bts k->Builtin.Int.intBits k<=33554432:=λk hk=>by
   unfold Builtin.Int.intBits;split
   ·exact j8 _
   ·exact hk
  have c1:=b i h1;have c2:=b j h2;have h:Builtin.Int.intTooBig (Builtin.Int.intBits i+Builtin.Int.intBits j)=vH:=by unfold Builtin.Int.intTooBig bitsLine;exact decide_eq_false (by lia)
  unfold IntMulOk;rw[h];simp
section
variable{X:Cx}{E:XK}
theorem ZQK:OpR X (xD .Mult) (rI MulB λi j=>.int (i*j)):=opI λ_ _ _ _ _ _ _ hc q=>mul_int q hc.ok
end
section
variable{i j:Int}{G:DH}
end
section
variable{X:Cx}{E:XK}
end
def Hv(f:Str)(v:D):List (Str×D)->List (Str×D)
 |[]=>[(f,v)]
 |(g,x)::r=>if g=f then(g,v)::r else(g,x)::Hv f v r
theorem RepF.mono{b:Wd}(x:Ext a b){fs:List (Str×D)}(h:RepF a fs us):RepF b fs us:=⟨h.1,h.2.mono x⟩
theorem RepF.cons{g:Str}{fs:List (Str×D)}(h:Rep a d v)(r:RepF a fs us):RepF a ((g,d)::fs) ((g,v)::us):=
 ⟨by simp[r.1],v,us.map (·.2),rfl,h,r.2⟩
theorem RepF.uncons{g:Str}{fs:List (Str×D)}(h:RepF a ((g,d)::fs) us):∃v us',us=(g,v)::us'/\Rep a d v/\RepF a fs us':=by
 obtain⟨h1,h2⟩:=h;cases us with
 |nil=>simp at h1
 |cons q us=>
  obtain⟨g',y⟩:=q;simp only[zk,List.cons.injEq]at h1;obtain⟨rfl,h1⟩:=h1;obtain⟨v,r,e1,r1,r2⟩:=h2;simp only[zk,List.cons.injEq]at e1;obtain⟨rfl,rfl⟩:=e1;exact⟨y,us,rfl,r1,h1,r2⟩
theorem RepF.nil'(h:RepF a [] us):us=[]:=by
 obtain⟨h1,_⟩:=h;cases us with
 |nil=>rfl
 |cons q us=>simp at h1
theorem lkc{α:Type}{f g:Str}{x:α}{fs:List (Str×α)}:qS f ((g,x)::fs)=if(f==g)=vG then vE x else fs.lookup f:=by
 show(match f==g with
  |true=>vE x
  |false=>qS f fs)=_
 cases f==g<;>rfl
theorem RepF.look{f:Str}:∀{fs:List (Str×D)}{us:List (Str×V)},RepF a fs us->fs.lookup f=vE d->∃u,us.lookup f=vE u/\Rep a d u
 |[],us,h,e=>by simp at e
 |(g,x)::fs,us,h,e=>by
  obtain⟨v,us',rfl,hv,hr⟩:=h.uncons;rw[lkc]at e⊢;by_cases q:(f==g)=vG
  ·rw[if_pos q]at e⊢;cases e;exact⟨v,rfl,hv⟩
  ·rw[if_neg q]at e⊢;exact RepF.look hr e
theorem RepF.ZB5{f:Str}:∀{fs:List (Str×D)}{us:List (Str×V)},RepF a fs us->fs.lookup f=vF->us.lookup f=vF
 |[],us,h,e=>by rw[h.nil'];rfl
 |(g,x)::fs,us,h,e=>by
  obtain⟨v,us',rfl,hv,hr⟩:=h.uncons;rw[lkc]at e⊢;by_cases q:(f==g)=vG
  ·rw[if_pos q]at e;cases e
  ·rw[if_neg q]at e⊢;exact RepF.ZB5 hr e
theorem RepF.put{f:Str}(q:Rep a d v):∀{fs:List (Str×D)}{us:List (Str×V)},RepF a fs us->RepF a (Hv f d fs) (Gh f v us)
 |[],us,h=>by rw[h.nil'];exact RepF.cons (fs:=[]) (us:=[]) q ⟨rfl,rfl⟩
 |(g,x)::fs,us,h=>by
  obtain⟨w,us',rfl,hv,hr⟩:=h.uncons;unfold Hv Gh;by_cases e:g=f
  ·rw[if_pos e,if_pos e];exact .cons q hr
  ·rw[if_neg e,if_neg e];exact .cons hv (RepF.put q hr)
theorem RepF.len{fs:List (Str×D)}(h:RepF a fs us):us.length=fs.length:=by have:=congrArg xQ h.1;simpa using this.symm
theorem Ext.wrI{p C dx:xZ}{ho:HO}(h:a.H p=vE (.ins C dx us)):Ext a (a.put p ho):=
 ⟨rfl,zK _,λ_ _=>rfl,λq xs e=>by
  show upd a.H p ho q=_;rw[Bd (λz=>by subst z;rw[h]at e;cases e)];exact e,λq o u e=>by
  show upd a.H p ho q=_;rw[Bd (λz=>by subst z;rw[h]at e;cases e)];exact e,λ_ t=>t.mono (λq ps e=>by show upd a.H p ho q=_;rw[Bd (λz=>by subst z;rw[h]at e;cases e)];exact e) (λq o u e=>by show upd a.H p ho q=_;rw[Bd (λz=>by subst z;rw[h]at e;cases e)];exact e)⟩
theorem Sim.wrI(s:Sim a G){i:Nat}(hi:i<a.n){c:Str}{C dx:xZ}{us':List (Str×V)}{fs':List (Str×D)}(hn:PySem.W.nsIn a.K vQ c=vE (vE (.ref C)))(h:a.H (a.m i)=vE (.ins C dx us))(r:RepF (a.put (a.m i) (.ins C dx us')) fs' us'):
  Sim (a.put (a.m i) (.ins C dx us')) (G.set i (.ins c fs')):=by
 refine⟨by rw[jv];exact s.len,s.inj,λj o e=>?_,λj hj=>?_⟩
 ·rw[qO]at e;show ORep _ o (upd a.H (a.m i) (.ins C dx us') (a.m j));by_cases hij:i=j
  ·subst hij;rw[if_pos rfl,if_pos (by rw[s.len];exact hi)]at e;cases e;rw[Gk];exact⟨C,dx,us',hn,rfl,r⟩
  ·rw[if_neg hij]at e;rw[Bd λz=>hij (s.inj _ _ (s.lt e) hi z).symm];exact(s.obj j o e).mono (Ext.wrI h)
 ·show upd a.H (a.m i) (.ins C dx us') (a.m j)≠vF;by_cases hij:a.m j=a.m i
  ·rw[hij,Gk];simp
  ·rw[Bd hij];exact s.tr j hj
def K9(c:Str)(d:D)(G:DH):Option (List (Str×D)):=match d with
 |.ref i=>match G[i]? with
  |some (.ins c' fs)=>if c'=c then vE fs else vF
  |_=>vF
 |_=>vF
theorem Sim.ins{x:V}{c:Str}{fs:List (Str×D)}(s:Sim a G)(r:Rep a d x)(h:K9 c d G=vE fs):
  ∃i C dx us,d=.ref i/\i<a.n/\x=.ref (a.m i)/\G[i]?=vE (.ins c fs)/\PySem.W.nsIn a.K vQ c=vE (vE (.ref C))/\a.H (a.m i)=vE (.ins C dx us)/\RepF a fs us:=by
 unfold K9 at h;split at h
 ·rename_i i;split at h
  ·rename_i c' fs' e;split at h
   ·rename_i hc;subst hc;cases h;obtain⟨l,ev⟩:=r;obtain⟨C,dx,us,n,e1,r1⟩:=s.obj i _ e;exact⟨i,C,dx,us,rfl,l,ev,e,n,e1,r1⟩
   ·cases h
  ·cases h
 ·cases h
def Ft(c:Str)(t:DE)(f:Str):DE:=λS G=>(t S G).bind λd G1=>match K9 c d G1 with
 |some fs=>match fs.lookup f with
  |some v=>.ok v G1
  |none=>.bad
 |none=>.bad
def H9(c:Str)(to tv:DE)(f:Str):DS:=λS G=>(tv S G).toS λd G1=>(to S G1).toS λo G2=>match o with
 |.ref i=>match K9 c o G2 with
  |some fs=>if fs.length<1000 then .nx S (G2.set i (.ins c (Hv f d fs)))else .bad
  |none=>.bad
 |_=>.bad
def Jh(c:Str)(m:Str)(F:List D->DH->R D)(to:DE)(t:DA):DE:=λS G=>(to S G).bind λo G1=>match K9 c o G1 with
 |some fs=>match fs.lookup m with
  |none=>(t S G1).bind λds G2=>F (o::ds) G2
  |some _=>.bad
 |none=>.bad
def ZC2(c:Str)(F:List D->DH->R D)(t:DA):DE:=λS G=>(t S G).bind λds G1=>(F (.ref G1.length::ds) (G1++[.ins c []])).bind λv G2=>match v with
 |.non=>.ok (.ref G1.length) G2
 |_=>.bad
section
variable{X:Cx}{E:XK}{c f m:Str}{C:xZ}{e o:xX}{es:List xX}{t ta tv:DE}{tr:DA}{pos apos pos':Pos}
theorem Gg(hn:PySem.W.nsIn X.K vQ c=vE (vE (.ref C)))(hc:Cls X.K C)(hf:NoAttr X.K C f)(ha:QE X E e t)(hb:xy e f X.env (eval e X.env)=eval e X.env:=by rfl):QE X E (.Attribute e f pos) (Ft c t f):=
 (ZTR ha hb).mono λσ H Q h=>by
  obtain⟨a,S,G,hk,rfl,s,r,h⟩:=h;refine⟨a,S,G,hk,rfl,s,r,(Gq h).imp ?_⟩;rintro v _ ⟨b,d,G1,rfl,x,s1,q,-,h1⟩;split at h1
  ·rename_i fs hi;obtain⟨i,C',dx,us,rfl,_,rfl,_,n',e1,r1⟩:=s1.ins q hi;have hCC:C'=C:=by
    rw[x.k,hk,hn]at n';cases n'
    rfl
   subst hCC;split at h1
   ·rename_i d' hd;obtain⟨u,eu,ru⟩:=r1.look hd;exact⟨b.m i,C',dx,us,u,rfl,e1,hc,hf,eu,h1 b u (Ext.refl b) s1 ru⟩
   ·exact h1.elim
  ·exact h1.elim
theorem Nu(hn:PySem.W.nsIn X.K vQ c=vE (vE (.ref C)))(hc:Cls X.K C)(hf:NoAttr X.K C f)(ha:QE X E o ta)(hv:QE X E e tv)(hs:swapsWith e (vE (.Attribute o f pos')) pos.line X.env=pure vH:=by rfl):
  QS X E (.Assign [.Attribute o f pos'] e pos) (H9 c ta tv f):=
 (ZTM ha hv hs).mono λW σ H h=>by
  obtain⟨a,S,G,hk,rfl,s,r,h⟩:=h;refine⟨a,S,G,hk,rfl,s,r,(J0 h).imp ?_⟩;rintro v _ ⟨b,d,G1,rfl,x,s1,q,-,h1⟩;refine⟨b,S,G1,x.k.trans hk,rfl,s1,r.mono x,(J0 h1).imp ?_⟩;rintro v2 _ ⟨b2,d2,G2,rfl,x2,s2,q2,-,h2⟩;split at h2
  ·rename_i i;split at h2
   ·rename_i fs hi;split at h2
    ·rename_i hl;obtain⟨i',C',dx,us,ei,li,rfl,eg,n',e1,r1⟩:=s2.ins q2 hi;cases ei;have hCC:C'=C:=by
      rw[x2.k,x.k,hk,hn]at n';cases n'
      rfl
     subst hCC;have x3:Ext b2 (b2.put (b2.m i) (.ins C' dx (Gh f v us))):=Ext.wrI e1;have s3:=s2.wrI (fs':=Hv f d fs) li n' e1 (RepF.put ((q.mono x2).mono x3) (r1.mono x3));exact⟨b2.m i,C',dx,us,rfl,e1,hc,hf,by rw[r1.len];exact hl,h2 _ σ x3 s3 (((r.mono x).mono x2).mono x3)⟩
    ·exact h2.elim
   ·exact h2.elim
  ·exact h2.elim
theorem ZM7{sp:List D->DH->R D}{σ:St}{H:Hp}{Q:VK}(hn:PySem.W.nsIn X.K vQ c=vE (vE (.ref C)))(h:lE X.K E (Jh c m F ta tr) σ H Q):ZAx C m (lF X.K F) [] E (lE X.K E ta) (lA X.K E tr) σ H Q:=by
 obtain⟨a,S,G,hk,rfl,s,r,h⟩:=h;refine⟨a,S,G,hk,rfl,s,r,(Gq h).imp ?_⟩;rintro v _ ⟨b,d,G1,rfl,x,s1,q,-,h1⟩;split at h1
 ·rename_i fs hi;obtain⟨i,C',dx,us,rfl,_,rfl,_,n',e1,r1⟩:=s1.ins q hi;have hCC:C'=C:=by
   rw[x.k,hk,hn]at n';cases n'
   rfl
  subst hCC;split at h1
  ·rename_i hm;refine⟨b.m i,dx,us,rfl,e1,r1.ZB5 hm,b,S,G1,x.k.trans hk,rfl,s1,r.mono x,(O2 h1).imp ?_⟩;rintro vs _ ⟨b2,ds,G2,rfl,x2,s2,q2,-,h2⟩;exact⟨b2,G2,.ref i::ds,(x2.k.trans x.k).trans hk,rfl,s2,⟨.ref (b.m i),vs,by rw[jX],q.mono x2,q2⟩,h2⟩
  ·exact h1.elim
 ·exact h1.elim
theorem Qi{k:Nat}{g:xZ}{pl:Sem Bool}(hn:PySem.W.nsIn X.K vQ c=vE (vE (.ref C)))(hc:Cls X.K C)(hm:Meth X.K C m g)(FF:FnOk X.prog X.w X.K X.mg X.base CX k g fd ps (lF X.K F))(hr:Room k X.A)(hb:Binds X.K fd ps [])
  (hx:Passes CX X E) (ho:QE X E o ta) (ha:QA X E (e::es) tr) (he:notStar e=vG:=by rfl) (hpl:es.all notStar=vG:=by rfl)
  (ht:eval (.Call (.Attribute o m apos) (e::es) [] pos) X.env=(do
   let ov<-eval o X.env
   standAt apos.atName
   let(f,first)<-holding [ov] (getMethod ov m pl)
   callWith pos f first (x0 pos (vW (e::es) X.env)) (xB pos (xT [] X.env))):=by rfl):QE X E (.Call (.Attribute o m apos) (e::es) [] pos) (Jh c m F ta tr):=
 (ZQB (pl:=pl) ho hc hm FF hr hb .nil hx ha (O7 e es X.env he) (Py pos X.env es hpl) ht).mono λσ H Q h=>ZM7 (sp:=F) hn h
theorem ZG6{k:Nat}{g:xZ}{pl:Sem Bool}(hn:PySem.W.nsIn X.K vQ c=vE (vE (.ref C)))(hc:Cls X.K C)(hm:Meth X.K C m g)(FF:FnOk X.prog X.w X.K X.mg X.base CX k g fd ps (lF X.K F))(hr:Room k X.A)(hb:Binds X.K fd ps [])
  (hx:Passes CX X E) (ho:QE X E o ta)
  (ht:eval (.Call (.Attribute o m apos) [] [] pos) X.env=(do
   let ov<-eval o X.env
   standAt apos.atName
   let(f,first)<-holding [ov] (getMethod ov m pl)
   callWith pos f first (x0 pos (vW [] X.env)) (xB pos (xT [] X.env))):=by rfl):QE X E (.Call (.Attribute o m apos) [] [] pos) (Jh c m F ta Ad):=
 (ZMM (pl:=pl) ho hc hm FF hr hb .nil hx ht).mono λσ H Q h=>by
  obtain⟨a,S,G,hk,rfl,s,r,h⟩:=h;refine⟨a,S,G,hk,rfl,s,r,(Gq h).imp ?_⟩;rintro v _ ⟨b,d,G1,rfl,x,s1,q,-,h1⟩;split at h1
  ·rename_i fs hi;obtain⟨i,C',dx,us,rfl,_,rfl,_,n',e1,r1⟩:=s1.ins q hi;have hCC:C'=C:=by
    rw[x.k,hk,hn]at n';cases n'
    rfl
   subst hCC;split at h1
   ·rename_i hm;exact⟨b.m i,dx,us,rfl,e1,r1.ZB5 hm,b,G1,[.ref i],x.k.trans hk,rfl,s1,⟨.ref (b.m i),[],rfl,q,rfl⟩,h1⟩
   ·exact h1.elim
  ·exact h1.elim
theorem ZNP{ds:List D}{Q:VK}(hk:a.K=X.K)(hn:PySem.W.nsIn X.K vQ c=vE (vE (.ref C)))(s:Sim a G)(q:Reps a ds vs)
  (h:out E a ((F (.ref G.length::ds) (G++[.ins c []])).bind λv G2=>match v with
   |.non=>.ok (.ref G.length) G2
   |_=>.bad) Q):∀x dx,a.H x=vF->a.H dx=vF->dx≠x->lF X.K F (.ref x::(vs++[])) (upd (upd a.H dx (.own x)) x (.ins C dx [])) (λv H2=>v=.non/\Q (.ref x) H2) E:=λp dx hp hdx hne=>by
 have x1:Ext a (a.put dx (.own p)):=Ext.put hdx;have s1:Sim (a.put dx (.own p)) G:=s.put hdx;have hp1:(a.put dx (.own p)).H p=vF:=by show upd a.H dx (.own p) p=vF;rw[Bd λz=>hne z.symm];exact hp
 have x2:Ext (a.put dx (.own p)) ((a.put dx (.own p)).push p (.ins C dx [])):=Ext.push hp1;have s2:Sim ((a.put dx (.own p)).push p (.ins C dx [])) (G++[.ins c []]):=s1.push hp1 ⟨C,dx,[],by show PySem.W.nsIn a.K vQ c=_;rw[hk];exact hn,rfl,rfl,rfl⟩;have hgl:G.length=a.n:=s.len;have mnew:((a.put dx (.own p)).push p (.ins C dx [])).m a.n=p:=by show(if a.n=a.n then p else a.m a.n)=p;rw[if_pos rfl]
 have rp:Rep ((a.put dx (.own p)).push p (.ins C dx [])) (.ref G.length) (.ref p):=by rw[hgl];exact⟨zU _,by rw[mnew]⟩
 refine⟨(a.put dx (.own p)).push p (.ins C dx []),_,.ref G.length::ds,hk,rfl,s2,⟨.ref p,vs,by rw[jX],rp,(q.mono x1).mono x2⟩,(Gq (out.mono (x1.trans x2) h)).imp ?_⟩;rintro v _ ⟨b,d,G1,rfl,x3,s3,q3,-,h3⟩;split at h3
 ·have:v=.non:=q3;exact⟨this,h3 b _ (Ext.refl b) s3 (rp.mono x3)⟩
 ·exact h3.elim
theorem ZRw{k:Nat}{g:xZ}{p:Pos}(hn:PySem.W.nsIn X.K vQ c=vE (vE (.ref C)))(M:Mk X.K C g)(FF:FnOk X.prog X.w X.K X.mg X.base CX k g fd ps (lF X.K F))(hr:Room (k+1) X.A)(hg:Gl X c)(hm:X.mg c=vE (.ref C))(hb:Binds X.K fd ps [])
  (hx:Passes CX X E) (ha:QA X E (e::es) tr) (hdb:(c==("__debug__":Str))=vH:=by decide) (he:notStar e=vG:=by rfl) (hpl:es.all notStar=vG:=by rfl):QE X E (.Call (.Name c p) (e::es) [] pos) (ZC2 c F tr):=
 (ZLE M FF hr hg hm hb .nil hx ha hdb (O7 e es X.env he) (Py pos X.env es hpl)).mono λσ H Q h=>by obtain⟨a,S,G,hk,rfl,s,r,h⟩:=h;refine⟨a,S,G,hk,rfl,s,r,(O2 h).imp ?_⟩;rintro vs _ ⟨b,ds,G1,rfl,x,s1,q,-,h1⟩;exact ZNP (x.k.trans hk) hn s1 q h1
end
def Mg(d:D)(ds:List D)(G:DH):R D:=match ds with
 | [.int k]=>match J6 d G with
  |some xs=>match Hz xs with
   |some ns=>if k∈ns/\ns.length<=1000000 then .ok (.int (ns.idxOf k)) G else .bad
   |none=>.bad
  |none=>.bad
 |_=>.bad
theorem ZHv:∀{ns:List Int}{vs:List V},Reps a (ns.map D.int) vs->vs=ns.map V.int
 |[],vs,h=>h
 |n::ns,vs,h=>by
  obtain⟨v,r,e,h1,h2⟩:=h
  cases(show v=V.int n from h1)
  rw[e,ZHv h2]
  rfl
theorem Sy:∀{ns:List Int}{us:List xj},Vals (ns.map V.int) us->us.length=ns.length/\∀(j:Nat)(u:xj),us[j]?=vE u->∃t,∃h:j<ns.length,u=.int ns[j] t
 |[],us,h=>by cases h;exact⟨rfl,λj u e=>by simp at e⟩
 | n::ns,us,h=>by
  cases h with
  | cons r rr=>
   obtain⟨h1,h2⟩:=Sy rr;obtain⟨t,rfl⟩:=r;refine⟨by simp[h1],λj u e=>?_⟩;cases j with
   |zero=>simp at e;exact⟨t,by simp,by simpa using e.symm⟩
   |succ j=>
    obtain⟨t',hj,e'⟩:=h2 j u (by simpa using e);exact⟨t',by simpa using hj,by simpa using e'⟩
section
variable{X:Cx}{E:XK}
theorem ZJH:MtM X "list.index" (lRm X.K E Mg):=by
 intro vD s σ H x xs v us Q I rx rxs h;obtain⟨a,G,d,ds,hk,rfl,sm,rd,rds,q⟩:=h;unfold Mg at q;split at q
 ·rename_i k;split at q
  ·rename_i ys hy;split at q
   ·rename_i ns hns;split at q
    ·rename_i hk';obtain⟨hmem,hlen⟩:=hk';obtain⟨p,vs,rfl,hq,rv⟩:=Uj sm rd hy;rw[Vd hns]at rv;rw[ZHv rv,hk]at hq;cases rx;obtain⟨v1,rfl,rv1⟩:=reps1 rds
     cases(show v1=V.int k from rv1)
     obtain⟨u,rfl,ru⟩:=rxs.one;obtain⟨t,rfl⟩:=ru;obtain⟨its,rits,⟨o,n,ho,hc,hdi,hd⟩,hz⟩:=I.list hq;obtain⟨hl1,hl2⟩:=Sy rits;have hlt:ns.idxOf k<ns.length:=j2 hmem;have hjs:ns.idxOf k<its.toArray.size:=by simpa[hl1]using hlt
     have hob:o={cls:=.type "list",dict:=o.dict,data:=.seq its.toArray n,slots:=o.slots}:=by
      obtain⟨c1,c2,c3,c4⟩:=o;simp only at hc hd;subst hc;subst hd
      rfl
     rw[hob]at ho
     refine call_meets PySem.F.slot_list_index ⟨_,ho,rfl⟩ PySem.F.entry_list_index (PySem.F.args_list_index_2 _ _) (SeqAt.list_indexAt p its.toArray n o.dict o.slots (.int k t) (λy=>match y with | .int i _=>i==k|_=>vH) (ns.idxOf k) hjs (by lia) ?_ ?_) ⟨ho,λy hy=>?_,?_⟩
     ·have hg:its[ns.idxOf k]?=vE its.toArray[ns.idxOf k]:=by simp[zJ (by simpa[hl1]using hlt:ns.idxOf k<its.length)]
      obtain⟨t',h3,e3⟩:=hl2 _ _ hg;rw[e3];simp
     ·intro m hm hlt2;have hml:m<its.length:=by simpa using hm
      have hg:its[m]?=vE its.toArray[m]:=by simp[zJ hml]
      obtain⟨t',h3,e3⟩:=hl2 _ _ hg;rw[e3];have:=List.not_of_lt_findIdx (p:=λx=>x==k) (xs:=ns) hlt2;simpa using this
     ·have hy2:y∈its:=by simpa using hy
      obtain⟨m,hm,e⟩:=q9 hy2;obtain⟨t',h3,e3⟩:=hl2 m y (by rw[zJ hm,e]);rw[e3];exact SeqAt.EqAt.int_int _ _ _ _
     ·exact⟨.int (ns.idxOf k),a.H,I.tok _,⟨_,rfl⟩,q a _ (Ext.refl a) sm rfl⟩
    ·exact q.elim
   ·exact q.elim
  ·exact q.elim
 ·exact q.elim
def tLR(ta:TA):TE:=λσ H Q=>ta σ H λvs H1=>∃j:Int,vs=[.int j]/\ -(2^62)<=j/\j<=1000000/\∀l,H1 l=vF->Q (.ref l) (upd H1 l (.lst ((zZ j.toNat).map λ(i:Nat)=>V.int (i:Int))))
theorem ZPX{acc:Array xj}{n:Nat}(h:ItemsOf (λi v=>∃t,v=.int ((0:Int)+i*1) t) acc n):Vals ((zZ n).map λ(i:Nat)=>V.int (i:Int)) acc.toList:=by
 obtain⟨h1,h2⟩:=h;refine ZCr (by simp[h1]) λi v u hv hu=>?_
 have hi:i<n:=by have:=(zF.mp hv).1;simpa using this
 rw[zx,zL hi]at hv;have ev:v=V.int (i:Int):=by simpa using hv.symm
 obtain⟨t,e⟩:=h2 i u (by rw[<-qH];exact hu);subst ev;refine⟨t,?_⟩;rw[e]
 congr 1
 lia
theorem ZLp{ta:TA}{p p' pos pos':Pos}(hc:X.calm=vG)(hg:Gl X "list")(hm:X.mg "list"=vF)(hg2:Gl X "range")(hm2:X.mg "range"=vF)(ha:PA X [e] ta)(hs:vW [e] X.env=[(vH,eval e X.env)]:=by rfl)
  (hs2:vW [.Call (.Name "range" p') [e] [] pos'] X.env=[(vH,eval (.Call (.Name "range" p') [e] [] pos') X.env)]:=by rfl):PE X (.Call (.Name "list" p) [.Call (.Name "range" p') [e] [] pos'] [] pos) (tLR ta):=by
 intro vD s σ H Q I h;refine Call_ (Jq I hg hm Y4 (PyProof.Rows.callWith_type1 ?_ hs2 rfl));rw[hs2];refine Calls.spliced_cons (Call_ (Jq I hg2 hm2 PyProof.Rows.boot_range (PyProof.Rows.callWith_type1 (thn (ha pos' vD s σ H _ I h) λus s1 ⟨vs,H1,I1,r1,q1⟩=>?_) hs rfl)));obtain⟨j,rfl,b1,b2,q⟩:=q1;obtain⟨u,rfl,ru⟩:=r1.one;obtain⟨t,rfl⟩:=ru;refine call_range_1 (Calls.spliced_nil ?_)
 have hsz:Builtin.Range.rangeSize 0 j 1=(j.toNat:Int):=by rw[rangeSize_one];split <;> lia
 refine call_list_range (I.ok.hd hc) (IsRange.new ..) (small_one (by decide) (by decide) b1 (by lia)) hsz (by lia) λh' tk acc' c' hk hS' hacc=>?_
 have I2:=I1.kept (t':=s1.toks+1+1) (h':=s1.heap.push {cls:=.type "range",data:=.fields #[.int 0 s1.toks,.int j t,.int 1 (s1.toks+1)]}) λb o e=>zQ _ e
 refine⟨.ref _,_,I2.laid (o:=.lst ((zZ j.toNat).map λ(i:Nat)=>V.int (i:Int))) (t':=tk) hk (zK _) ⟨?_,acc'.toList,c',ZPX hacc,by simpa using hS'⟩,rfl,q _ (I2.hok.fresh (zK _))⟩;rw[qQ,List.length_range,vX];lia
def dLR(t:DA):DE:=λS G=>(t S G).bind λds G1=>match ds with
 |[.int j]=>if inR j/\j<=1000000 then .ok (.ref G1.length) (G1++[.lst (Cm 0 j.toNat)])else .bad
 |_=>.bad
theorem ZOH{p p' pos pos':Pos}(hc:X.calm=vG)(hg:Gl X "list")(hm:X.mg "list"=vF)(hg2:Gl X "range")(hm2:X.mg "range"=vF)(ha:QA X E [e] ta)(hs:vW [e] X.env=[(vH,eval e X.env)]:=by rfl)
  (hs2:vW [.Call (.Name "range" p') [e] [] pos'] X.env=[(vH,eval (.Call (.Name "range" p') [e] [] pos') X.env)]:=by rfl):QE X E (.Call (.Name "list" p) [.Call (.Name "range" p') [e] [] pos'] [] pos) (dLR ta):=
 (ZLp hc hg hm hg2 hm2 ha hs hs2).mono λσ H Q h=>by
  obtain⟨a,S,G,hk,rfl,s,r,h⟩:=h;refine⟨a,S,G,hk,rfl,s,r,(O2 h).imp ?_⟩;rintro vs _ ⟨b,ds,G1,rfl,x,s1,q,-,h1⟩;split at h1
  ·rename_i j;split at h1
   ·rename_i hj;obtain⟨v,rfl,rv⟩:=reps1 q
    cases(show v=V.int j from rv)
    refine⟨j,rfl,hj.1.1,hj.2,λl hl=>Mt s1 ?_ h1 l hl⟩;unfold Cm;generalize zZ j.toNat=L
    induction L with
    |nil=>exact rfl
    |cons k L ih=>exact⟨_,_,rfl,(by show V.int (k:Int)=V.int (0+(k:Int));rw[Int.zero_add]),ih⟩
   ·exact h1.elim
  ·exact h1.elim
noncomputable def Itd(lo:Int)(n:Nat):It:=⟨λi _=>i<n,λi H x H'=>H'=H/\x=.int (lo-i),λi _=>n<=i⟩
theorem ZTN{P:xK}{w:xw}{K:PySem.W.Frag}{tg:xX}(it:xZ)(lo:Int)(n:Nat):Turn P w K tg (Itd lo n) [it] it (λi h=>IsRangeIter h it (lo+(i:Nat)*(-1)) ((n:Int)-(i:Nat)) (-1)) where
 mem:=by simp
 obj:=λi h st b hb=>by
  have e:b=it:=by simpa using hb
  subst e;exact⟨_,st,λv z=>by have z':Data.fields _=Data.cell v:=z;cases z'⟩
 keep:=λi h h' st k=>k it (by simp) _ st
 item:=by
  intro X hP hw hK hc i vD s σ H E I hf st hg;subst hP hw hK;obtain⟨f0,f1,f2,f3,f4,f5⟩:=hf it (by simp);have W:=Walks.range (prog:=X.prog) (w:=X.w) (I.ok.hd hc) it lo (-1) n;refine W.item i s _ _ hg st λv h' tk hv st' kk=>?_
  obtain⟨t,rfl⟩:=hv;have I1:Inv X vD σ H {s with heap:=h',toks:=tk}:=I.turned (λb o hb e=>kk b o (by simpa using hb) e) f0 f1 f3 f4 f5;refine⟨_,rfl,Pb (s:={s with heap:=h',toks:=tk}) (n:="range_iterator") st' rfl rfl (by decide) ⟨.int (lo-i),H,I1,⟨t,?_⟩,⟨rfl,rfl⟩,st',λb hb=>(hf b hb).1⟩⟩
  congr 1
  lia
 done:=by intro X hP hw hK hc i vD s σ H E I hf st hg;subst hP hw hK;obtain⟨f0,f1,f2,f3,f4,f5⟩:=hf it (by simp);exact wpAny_pyNext_range_end (I.ok.hd hc) st (by have:n<=i:=hg;lia) λh' eb=>⟨rfl,I.turned (t':=s.toks) (λb o hb e=>eb b o hb e) f0 f1 f3 f4 f5⟩
 self:=λ_ _ _ _ _ st h=>wpAny_pyIter_rangeiter st h
theorem rangeSize_down(a b:Int):Builtin.Range.rangeSize a b (-1)=if b<a then a-b else 0:=by
 unfold Builtin.Range.rangeSize;rw[if_neg (by decide)];have e:(- (-1:Int))=1:=by decide
 rw[e,Int.ediv_one]
 split <;> lia
theorem small_down{a b:Int}(ha: -(2^62)<=a)(ha':a<2^62)(hb: -(2^62)<=b)(hb':b<2^62):Builtin.Range.small a b (-1)=vG:=by
 unfold Builtin.Range.small;rw[rangeSize_down];simp only[Builtin.Range.rangeFitsLong,zC,j9,decide_eq_true_eq,beq_iff_eq,show¬((-1:Int)>0) by decide,if_false]
 split <;> lia
def iDn(ta:TA):TI:=λσ H R=>ta σ H λvs H1=>∃i j:Int,vs=[.int i,.int j,.int (-1)]/\(-(2^62)<=i/\i<2^62/\ -(2^62)<=j/\j<2^62)/\R (Itd i (i-j).toNat) H1
theorem ZRC{tg a b c:xX}{ta:TA}{p pos:Pos}(hg:Gl X "range")(hm:X.mg "range"=vF)(ha:PA X [a,b,c] ta)(hs:vW [a,b,c] X.env=(vH,eval a X.env)::vW [b,c] X.env:=by rfl)(hs2:(x0 pos (vW [b,c] X.env)).any (·.1)=vH:=by rfl):
  PI X tg (.Call (.Name "range" p) [a,b,c] [] pos) (iDn ta):=by
 intro vD s σ H R I h;refine Call_ (Jq I hg hm PyProof.Rows.boot_range (PyProof.Rows.callWith_type1 (thn (ha pos vD s σ H _ I h) λus s1 ⟨vs,H1,I1,r1,q1⟩=>?_) hs hs2));obtain⟨i,j,e,⟨q1,q2,q3,q4⟩,q⟩:=q1;subst e;cases r1 with
 | cons r rr=>
  cases rr with
  | cons r' rr=>
   cases rr with
   | cons r'' rr=>
    cases rr;obtain⟨t,rfl⟩:=r;obtain⟨t',rfl⟩:=r';obtain⟨t'',rfl⟩:=r'';refine call_range_3 (by decide) ?_ (.inl (PyProof.noPylong_small (by lia)));refine wpAny_pyIter_range (IsRange.new ..) (small_down q1 q2 q3 q4) ?_;have I2:Inv X vD σ H1 {s1 with heap:=s1.heap.push {cls:=.type "range",data:=.fields #[.int i t,.int j t',.int (-1) t'']},toks:=s1.toks}:=I1.kept λb o e=>zQ _ e
    refine⟨(s1.heap.push {cls:=.type "range",data:=.fields #[.int i t,.int j t',.int (-1) t'']}).objs.size,[(s1.heap.push {cls:=.type "range",data:=.fields #[.int i t,.int j t',.int (-1) t'']}).objs.size],_,_,H1,rfl,
     I2.kept (t':=s1.toks) λb o e=>zQ _ e,ZTN _ i (i-j).toNat,?_,λb hb=>?_,q⟩
    ·have e1:i+((0:Nat):Int)*(-1)=i:=by simp
     have e2:(((i-j).toNat:Nat):Int)-((0:Nat):Int)=Builtin.Range.rangeSize i j (-1):=by rw[rangeSize_down];split <;> lia
     show IsRangeIter _ _ (i+((0:Nat):Int)*(-1)) ((((i-j).toNat:Nat):Int)-((0:Nat):Int)) (-1);rw[e1,e2];exact z0 _ rfl
    ·have e:b=(s1.heap.push {cls:=.type "range",data:=.fields #[.int i t,.int j t',.int (-1) t'']}).objs.size:=by simpa using hb
     subst e;exact I2.Kg (zK _) (I2.hok.fresh (zK _))
noncomputable def Ks(lo:Int)(n:Nat):List D:=(zZ n).map λ(k:Nat)=>D.int (lo-(k:Int))
def rng3(ds:List D)(G:DH):R ItD:=match ds with
 |[.int i,.int j,.int k]=>if inR i/\inR j/\k= -1 then .ok (.pure (Ks i (i-j).toNat)) G else .bad
 |_=>.bad
theorem ZPU(lo:Int)(n:Nat):RepI a (.pure (Ks lo n)) (Itd lo n):=by
 refine⟨(zZ n).map λ(k:Nat)=>V.int (lo-(k:Int)),?_,λb x i=>⟨λv hv=>?_,λhl=>?_⟩⟩
 ·unfold Ks;generalize zZ n=l
  induction l with
  |nil=>exact rfl
  |cons k l ih=>exact⟨_,_,rfl,rfl,ih⟩
 ·rw[zx]at hv;by_cases hi:i<n
  ·rw[zL hi]at hv;have hv':V.int (lo-(i:Int))=v:=by simpa using hv
   exact⟨hi,λw H' y=>⟨y.2.trans hv',y.1⟩⟩
  ·rw[zA (by simpa using hi)]at hv;cases hv
 ·show n<=i;simpa using hl
theorem ZQP{tg e' e'':xX}{p pos:Pos}(hg:Gl X "range")(hm:X.mg "range"=vF)(ha:QA X E [e,e',e''] ta)(hs:vW [e,e',e''] X.env=(vH,eval e X.env)::vW [e',e''] X.env:=by rfl)(hs2:(x0 pos (vW [e',e''] X.env)).any (·.1)=vH:=by rfl):
  QI X E tg (.Call (.Name "range" p) [e,e',e''] [] pos) (Cy rng3 ta):=
 (ZRC hg hm ha hs hs2).mono λσ H Q h=>by
  obtain⟨a,S,G,hk,rfl,s,r,h⟩:=h;refine⟨a,S,G,hk,rfl,s,r,(V0 h).imp ?_⟩;rintro vs _ ⟨b,ds,G1,rfl,x,s1,q,-,h1⟩;unfold rng3 at h1;split at h1
  ·rename_i i j k;split at h1
   ·rename_i hj;obtain⟨hi,hj,rfl⟩:=hj;obtain⟨v,r,e1,q1,v2,r2,e2,q2,v3,r3,e3,q3,q4⟩:=q
    cases(show v=V.int i from q1)
    cases(show v2=V.int j from q2)
    cases(show v3=V.int (-1)from q3)
    cases(show r3=[]from q4)
    subst e3;subst e2;exact⟨i,j,e1,⟨hi.1,hi.2,hj.1,hj.2⟩,h1 b _ (Ext.refl b) s1 (ZPU i (i-j).toNat)⟩
   ·exact h1.elim
  ·exact h1.elim
end
theorem ZPG(a b:xj):checkTypeCall "enumerate" ⟨[a],[("start",b)]⟩=pure ():=by kernel_rfl
theorem ZP5(a b:xj):xG "enumerate.__new__" ⟨[.type "enumerate",a],[("start",b)]⟩=pure ():=by kernel_rfl
theorem ZNX(o a b:xj):argsOk "object.__init__" ⟨[o,a],[("start",b)]⟩:=by
 unfold argsOk;rw[signature?_of (id:="object.__init__") (n:=['_','_','t','i','n','i','_','_']) (o:=['t','c','e','j','b','o']) (by kernel_rfl) PySem.F.owner_object]
 kernel_rfl
section
variable{prog:xK}{w:xw}{A:xJ}{E:xj->xq->Prop}{s:xq}
theorem ZQR{newId:String}{self a:xj}{kw:List (Str×xj)}(hl:typeLookup (.type T) "__init__"=pure (vE (.builtin "object.__init__")))(hm:Bind.madeBy (.type T)=pure (vE newId))(hne:(vE newId != vE "object.__new__")=vG):
  Meets (Builtin.«object.__init__» ⟨[self,a],kw⟩) (λ_ R s=>s.TypeIs self T/\R (.ok (.ret .none)) s):=by
 refine Meets.of_wp λprog w A R s hs=>?_
 obtain⟨hT,hq⟩:=hs
 repeat (any_goals (first|assumption|wp_step))
 exact⟨_,rfl,hq⟩
theorem ZLs{newId initId:String}{Bn Bi:Builtin}{args:List xj}{kw:List (Str×xj)}{S:PySem.Spec}{Q Q₁:xj->xq->Prop}(ft:TypeCalled T newId initId)
  (hct:checkTypeCall T ⟨args,kw⟩=pure ()) (hcn:xG newId ⟨.type T::args,kw⟩=pure ())
  (entryN:entryFor table newId=vE Bn) (entryI:entryFor table initId=vE Bi) (g:Meets (Bn ⟨.type T::args,kw⟩) S) (h:S A.in1 (wants Q₁ E) s)
  (hnext:∀obj s₁,Q₁ obj s₁->s₁.TypeIs obj T/\argsOk initId ⟨obj::args,kw⟩/\∃Si,Meets (Bi ⟨obj::args,kw⟩) Si/\Si A.in1 (wants (λr s₂=>r=.none/\Q obj s₂) E) s₁):
  vY (vZ prog w) A (call (.type T) args kw) Q E s:=by
 obtain⟨c,tl,hmro⟩:=ft.mro;have hmade:=ft.made;have hsub:=ft.sub;refine wpAny_call (codeAny_of_tree ?_);show vY _ _ (callAny (.type T) _) _ _ _;refine v7 ⟨Code.quiet_builtin _ (by decide +kernel),codeAny_builtin PySem.F.entry_type_call ?_⟩;rw[Around.under_plain (weight_type_call_type T args kw) (units_type_call_type T args kw)];have h1:=ft.notType;have h2:=ft.canCreate
 repeat (any_goals (first|assumption|wp_step))
 refine xH (codeAny_call_builtin ft.plain entryN (wpAny_of_eq hcn (g prog w A.in1 _ s h))) λr s₁ hr=>?_
 cases r with
 |error e=>exact hr
 | ok fl=>
  cases fl with
  | ret obj=>
   obtain⟨hT,hok,Si,gi,hsi⟩:=hnext _ _ hr;have hli:=ft.init.lookup;have hbi:=ft.init.bind obj
   repeat (any_goals (first|assumption|wp_step))
   refine xH (codeAny_call_builtin ft.init.plain entryI (ft.init.check _ _ _ _ _ _ _ _ hT hok (gi prog w A.in1 _ s₁ hsi))) λr₂ s₂ hr₂=>?_
   cases r₂ with
   |error e=>exact hr₂
   | ok fl₂=>
    cases fl₂ with
    |ret r=>
     obtain⟨rfl,hq⟩:=hr₂
     repeat (any_goals (first|assumption|wp_step))
    |_=>exact hr₂.elim
  |_=>exact hr.elim
theorem ZPk{sr:Src}{xs:Array xj}{n:Int}{t:Tok}{Q:xj->xq->Prop}(hv:sr.val s.heap xs)
  (h:∀h' tk g,Gv n g->En h' (s.heap.objs.size+1) s.heap.objs.size .none n g .none->sr.it h' s.heap.objs.size 0->(∀b o,s.heap.get? b=vE o->h'.get? b=vE o)->Q (.ref (s.heap.objs.size+1)) {s with heap:=h',toks:=tk}):
  vY (vZ prog w) A (call (.type "enumerate") [.ref sr.adr] [("start",.int n t)]) Q E s:=by
 have g:Meets (Builtin.«enumerate.__new__» ⟨[.type "enumerate",.ref sr.adr],[("start",.int n t)]⟩) (λ_ R s=>sr.val s.heap xs/\∀g tk,Gv n g->
   R (.ok (.ret (.ref (s.heap.push {cls:=.type sr.itn,data:=.fields #[.ref sr.adr,.int 0 0]}).objs.size)))
    {s with heap:=(s.heap.push {cls:=.type sr.itn,data:=.fields #[.ref sr.adr,.int 0 0]}).push {cls:=.type "enumerate",data:=.fields #[.none,.bool vH,.ref s.heap.objs.size,vJ n,g,.none]},toks:=tk}):=
  .of_wp λprog w A R s h=>by
   obtain⟨hp,g,d,tk,os⟩:=s;obtain⟨hl,h⟩:=h;have hsub:=sub_enumerate;have hL:sr.val (Shared.heap ⟨hp,g,d,tk,os⟩) xs:=hl
   wp_walk
   refine wpAny_stack_any λst=>v7 ?_
   cases hf:Builtin.SmallTypes.fitsIndex n
   ·split
    ·rename_i c _ _ _ _ _
     cases(c==Value.type "enumerate")<;>(wp_walk using Src.iter hL;exact⟨_,rfl,h _ _ (.inr ⟨t,rfl⟩)⟩)
    ·wp_walk using Src.iter hL
     exact⟨_,rfl,h _ _ (.inr ⟨t,rfl⟩)⟩
   ·split
    ·rename_i c _ _ _ _ _
     cases(c==Value.type "enumerate")<;>(wp_walk using Src.iter hL;exact⟨_,rfl,h _ _ (.inl rfl)⟩)
    ·wp_walk using Src.iter hL
     exact⟨_,rfl,h _ _ (.inl rfl)⟩
 refine ZLs (Q₁:=λobj s₁=>s₁.TypeIs obj "enumerate"/\Q obj s₁) PySem.F.called_enumerate (ZPG _ _) (ZP5 _ _) PySem.F.entry_enumerate_new PySem.F.entry_object_init g ⟨hv,λg tk hg=>?_⟩ λobj s₁ hq=>⟨hq.1,ZNX obj _ _,_,ZQR PySem.F.called_enumerate.init.lookup PySem.F.called_enumerate.made (by decide),hq.1,rfl,hq.2⟩
 have hz:(s.heap.push {cls:=.type sr.itn,data:=.fields #[.ref sr.adr,.int 0 0]}).objs.size=s.heap.objs.size+1:=qy ..;show _/\_;rw[hz];have he:En ((s.heap.push {cls:=.type sr.itn,data:=.fields #[.ref sr.adr,.int 0 0]}).push {cls:=.type "enumerate",data:=.fields #[.none,.bool vH,.ref s.heap.objs.size,vJ n,g,.none]}) (s.heap.objs.size+1) s.heap.objs.size .none n g .none:=by
  have:=z0 (s.heap.push {cls:=.type sr.itn,data:=.fields #[.ref sr.adr,.int 0 0]}) (o:={cls:=.type "enumerate",data:=.fields #[.none,.bool vH,.ref s.heap.objs.size,vJ n,g,.none]}) rfl;rw[hz]at this;exact this
 exact⟨⟨_,he,rfl⟩,h _ tk g hg he ⟨_,zQ _ (z0 _ rfl),rfl,rfl⟩ λb o x=>zQ _ (zQ _ x)⟩
theorem ZR4{M:Model}{A:xJ}{E:xj->xq->Prop}{s:xq}{env:Env}{pos:Pos}{rest:List xX}{kws:List Keyword}{Q:xj->xq->Prop}
  (hall:(xB pos (xT kws env)).all (·.1.isSome)=vG)
  (h:vY M A (spliced (x0 pos (vW (e::rest) env))) (λvs s₁=>vY M A (evalAll ((xB pos (xT kws env)).map (·.2)))
   (λks s₂=>vY M A (call (.type T) vs (((xB pos (xT kws env)).filterMap (·.1)).zip ks)) Q E s₂) E s₁) E s)
  (hplain:(x0 pos (vW (e::rest) env)).any (·.1)=vH) (hkw:(xB pos (xT kws env)).any (·.1.isNone)=vH) (he:vW (e::rest) env=(vH,eval e env)::vW rest env):
  vY M A (callWith pos (.type T) [] (x0 pos (vW (e::rest) env)) (xB pos (xT kws env))) Q E s:=by
 unfold callWith;refine vz (vk (v4 (PyProof.Rows.evalArgs_kw2 (Q:=λa s₁=>vY M A (call (.type T) ([]++a.pos) a.kw) Q E s₁) hall h he) (λa s₁ h₁=>vz (wpAny_standAt ?_)) λ_ _ x=>x));simp only[hplain,hkw,Bool.or_false];refine vz (v7 ?_);exact vz (v4 h₁ (λr s₂ hr=>vz (vk (wpAny_point (v7 hr)))) λ_ _ x=>x)
end
section
variable{X:Cx}{E:XK}
def ZQg(K:PySem.W.Frag)(ta tk:TA):TI:=λσ H R=>ta σ H λvs H1=>tk σ H1 λws H2=>∃sr xs n,vs=[.ref (Src.adr sr)]/\ws=[.int n]/\sr.sq K H2 xs/\R (Ite K sr n) H2
theorem ZPf{elts:List xX}{x1}{tp:Pos}{a b:xX}{ta tk:TA}{p pos kp:Pos}(hg:Gl X "enumerate")(hm:X.mg "enumerate"=vF)(ha:PA X [a] ta)(hk:PK X [⟨vE "start",b,kp⟩] tk)(hs:vW [a] X.env=[(vH,eval a X.env)]:=by rfl):
  PI X (.Tuple elts x1 tp) (.Call (.Name "enumerate" p) [a] [⟨vE "start",b,kp⟩] pos) (ZQg X.K ta tk):=by
 intro vD s σ H R I h;refine vq (Jq I hg hm PyProof.Rows.boot_enumerate (ZR4 rfl (thn (ha pos vD s σ H _ I h) λus s1 ⟨vs,H1,I1,r1,q1⟩=>thn (hk pos vD s1 σ H1 _ I1 q1) λus2 s2 ⟨ws,H2,I2,r2,q2⟩=>?_) (by rw[hs];rfl) rfl hs));obtain⟨sr,xs,n,e,e2,hq,q⟩:=q2;subst e;subst e2;cases r1 with
 |cons r rr=>
  cases rr;cases r;obtain⟨u,rfl,ru⟩:=r2.one;obtain⟨t,rfl⟩:=ru;obtain⟨its,rv,hv,hz⟩:=Src.sq.val I2 hq;refine ZPk hv λh' tk g hg he hi kp=>?_
  refine ZBq he ?_;have I3:Inv X vD σ H2 {s2 with heap:=h',toks:=tk}:=I2.kept (t':=tk) kp;refine⟨s2.heap.objs.size+1,[s2.heap.objs.size+1,s2.heap.objs.size],_,_,H2,rfl,I3,ZH4 sr n _ _ (Nat.succ_ne_self _),⟨g,.none,by simpa using he,by simpa using hg,hi⟩,λb hb=>?_,q⟩;have hb':b=s2.heap.objs.size+1∨b=s2.heap.objs.size:=by simpa using hb
  have hle:s2.heap.objs.size<=b:=by rcases hb' with rfl|rfl<;>lia
  exact I2.Kg hle (I2.hok.fresh hle)
theorem ZN9{sr:Src}{n0:Int}(hk:a.K=X.K)(rd:∀b:Wd,Ext a b->∀G',Sim b G'->∀ys,Cj d G'=vE ys->∃us,sr.sq b.K b.H us/\Reps b ys us)(n:Nat):RepI a (.fn n (Ez n0 d)) (Ite X.K sr n0):=by
 intro b x G' s' i;have kb:b.K=X.K:=x.k.trans hk;constructor
 ·intro e he;unfold Ez at he;split at he
  ·cases he
  ·rename_i ys hy;obtain⟨us,hq,ru⟩:=rd b x G' s' ys hy;rw[kb]at hq;cases hyi:ys[i]? with
   |none=>rw[hyi]at he;cases he
   |some y=>
    rw[hyi]at he;have he':D.tup [.int (n0+i),y]=e:=by simpa using he
    subst he';obtain⟨u,hu,rx⟩:=ru.get hyi;refine⟨⟨us,u,hq,hu⟩,?_⟩;rintro w H' ⟨p,u',rfl,hp,rfl,hu'⟩;refine⟨b.put p (.tup [.int (n0+i),u']),rfl,Ext.put hp,s'.put hp,p,_,rfl,.of Gk,?_⟩;have e1:=hu' us hq;rw[hu]at e1;cases e1;exact⟨_,_,rfl,rfl,Reps.cons (rx.mono (Ext.put hp)) rfl⟩
 ·intro he;unfold Ez at he;split at he
  ·cases he
  ·rename_i ys hy;obtain⟨us,hq,ru⟩:=rd b x G' s' ys hy;rw[kb]at hq;cases hyi:ys[i]? with
   |none=>exact⟨us,hq,by rw[<-ru.length];exact qG.mp hyi⟩
   |some y=>rw[hyi]at he;cases he
def ZBQ(ta:DA)(tb:DE):DI:=λS G=>(ta S G).bind λds G1=>(tb S G1).bind λk G2=>match ds,k with
 |[d],.int n=>match Cj d G2 with
  |some xs=>.ok (.fn xs.length (Ez n d)) G2
  |none=>.bad
 |_,_=>.bad
theorem ZTV{b:xX}{nm:Option Str}{kp:Pos}{tb:DE}(hb:QE X E b tb):PK X [⟨nm,b,kp⟩] (ZDC (lE X.K E tb) Yu):=ZNl hb ZNh
theorem ZKs{E:XK}{r:R D}{f:D->DH->R ItD}{Q:It->Hp->Prop}(h:outI E a (r.bind f) Q):
  out E a r (λv H=>∃(b:Wd)(d:D)(G:DH),b.H=H/\Ext a b/\Sim b G/\Rep b d v/\outI E b (f d G) Q):=by
 cases r with
 |ok d G=>exact λb v x s q=>⟨b,d,G,rfl,x,s,q,outI.mono x h⟩
 |err e G=>exact h
 |bad=>exact h
theorem ZMj{elts:List xX}{x1}{tp:Pos}{b:xX}{tb:DE}{p pos kp:Pos}(hg:Gl X "enumerate")(hm:X.mg "enumerate"=vF)(ha:QA X E [e] ta)(hb:QE X E b tb)(hs:vW [e] X.env=[(vH,eval e X.env)]:=by rfl):
  QI X E (.Tuple elts x1 tp) (.Call (.Name "enumerate" p) [e] [⟨vE "start",b,kp⟩] pos) (ZBQ ta tb):=(ZPf hg hm ha (ZTV hb) hs).mono λσ H Q h=>by
 obtain⟨a,S,G,hk,rfl,s,r,h⟩:=h;refine⟨a,S,G,hk,rfl,s,r,(V0 h).imp ?_⟩;rintro vs _ ⟨b,ds,G1,rfl,x,s1,q,-,h1⟩;refine⟨b,S,G1,x.k.trans hk,rfl,s1,r.mono x,(ZKs h1).imp ?_⟩;rintro v _ ⟨c,k,G2,rfl,y,s2,q2,h2⟩;split at h2
 ·rename_i d n;split at h2
  ·rename_i xs hx;obtain⟨w,r,e1,q1,q3⟩:=q
   cases(show r=[]from q3)
   subst e1
   cases(show v=V.int n from q2)
   obtain⟨sr,rfl,⟨us,hq⟩,rd⟩:=ZCk s2 (q1.mono y) hx;have kb:c.K=X.K:=(y.k.trans x.k).trans hk;exact⟨sr,us,n,rfl,rfl,by rw[<-kb];exact hq,h2 c _ (Ext.refl c) s2 (ZN9 kb rd _)⟩
  ·exact h2.elim
 ·exact h2.elim
end
end DL
namespace DL
open PySem PySem.Spec L2
variable{d:D}
def K8(c f:Str)(d:D)(G:DH):R D:=match K9 c d G with
 |some fs=>match fs.lookup f with
  |some v=>.ok v G
  |none=>.bad
 |none=>.bad
def Px(c f:Str)(o d:D)(S:DSt)(G:DH):SR:=match o with
 |.ref i=>match K9 c o G with
  |some fs=>if fs.length<1000 then .nx S (G.set i (.ins c (Hv f d fs)))else .bad
  |none=>.bad
 |_=>.bad
def ZAV(c m:Str)(F:List D->DH->R D)(t:DA)(S:DSt)(o:D)(G:DH):R D:=match K9 c o G with
 |some fs=>match fs.lookup m with
  |none=>(t S G).bind λds G2=>F (o::ds) G2
  |some _=>.bad
 |none=>.bad
def ZEL(F:List D->DH->R D)(c:Str)(ds:List D)(G1:DH):R D:=(F (.ref G1.length::ds) (G1++[.ins c []])).bind λv G2=>match v with
 |.non=>.ok (.ref G1.length) G2
 |_=>.bad
section
variable{S:DSt}{G:DH}{c f m:Str}{t to tv:DE}{ta:DA}{F:List D->DH->R D}{i:Nat}{fs:List (Str×D)}{v d:D}
@[simp]theorem ev_fld:Ft c t f S G=(t S G).bind λd G1=>K8 c f d G1:=id rfl
@[simp]theorem Ni:H9 c to tv f S G=(tv S G).toS λd G1=>(to S G1).toS λo G2=>Px c f o d S G2:=id rfl
@[simp]theorem ZTm:Jh c m F to ta S G=(to S G).bind λo G1=>ZAV c m F ta S o G1:=id rfl
@[simp]theorem ZTo:ZC2 c F ta S G=(ta S G).bind λds G1=>ZEL F c ds G1:=id rfl
theorem ZCp(h:G[i]?=vE (.ins c fs)):K9 c (.ref i) G=vE fs:=by unfold K9;simp only[h,if_true]
theorem Oe(h:G[i]?=vE (.ins c fs))(h2:fs.lookup f=vE v):K8 c f (.ref i) G=.ok v G:=by unfold K8;rw[ZCp h];simp only[h2]
theorem ZMb(h:G[i]?=vE (.ins c fs))(hl:fs.length<1000):Px c f (.ref i) d S G=.nx S (G.set i (.ins c (Hv f d fs))):=by unfold Px;simp only[ZCp h,hl,if_true]
theorem ZOf(h:G[i]?=vE (.ins c fs))(h2:fs.lookup m=vF):ZAV c m F ta S (.ref i) G=(ta S G).bind λds G2=>F (.ref i::ds) G2:=by unfold ZAV;rw[ZCp h];simp only[h2]
@[simp]theorem ev_LR:dLR ta S G=(ta S G).bind λds G1=>match ds with
 |[.int j]=>if inR j/\j<=1000000 then .ok (.ref G1.length) (G1++[.lst (Cm 0 j.toNat)])else .bad
 |_=>.bad:=id rfl
@[simp]theorem ZQ5{i j:Int}(hi:inR i)(hj:inR j):rng3 [.int i,.int j,.int (-1)] G=.ok (.pure (Ks i (i-j).toNat)) G:=by simp[rng3,hi,hj]
theorem ZRq{lo:Int}:Ks lo 0=[]:=rfl
theorem ZRK{lo:Int}{n:Nat}:Ks lo (n+1)=.int lo::Ks (lo-1) n:=by
 unfold Ks;rw[qE,zk,qF]
 congr 1
 ·simp
 ·refine qk λk _=>?_
  simp only[Function.comp]
  congr 1
  lia
theorem ZIK{ns:List Int}{k:Int}(h:J6 d G=vE (ns.map D.int))(hm:k∈ns)(hl:ns.length<=1000000):Mg d [.int k] G=.ok (.int (ns.idxOf k)) G:=by unfold Mg;simp only[h,ZBi,hm,hl,and_self,if_true]
theorem ZOB{G G':DH}(hl:G'.length=G.length)(hb:bel G.length d=vG):tidy G (.ok d G')=.ok d G':=by
 unfold tidy;simp only[hb,if_true];split
 ·rename_i h;rw[List.take_of_length_le (by lia)]at h;rw[h]
 ·rfl
theorem ZKz{G G':DH}(h:G'.take G.length≠G):tidy G (.ok d G')=.ok d G':=by unfold tidy;simp only[h,if_false]
end
end DL
namespace DL
open PySem PySem.Spec L2
open PyProof.Rows hiding St
variable{x:Str}
def Ot(x:Str)(n:Int):Str:=if n<1 then Str.empty else if(n==1||x.length==0)=vG then x else⟨(zV n.toNat x.cps).foldl (·++·) #[]⟩
theorem ZCq{a:Array Nat}:∀(n:Nat)(b:Array Nat),((zV n a).foldl (·++·) b).toList=b.toList++(zV n a.toList).flatten
 |0,b=>by simp
 |n+1,b=>by rw[zS,jV,ZCq n (b++a),zS,q8];simp
theorem ZQY{a:Array Nat}(n:Nat):((zV n a).foldl (·++·) #[]).size=n*a.size:=by rw[<-qw,ZCq];simp
theorem ZNr{n:Int}:(Ot x n).cps.toList=(zV n.toNat x.cps.toList).flatten:=by
 unfold Ot;split
 ·rename_i h;have e:n.toNat=0:=by lia
  rw[e];rfl
 ·rename_i h;split
  ·rename_i hx;rw[j9,beq_iff_eq,beq_iff_eq]at hx;rcases hx with rfl|hx
   ·simp
   ·have e:x.cps.toList=[]:=by have:x.cps.size=0:=hx;rw[<-qw]at this;exact qP this
    rw[e];simp
  ·show((zV n.toNat x.cps).foldl (·++·) #[]).toList=_
   rw[ZCq];simp
def Bk:D->D->DH->R D
 |.int i,.int j,G=>if MulB i j then .ok (.int (i*j)) G else .bad
 |.str x,.int n,G=>if -1000<=n/\n<=1000/\x.length<=1000 then .ok (.str (Ot x n)) G else .bad
 |_,_,_=>.bad
section
variable{X:Cx}{E:XK}
theorem ZO9:OpR X (xD .Mult) (λx y H Q=>∃i n,x=.str i/\y=.int n/\(-1000<=n/\n<=1000/\i.length<=1000)/\Q (.str (Ot i n)) H):=by
 intro vD s σ H x y v u Q I rx ry h;obtain⟨i,n,rfl,rfl,⟨h1,h2,h3⟩,q⟩:=h;obtain⟨t,rfl⟩:=rx;obtain⟨t',rfl⟩:=ry;have hlen:∀m:Nat,m<=1000->i.length*m<=1000000:=λm hm=>zB (jU h3 hm) (by decide)
 refine P.mul_str ?_ (λhn hx=>?_) (λhn hx=>?_) ?_
 ·rw[decide_eq_false (by lia),decide_eq_false (by lia)];rfl
 ·intro hgt;have hm:0<n:=by lia
  have:(i.length:Int)*n<=2^63-1:=by have h4:(i.length:Int)*n<=1000*1000:=Int.mul_le_mul (by lia) h2 (by lia) (by lia);lia
  have h5:=(Int.le_ediv_iff_mul_le hm).mpr this;lia
 ·have:=hlen n.toNat (by lia);unfold Builtin.Str.tooLong;rw[vX];exact decide_eq_false (by lia)
 ·unfold Ot at q;split
  ·rename_i hn;rw[if_pos hn]at q;exact⟨by decide,.str Str.empty,H,I.tok _,⟨_,rfl⟩,q⟩
  ·rename_i hn;rw[if_neg hn]at q;split
   ·rename_i hx;rw[if_pos hx]at q;exact⟨.str i,H,I,⟨t,rfl⟩,q⟩
   ·rename_i hx;rw[if_neg hx]at q;refine⟨?_,.str _,H,I.tok _,⟨_,rfl⟩,q⟩
    show((zV n.toNat i.cps).foldl (·++·) #[]).size<=sizeLine
    have h6:i.cps.size<=1000:=h3;have h7:=jU (show n.toNat<=1000 by lia) h6;rw[ZQY,vX];lia
theorem Dj:OpR X (xD .Mult) (lR2 X.K E Bk):=Hn (ZQK.or ZO9) λa G d e x y Q hk s rd re q=>by
 cases d<;>cases e<;>first
  |exact q.elim
  | (
    rename_i i j;unfold Bk at q;dsimp only at q;split at q
    ·first
     |exact .inl ⟨_,_,rd,re,by assumption,q a _ (Ext.refl a) s rfl⟩
     |exact .inr ⟨_,_,rd,re,by assumption,q a _ (Ext.refl a) s rfl⟩
    ·exact q.elim)
end
section
variable{i j:Int}{G:DH}
theorem Je(h1: -(2^64)<i)(h2:i<2^64):Bk (.int i) (.int j) G=.ok (.int (i*j)) G:=if_pos (.inl (.inl ⟨h1,h2⟩))
theorem Ji(h1: -(2^64)<j)(h2:j<2^64):Bk (.int i) (.int j) G=.ok (.int (i*j)) G:=if_pos (.inl (.inr ⟨h1,h2⟩))
@[simp]theorem ZUm{n:Nat}(h:n<18446744073709551616):Bk (.int (no_index (OfNat.ofNat n))) (.int j) G=.ok (.int (OfNat.ofNat n*j)) G:=
 Je (by have:(0:Int)<=(OfNat.ofNat n:Int):=Int.natCast_nonneg n;lia) (by have:(OfNat.ofNat n:Int)<18446744073709551616:=Int.ofNat_lt.mpr h;lia)
@[simp]theorem ZUW{n:Nat}(h:n<18446744073709551616):Bk (.int i) (.int (no_index (OfNat.ofNat n))) G=.ok (.int (i*OfNat.ofNat n)) G:=
 Ji (by have:(0:Int)<=(OfNat.ofNat n:Int):=Int.natCast_nonneg n;lia) (by have:(OfNat.ofNat n:Int)<18446744073709551616:=Int.ofNat_lt.mpr h;lia)
theorem ZQE{n:Int}(h: -1000<=n/\n<=1000/\x.length<=1000):Bk (.str x) (.int n) G=.ok (.str (Ot x n)) G:=if_pos h
end
section
variable{X:Cx}{E:XK}{e st:xX}{te:TE}{ts:TO}{p2 pos:Pos}
end
section
variable{S:DSt}{G:DH}
end
section
variable{X:Cx}{E:XK}
theorem ZIu{a:Wd}:∀(l:List Str),Reps a (l.map D.str) (l.map V.str)
 |[]=>Reps.nil
 |x::l=>Reps.cons (show Rep a (.str x) (V.str x)from rfl) (ZIu l)
def TupG(K:PySem.W.Frag)(mg:Str->Option xj)(n:Str)(ss:List Str):Prop:=∃(p:xZ)(o:Obj)(its:Array xj)(k:Nat),mg n=vE (.ref p)/\K.lookup p=vE o/\o.cls=.type "tuple"/\o.data=.seq its k/\its.size<=sizeLine/\Vals (ss.map V.str) its.toList
theorem ZSF{K:PySem.W.Frag}{h:Heap}{mg:Str->Option xj}{n:Str}{p:xZ}{od:Option xZ}{sl:Array (Option xj)}{k:Nat}{its:List xj}{ss:List Str}(KX:K.In h)(G:h.Ns vQ mg)(a:PySem.W.nsIn K vQ n=vE (vE (.ref p)))
  (l:K.lookup p=vE ⟨.type "tuple",od,.seq its.toArray k,sl⟩) (hs:its.length<=1000) (v:Vals (ss.map V.str) its):TupG K mg n ss:=
 ⟨p,_,its.toArray,k,PySem.W.mg_of KX G a,l,rfl,rfl,by rw[zY];exact zB hs (by decide),by simpa using v⟩
theorem ZN7{ss:List Str}{pos:Pos}(hg:Gl X x)(h:TupG X.K X.mg x ss)(hd:(x==("__debug__":Str))=vH:=by decide):QE X E (.Name x pos) (dC (.tup (ss.map D.str))):=by obtain⟨p,o,its,k,h1,h2,h3,h4,h5,h6⟩:=h;exact Cq (v:=.ref p) hg h1 rfl (λa ha=>⟨p,ss.map V.str,rfl,.inr ⟨o,its,k,by rw[ha];exact h2,h3,h4,h5,h6⟩,ZIu ss⟩) hd
end
section
variable{S:DSt}{G:DH}
end
section
variable{X:Cx}{vD:List (xZ×Obj)}{σ:St}{H:Hp}{s:xq}{N:List Str}{scope:xY}{caps:List Nat}{x qual:Str}{f:xZ}{cd:xj}{A:xJ}
end
section
variable{X:Cx}{vD:List (xZ×Obj)}{σ:St}{s:xq}{scope:xY}{a:Wd}
end
noncomputable def ltK(ks:List Int)(i j:Nat):Bool:=decide (ks.getD i 0<ks.getD j 0)
section
variable{prog:xK}{w:xw}{A:xJ}{E:xj->xq->Prop}{s:xq}
end
section
variable{X:Cx}{vD:List (xZ×Obj)}{σ:St}{H:Hp}{s:xq}{h':Heap}{m:Str->Option xj}
end
section
variable{X:Cx}{vD:List (xZ×Obj)}{σ:St}{N:List Str}{scope:xY}{caps:List Nat}{x:Str}{f:xZ}{A:xJ}{a:Wd}{S:DSt}{body:xX}{te:DE}{params:Arguments}{pm ctv:xj}{c':xZ}{ob oc:Obj}{vs0:Array xj}{t0:Tok}{E:XK}
 {Dd kS:xZ} {e1:Nat} {m:Str->Option xj} {h₀:Heap} {Q:VK}
end
end DL
namespace DL
open PySem PySem.Spec L2
open PyProof.Rows hiding St
open PySem.W (KatKeys KatFin katRev KatBack)
section
variable{prog:xK}{w:xw}{A:xJ}{E:xj->xq->Prop}{s:xq}{h₀:Heap}{L a kS:xZ}{m:Str->Option xj}{P:PySem.Fin->xq->Prop}
end
end DL
namespace DL
open PySem PySem.Spec L2
open PyProof.Rows hiding St
section
variable{X:Cx}{vD:List (xZ×Obj)}{σ:St}{N:List Str}{scope:xY}{caps:List Nat}{x:Str}{f:xZ}{A:xJ}{a:Wd}{S:DSt}{body:xX}{te:DE}{params:Arguments}{pm ctv:xj}{c':xZ}{ob oc:Obj}{vs0:Array xj}{t0:Tok}
 {Dd kS:xZ} {e1:Nat} {m:Str->Option xj} {h₀:Heap} {Q:VK}
end
section
variable{X:Cx}{vD:List (xZ×Obj)}{σ:St}{N:List Str}{scope:xY}{caps:List Nat}{x:Str}{f:xZ}{A:xJ}{a:Wd}{S:DSt}{body:xX}{te:DE}{params:Arguments}{pm ctv:xj}{c':xZ}{ob oc:Obj}{vs0:Array xj}{t0:Tok}{Q:VK}
end
section
variable{X:Cx}{N:List Str}{scope:xY}{caps:List Nat}{x:Str}{body:xX}{te:DE}{params:Arguments}{e:xX}{tn:DA}{p p' pos pos' lp kp kp' cp:Pos}{C m:Str}{cj:Nat}
end
end DL
namespace DL
open PySem PySem.W L2
variable{h:Heap}{C:xZ}{m x q:Str}{st:xz}{mg:Str->Option xj}
noncomputable def N6:List Obj->Nat->vA
 |[],_=>[]
 |o::r,n=>match o.cls,o.data with
  |.none,.fields _=>N6 r (n+1)
  |_,.freed=>N6 r (n+1)
  |_,_=>(n,o)::N6 r (n+1)
def Ro(h:Heap):vA:=N6 h.objs.toList 0
theorem ZF0{a:xZ}{o:Obj}:∀{l:List Obj}{n:Nat},(N6 l n).lookup a=vE o->n<=a/\l[a-n]?=vE o/\∀x y z,o≠⟨x,y,.freed,z⟩
 |[],n,h=>by cases h
 | p::r,n,h=>by
  have next:(N6 r (n+1)).lookup a=vE o->n<=a/\(p::r)[a-n]?=vE o/\∀x y z,o≠⟨x,y,.freed,z⟩:=λh=>by obtain⟨h1,h2,h3⟩:=ZF0 h;obtain⟨k,rfl⟩:=Nat.exists_eq_add_of_le h1;rw[Nat.add_sub_cancel_left]at h2;refine⟨zB (jk n) h1,?_,h3⟩;rw[show n+1+k-n=k+1 by rw[Nat.add_assoc,Nat.add_sub_cancel_left,Nat.add_comm],jz];exact h2
  unfold N6 at h;split at h
  ·exact next h
  ·exact next h
  ·rename_i hz hf;rw[jQ]at h;split at h
   ·rename_i e;have e':a=n:=by simpa using e
    subst e';cases h;refine⟨zK _,by simp,λx y z q=>?_⟩;subst q;exact hz rfl
   ·exact next h
theorem ZRV(h:Heap):(Ro h).In h:=λa o e=>by
 obtain⟨_,h2,h3⟩:=ZF0 e;have h4:h.objs[a]?=vE o:=by simpa using h2
 unfold Heap.get?;rw[h4];split
 ·rename_i q;cases q;exact absurd rfl (h3 _ _ _)
 ·rfl
noncomputable def Ku(p:xK)(N:Nat)(w:xw):Heap:=match openEnds vK p w N with
 |some s=>s.heap
 |none=>default
def Stays(p:xK)(N:Nat)(w:xw)(h:Heap):Prop:=∀b o,(Ku p N w).get? b=vE o->h.get? b=vE o
theorem Stays.in{p:xK}{N:Nat}{w:xw}(x:Stays p N w h):(Ro (Ku p N w)).In h:=λa o e=>x a o (ZRV _ a o e)
def ZAZ(p:xK)(N:Nat):Hook:=
 ⟨Heap,λs=>s.heap,Ku p N,Stays p N,λw s e b o q=>by rw[show s.heap=Ku p N w from e];exact q,λw h h' x k b o q=>k b o (x b o q)⟩
section
variable{p q:xK}{loose:List Str}{Xt:xq->Bool}{N:Nat}{β:Type}{see:Heap->β}{val:β}
theorem ZOd(E:∀w,(openEnds vK p w N).map (λs=>(openSeen q loose (xL p.main.body) Xt vG s,see s.heap))=vE (openGood q loose,val)):
  LeftO p q loose Xt (ZAZ p N).obs (ZAZ p N).val N:=λw=>by
 obtain⟨s,h1,h2⟩:=zI.mp (E w);show Option.map _ _=vE (openGood q loose,Ku p N w);unfold Ku;rw[h1];show vE (openSeen q loose (xL p.main.body) Xt vG s,s.heap)=_;rw[(Prod.mk.inj h2).1]
theorem ZPx(E:∀w,(openEnds vK p w N).map (λs=>(openSeen q loose (xL p.main.body) Xt vG s,see s.heap))=vE (openGood q loose,val))(w:xw):see (Ku p N w)=val:=by obtain⟨s,h1,h2⟩:=zI.mp (E w);unfold Ku;rw[h1];exact(Prod.mk.inj h2).2
end
noncomputable def dOf(s:xz):DefRec:=match s with
 |Stmt.FunctionDef n a b _ _ _ s _ _ p=>⟨n,a,b,s,p⟩
 |_=>⟨Str.empty,⟨[],[],vF,[],[],vF,[]⟩,[],{kind:=.module,names:=[],isGenerator:=vH,isCoroutine:=vH,more:=[]},⟨0,0,0,0⟩⟩
noncomputable abbrev XtOf(l:OpenLaw)(q:xK)(s:xq):Bool:=xlAt q [] s&&recOk l.row.toRowW.records s
theorem holds_top{l:OpenLaw}{q:xK}{loose:List Str}{N:Nat}{β:Type}{see:Heap->β}{val:β}{d:DefRec}(well:l.wellSaid=vG)
  (E:∀w,(openEnds vK l.prog w N).map (λs=>(openSeen q loose (xL l.prog.main.body) (XtOf l q) vG s,see s.heap))=vE (openGood q loose,val))
  (hdef:defOf q l.row.name=vE (d,[])) (hp:l.row.prog.theDef l.row.name=vE (d.params,d.body,d.scope)) (hk:kwWritten? d.params.kwonlyargs d.params.kw_defaults=vE []) (hwr:(!l.row.writes||l.row.records.isEmpty)=vG)
  (ok:(chainsOk q&&opensWell l.row.prog&&(frees l.row.toRowW&&l.row.within.isEmpty))=vG) (hb:l.row.prog.bare) (hw:l.row.toRowW.promised)
  (call:WalkO q loose (XL q []) (Stays l.prog N) l.row.toRowW d [] λf vs=>PySem.call f vs):l.Holds:=
 holds_law well λsaid=>holds_open (r:=l.row) (q:=q) (loose:=loose) (Xt:=XtOf l q) (XP:=XL q []) (YP:=Stays l.prog N) (N:=N) (ZOd E) (ZAZ l.prog N).of (ZAZ l.prog N).keeps
  (λs e=>xl_of s (jK.mp e).1) XL.keeps hdef hp hk (λs e=>recFacts_of (jK.mp e).2) hwr said ok hb hw call
noncomputable def Bv(K:vA)(n:Str):xZ:=match nsIn K vQ n with
 |some (vE (.ref f))=>f
 |_=>0
noncomputable def gOk(K:vA)(n:Str):Bool:=match nsIn K vQ n with
 |some (vE (.ref _))=>vG
 |_=>vH
theorem ZIh{K:vA}{n:Str}(h:gOk K n=vG):nsIn K vQ n=vE (vE (.ref (Bv K n))):=by
 unfold gOk at h;unfold Bv;split at h
 ·rename_i e;rw[e]
 ·cases h
noncomputable def Hu(K:vA)(C:xZ)(m:Str):xZ:=match findIn K (.ref C) m with
 |some (vE (.ref f))=>f
 |_=>0
noncomputable def mOk(K:vA)(C:xZ)(m:Str):Bool:=match findIn K (.ref C) m with
 |some (vE (.ref f))=>isFn K (.ref f)
 |_=>vH
theorem ZFP{K:vA}(h:mOk K C m=vG):findIn K (.ref C) m=vE (vE (.ref (Hu K C m)))/\isFn K (.ref (Hu K C m))=vG:=by
 unfold mOk at h;unfold Hu;split at h
 ·rename_i e;rw[e];exact⟨rfl,h⟩
 ·cases h
noncomputable def noF(K:vA)(C:xZ)(m:Str):Bool:=match findIn K (.ref C) m with
 |some vF=>vG
 |_=>vH
theorem ZMC{K:vA}(h:noF K C m=vG):findIn K (.ref C) m=vE vF:=by
 unfold noF at h;split at h
 ·assumption
 ·cases h
noncomputable def zOk(K:vA)(n:Str):Bool:=match nsIn K vQ n with
 |some vF=>vG
 |_=>vH
theorem ZMp{K:vA}{n:Str}(h:zOk K n=vG):nsIn K vQ n=vE vF:=by
 unfold zOk at h;split at h
 ·assumption
 ·cases h
noncomputable def ZDs(K:vA)(C:xZ):Bool:=match findIn K (.ref C) "__setattr__" with
 |some (vE (.builtin s))=>s == "object.__setattr__"
 |_=>vH
theorem ZOb{K:vA}(h:ZDs K C=vG):findIn K (.ref C) "__setattr__"=vE (vE (.builtin "object.__setattr__")):=by
 unfold ZDs at h;split at h
 ·rename_i e;rw[e,beq_iff_eq.mp h]
 ·cases h
noncomputable def iOk(K:vA)(n:Str)(v:Int):Bool:=match nsIn K vQ n with
 |some (vE (.int u _))=>decide (u=v)
 |_=>vH
noncomputable def sOk(K:vA)(n:Str)(v:Str):Bool:=match nsIn K vQ n with
 |some (vE (.str u _))=>decide (u=v)
 |_=>vH
noncomputable def Dz(K:vA)(n:Str):Tok:=match nsIn K vQ n with
 |some (vE (.int _ t))=>t
 |some (vE (.str _ t))=>t
 |_=>0
theorem ZLN{K:vA}{n:Str}{v:Int}(h:iOk K n v=vG):nsIn K vQ n=vE (vE (.int v (Dz K n))):=by
 unfold iOk at h;unfold Dz;split at h
 ·rename_i e;rw[e,of_decide_eq_true h]
 ·cases h
theorem ZNF{K:vA}{n:Str}{v:Str}(h:sOk K n v=vG):nsIn K vQ n=vE (vE (.str v (Dz K n))):=by
 unfold sOk at h;unfold Dz;split at h
 ·rename_i e;rw[e,of_decide_eq_true h]
 ·cases h
noncomputable def Ou(K:vA)(f:xZ):Obj:=match K.lookup f with
 |some o=>o
 |none=>⟨.none,vF,.plain,#[]⟩
def Ek(K:vA)(f:xZ):xV:=match(Ou K f).data with
 |.func fd=>fd
 |_=>default
noncomputable def ZSd:xj->Bool
 |.none=>vG
 |_=>vH
noncomputable def ZS3:FuncBody->Option (List xz)
 |.stmts b=>vE b
 |_=>vF
def Wy(K:vA)(x q:Str)(f:xZ):Bool:=match K.lookup f with
 |some ⟨_,_,.func fd,_⟩=>decide (fd.name=x)&&decide (fd.qualname=q)&&(fd.globals==vQ&&fd.builtins==builtinsNs&&fd.closure.isEmpty&&ZSd fd.defaults)&&(codeIn K fd.code q&&keepIn K (.ref f))
 |_=>vH
noncomputable abbrev DefTxt:=Arguments×Option (List xz)×xY
def Wz(K:vA)(f:xZ):DefTxt:=((Ek K f).params,ZS3 (Ek K f).body,(Ek K f).scope)
def Yn(st:xz):DefTxt:=(Jz st,vE (J1 st),Ar st)
abbrev FnSaid(K:vA)(x q:Str)(st:xz)(f:xZ):Prop:=
 K.lookup f=vE ⟨(Ou K f).cls,(Ou K f).dict,.func (fnOf x q (Jz st) (J1 st) (Ar st) .none (Ek K f).kwdefaults (Ek K f).doc (Ek K f).pyModule (Ek K f).annotations (Ek K f).code (Ek K f).closureTuple),(Ou K f).slots⟩/\
  codeIn K (Ek K f).code q=vG/\keepIn K (.ref f)=vG
theorem ZEw{K:vA}{f:xZ}(h:Wy K x q f=vG)(t:Wz K f=Yn st):FnSaid K x q st f:=by
 unfold Wy at h;split at h
 ·rename_i oc od fd sl e;have eo:Ou K f=⟨oc,od,.func fd,sl⟩:=by unfold Ou;rw[e]
  have ef:Ek K f=fd:=by unfold Ek;rw[eo]
  unfold Wz Yn at t;rw[ef]at t;obtain⟨t1,t2⟩:=Prod.mk.inj t;obtain⟨t2,t3⟩:=Prod.mk.inj t2;simp only[zC,decide_eq_true_eq,beq_iff_eq,List.isEmpty_iff]at h;obtain⟨⟨⟨h1,h2⟩,⟨⟨h3,h4⟩,h5⟩,h6⟩,h7,h8⟩:=h;unfold FnSaid;rw[ef,eo,e];refine⟨?_,h7,h8⟩;have h6':fd.defaults=.none:=by
   revert h6
   generalize fd.defaults=df;intro h6
   cases df<;>first|rfl|cases h6
  have h9:fd.body=.stmts (J1 st):=by
   revert t2
   generalize fd.body=bd;intro t2
   cases bd<;>first|(cases t2;rfl)|(cases t2)
  have ef':fd=fnOf x q (Jz st) (J1 st) (Ar st) .none fd.kwdefaults fd.doc fd.pyModule fd.annotations fd.code fd.closureTuple:=by show FuncData.mk fd.name fd.qualname fd.params fd.body fd.scope fd.globals fd.closure fd.defaults fd.kwdefaults fd.doc fd.pyModule fd.annotations fd.code fd.closureTuple fd.builtins=_;rw[h1,h2,t1,h9,t3,h3,h5,h6',h4]
  exact congrArg (λz=>vE (Obj.mk oc od (.func z) sl)) ef'
 ·cases h
noncomputable def strsOf:List xj->Option (List Str)
 |[]=>vE []
 |.str s _::r=>(strsOf r).map (s::·)
 |_::_=>vF
theorem W2:∀{l:List xj}{ss:List Str},strsOf l=vE ss->Vals (ss.map V.str) l
 |[],ss,h=>by cases h;exact .nil
 |v::r,ss,h=>by
  unfold strsOf at h;split at h
  ·rename_i q;cases q
  ·rename_i s t r' q;cases q;obtain⟨ss',h1,rfl⟩:=zI.mp h;exact .cons ⟨_,rfl⟩ (W2 h1)
  ·cases h
def ZDR(K:vA)(n:Str)(vs:List Str):Bool:=match nsIn K vQ n with
 | some (vE (.ref p))=>(match K.lookup p with
   |some ⟨.type t,_,.seq its _,_⟩=>t == "tuple"&&decide (strsOf its.toList=vE vs)&&Nat.ble its.toList.length 1000
   |_=>vH)
 |_=>vH
abbrev GtSaid(K:vA)(n:Str)(vs:List Str):Prop:=∃(p:xZ)(od:Option xZ)(sl:Array (Option xj))(k:Nat)(its:List xj),nsIn K vQ n=vE (vE (.ref p))/\K.lookup p=vE ⟨.type "tuple",od,.seq its.toArray k,sl⟩/\its.length<=1000/\Vals (vs.map V.str) its
theorem ZPj{K:vA}{n:Str}{vs:List Str}(h:ZDR K n vs=vG):GtSaid K n vs:=by
 unfold ZDR at h;split at h
 ·rename_i p e;split at h
  ·rename_i t od its k sl e2;simp only[zC,beq_iff_eq,decide_eq_true_eq]at h;obtain⟨⟨rfl,h2⟩,h3⟩:=h;exact⟨p,od,sl,k,its.toList,e,by rw[e2],Nat.le_of_ble_eq_true h3,W2 h2⟩
  ·cases h
 ·cases h
theorem ZSV{K:vA}{n:Str}{vs:List Str}(X:K.In h)(G:h.Ns vQ mg)(s:GtSaid K n vs):TupG K mg n vs:=by obtain⟨p,od,sl,k,its,h1,h2,h3,h4⟩:=s;exact ZSF X G h1 h2 h3 h4
def ZAw(K:vA)(n:Str)(kvs:List (Str×Str)):Bool:=match nsIn K vQ n with
 | some (vE (.ref p))=>(match K.lookup p with
   |some ⟨.type t,_,.dict es _,_⟩=>t == "dict" && !(p==sysModules)&&decide (strsOf (es.toList.map (·.key))=vE (kvs.map (·.1)))&&decide (strsOf (es.toList.map (·.val))=vE (kvs.map (·.2)))
   |_=>vH)
 |_=>vH
abbrev GdSaid(K:vA)(n:Str)(kvs:List (Str×Str)):Prop:=∃(p:xZ)(od:Option xZ)(sl:Array (Option xj))(k:Nat)(es:Array DictEntry),nsIn K vQ n=vE (vE (.ref p))/\K.lookup p=vE ⟨.type "dict",od,.dict es k,sl⟩/\(p==sysModules)=vH/\Vals ((kvs.map (·.1)).map V.str) (es.toList.map (·.key))/\Vals ((kvs.map (·.2)).map V.str) (es.toList.map (·.val))
theorem ZQr{K:vA}{n:Str}{kvs:List (Str×Str)}(h:ZAw K n kvs=vG):GdSaid K n kvs:=by
 unfold ZAw at h;split at h
 ·rename_i p e;split at h
  ·rename_i t od es k sl e2;simp only[zC,beq_iff_eq,decide_eq_true_eq,Bool.not_eq_true']at h;obtain⟨⟨⟨rfl,h2⟩,h3⟩,h4⟩:=h;exact⟨p,od,sl,k,es,e,by rw[e2],h2,W2 h3,W2 h4⟩
  ·cases h
 ·cases h
inductive Ask where
 |fn (n:Str) (st:xz)
 |mt (c m q:Str) (st:xz)
 |cl (c:Str)
 |no (c x:Str)
 |z (n:Str)
 |gi (n:Str) (v:Int)
 |gs (n v:Str)
 |gt (n:Str) (vs:List Str)
 |gd (n:Str) (kvs:List (Str×Str))
def Ask.chk(K:vA):Ask->Bool
 |.fn n _=>gOk K n&&Wy K n n (Bv K n)
 |.mt c m q _=>mOk K (Bv K c) m&&Wy K m q (Hu K (Bv K c) m)
 |.cl c=>gOk K c&&(plainGet K (Bv K c) Str.empty&&hasDictIn K (Bv K c)&&plainOver K (Bv K c))&&(ZDs K (Bv K c)&&makesIn K (Bv K c)&&keepIn K (.ref (Bv K c)))
 |.no c x=>noF K (Bv K c) x
 |.z n=>zOk K n
 |.gi n v=>iOk K n v
 |.gs n v=>sOk K n v
 |.gt n vs=>ZDR K n vs
 |.gd n kvs=>ZAw K n kvs
def Ask.txt(K:vA):Ask->Option DefTxt
 |.fn n _=>vE (Wz K (Bv K n))
 |.mt c m _ _=>vE (Wz K (Hu K (Bv K c) m))
 |_=>vF
def Ask.want:Ask->Option DefTxt
 |.fn _ st=>vE (Yn st)
 |.mt _ _ _ st=>vE (Yn st)
 |_=>vF
def Ask.Said(K:vA):Ask->Prop
 |.fn n st=>nsIn K vQ n=vE (vE (.ref (Bv K n)))/\FnSaid K n n st (Bv K n)
 |.mt c m q st=>findIn K (.ref (Bv K c)) m=vE (vE (.ref (Hu K (Bv K c) m)))/\isFn K (.ref (Hu K (Bv K c) m))=vG/\FnSaid K m q st (Hu K (Bv K c) m)
 | .cl c=>nsIn K vQ c=vE (vE (.ref (Bv K c)))/\plainGet K (Bv K c) Str.empty=vG/\hasDictIn K (Bv K c)=vG/\plainOver K (Bv K c)=vG/\
   findIn K (.ref (Bv K c)) "__setattr__"=vE (vE (.builtin "object.__setattr__"))/\makesIn K (Bv K c)=vG/\keepIn K (.ref (Bv K c))=vG
 |.no c x=>findIn K (.ref (Bv K c)) x=vE vF
 |.z n=>nsIn K vQ n=vE vF
 |.gi n v=>nsIn K vQ n=vE (vE (.int v (Dz K n)))
 |.gs n v=>nsIn K vQ n=vE (vE (.str v (Dz K n)))
 |.gt n vs=>GtSaid K n vs
 |.gd n kvs=>GdSaid K n kvs
theorem Ask.said{K:vA}:∀{a:Ask},a.chk K=vG->a.txt K=a.want->a.Said K
 |.fn n st,h,t=>by obtain⟨h1,h2⟩:=jK.mp h;exact⟨ZIh h1,ZEw h2 (Option.some.inj t)⟩
 |.mt c m q st,h,t=>by obtain⟨h1,h2⟩:=jK.mp h;exact⟨(ZFP h1).1,(ZFP h1).2,ZEw h2 (Option.some.inj t)⟩
 |.cl c,h,_=>by simp only[Ask.chk,zC]at h;obtain⟨⟨h1,⟨h2,h3⟩,h4⟩,⟨h5,h6⟩,h7⟩:=h;exact⟨ZIh h1,h2,h3,h4,ZOb h5,h6,h7⟩
 |.no c x,h,_=>ZMC h
 |.z n,h,_=>ZMp h
 |.gi n v,h,_=>ZLN h
 |.gs n v,h,_=>ZNF h
 |.gt n vs,h,_=>ZPj h
 |.gd n kvs,h,_=>ZQr h
def AllSaid(K:vA):List Ask->Prop
 |[]=>True
 |a::r=>a.Said K/\AllSaid K r
theorem ZHa{K:vA}:∀{l:List Ask},(l.all (Ask.chk K),l.map (Ask.txt K))=(vG,l.map Ask.want)->AllSaid K l
 |[],_=>trivial
 |a::r,h=>by obtain⟨h1,h2⟩:=Prod.mk.inj h;rw[qB]at h1;obtain⟨h3,h4⟩:=jK.mp h1;rw[zk,zk]at h2;obtain⟨h5,h6⟩:=List.cons.inj h2;exact⟨Ask.said h3 h5,ZHa (by rw[h4,h6])⟩
def Rf(l:List Ask)(h:Heap):Bool×List (Option DefTxt):=(l.all (Ask.chk (Ro h)),l.map (Ask.txt (Ro h)))
noncomputable abbrev Sg(l:List Ask):Bool×List (Option DefTxt):=(vG,l.map Ask.want)
theorem ZRr{K:vA}{a:Str}{f:xZ}{fd:xV}{s:xq}{v:xj}(F:Fun K x q st f fd)
  (h:∀(kV doc pm:xj)(an:Option xZ)(cdv ct:xj)(u:xj),bindArgs (fnOf x q (Jz st) (J1 st) (Ar st) .none kV doc pm an cdv ct) ⟨[u],[]⟩=pure [(a,u)]):BindsTo s fd ⟨[v],[]⟩ [(a,v)]:=by
 obtain⟨oc,od,kV,doc,pm,an,cdv,ct,osl,rfl,lk,hcd⟩:=F.ex;exact .of_eq (h kV doc pm an cdv ct v)
noncomputable def Zy(p:xK)(w:xw)(n₀:Nat)(ann:Option xj):Nat->SharedT->Thread->Option SharedT
 |0,_,_=>vF
 | n+1,s,t=>match through t with
  |true=>vE s
  | false=>match PySem.W.Fast.tw6613529449190102663 n₀ ann t with
   |false=>vF
   |true=>match PySem.W.Fast.tw10156331382660048174 (PySem.W.Fast.tw11892475500146522536 PySem.W.Fast.tw14364793385576792824) p w s t with
    |some (s',t')=>Zy p w n₀ ann n s' t'
    |none=>vF
theorem ZGe{p:xK}{w:xw}{n₀:Nat}{ann:Option xj}:∀{n:Nat}{s s':SharedT}{t:Thread},Zy p w n₀ ann n s t=vE s'->topRun vK p w n₀ ann n s.abs t=vE s'.abs
 |0,_,_,_,h=>by cases h
 | n+1,s,s',t,h=>by
  unfold Zy at h;unfold topRun;rw[<-PySem.W.Fast.te6613529449190102663,<-PySem.W.Fast.te10156331382660048174,<-PySem.W.Fast.te11892475500146522536,<-PySem.W.Fast.te14364793385576792824]at h;cases ht:through t with
  |true=>
   rw[ht]at h;cases h
   rfl
  | false=>
   rw[ht]at h;dsimp only at h⊢;cases ho:stepOk n₀ ann t with
   |false=>rw[ho]at h;cases h
   |true=>
    rw[ho]at h;dsimp only at h⊢;split at h
    ·rename_i s2 t2 e;rw[stepT_spec e];exact ZGe h
    ·cases h
noncomputable def ZGd:List Obj->Nat->BT->BT
 |[],_,t=>t
 |o::r,n,t=>ZGd r (n+1) (t.ins n o)
def ZJZ(w:xw)(os:OsState):SharedT:=⟨ZGd (vB w.params).objs.toList 0 .nil,(vB w.params).objs.size,(vB w.params).life,Array.mk [],boot_drawn,boot_toks,os⟩
theorem boot_abs:∀w os,(ZJZ w os).abs=⟨vB w.params,Array.mk [],boot_drawn,boot_toks,os⟩:=λw os=>by kernel_rfl
theorem ZQ8:∀w:xw,((vB w.params).isNs vQ&&(Array.mk []:Array GenState).size==0)=vG:=λw=>by kernel_rfl
def Tc(p:xK)(w:xw)(os:OsState):Option SharedT:=Zy p w (vB w.params).objs.size (PySem.W.Fast.tw8920871248978507458 (vB w.params) vQ "__annotations__") 100000 (ZJZ w os) (topStub p)
noncomputable def Tj(p:xK)(w:xw)(s:xq):Bool:=staticsOk (PySem.W.Fast.tw5923862056798008813 p.main.body) (vB w.params) s.heap&&namesBound p s.heap&&gensDone s&&laidKept (vB w.params) s.heap
theorem ZPA{p q:xK}{loose:List Str}{Xt:xq->Bool}{β:Type}{see:Heap->β}{val:β}(e:opening p=plainProg p.main.scope.names)(f:∀s,fenceModules? p s=vE s)
  (R:∀w os,(Tc p w os).map (λs=>(Tj p w s.abs,PySem.W.Fast.tw4187177175401517315 q loose (PySem.W.Fast.tw5923862056798008813 p.main.body) Xt vG s.abs,see s.abs.heap))=vE (vG,openGood q loose,val)):
  ∀w,(openEnds vK p w 100000).map (λs=>(openSeen q loose (xL p.main.body) Xt vG s,see s.heap))=vE (openGood q loose,val):=λw=>by
 obtain⟨⟨h,gs,d,k,os⟩,h0,e0⟩:=zI.mp (boot_open (N:=100000) e rfl f w);obtain⟨rfl,rfl,rfl,rfl⟩:h=vB w.params/\gs=Array.mk []/\d=boot_drawn/\k=boot_toks:=by simpa using e0
 obtain⟨s,h1,h2⟩:=zI.mp (R w os);obtain⟨h3,h4⟩:=Prod.mk.inj h2;obtain⟨h4,h5⟩:=Prod.mk.inj h4;unfold Tc at h1;have r:=ZGe h1;rw[boot_abs,<-PySem.W.Fast.te8920871248978507458]at r;rw[<-PySem.W.Fast.te4187177175401517315,<-PySem.W.Fast.te5923862056798008813]at h4;unfold Tj at h3;rw[<-PySem.W.Fast.te5923862056798008813]at h3;have t:topFrom vK p w 100000 ⟨vB w.params,Array.mk [],boot_drawn,boot_toks,os⟩=vE s.abs:=by
  unfold topFrom;dsimp only;rw[ZQ8,r]
  show(match staticsOk (xL p.main.body) (vB w.params) s.abs.heap&&namesBound p s.abs.heap&&gensDone s.abs&&laidKept (vB w.params) s.abs.heap with |true=>_|false=>_)=_
  rw[h3]
 unfold openEnds;rw[h0];show(topFrom vK p w 100000 _).map _=_;rw[t];exact congrArg vE (Prod.ext h4 h5)
theorem ZNQ{l:OpenLaw}(h:PySem.W.Fast.tw9446332074065402090 l=vG):l.wellSaid=vG:=by rw[PySem.W.Fast.te9446332074065402090];exact h
structure FT (K:vA) (mg:Str->Option xj) (n:Str) (st:xz) (ps:List Str):Prop where
 F:Fun K n n st (Bv K n) (Ek K (Bv K n))
 b:Binds K (Ek K (Bv K n)) ps []
 m:mg n=vE (.ref (Bv K n))
 k:keepIn K (.ref (Bv K n))=vG
structure MT (K:vA) (c m q:Str) (st:xz) (ps:List Str):Prop where
 F:Fun K m q st (Hu K (Bv K c) m) (Ek K (Hu K (Bv K c) m))
 b:Binds K (Ek K (Hu K (Bv K c) m)) ps []
 me:Meth K (Bv K c) m (Hu K (Bv K c) m)
structure CT (K:vA) (mg:Str->Option xj) (c:Str):Prop where
 N:nsIn K vQ c=vE (vE (.ref (Bv K c)))
 cl:Cls K (Bv K c)
 g:mg c=vE (.ref (Bv K c))
 mK:Mk K (Bv K c) (Hu K (Bv K c) "__init__")
theorem Rg{K:vA}{f:xZ}(s:FnSaid K x q st f):Fun K x q st f (Ek K f):=by
 have e:Ek K f=fnOf x q (Jz st) (J1 st) (Ar st) .none (Ek K f).kwdefaults (Ek K f).doc (Ek K f).pyModule (Ek K f).annotations (Ek K f).code (Ek K f).closureTuple:=by
  have h:=s.1
  conv=>lhs;unfold Ek Ou;rw[h]
 exact⟨⟨_,_,_,_,_,_,_,_,_,e,by rw[e];exact s.1,s.2.1⟩,s.2.2⟩
theorem Cr{K:vA}{n:Str}{ps:List Str}(X:K.In h)(G:h.Ns vQ mg)(s:Ask.Said K (.fn n st))
  (hb:∀(kV doc pm:xj)(an:Option xZ)(cdv ct:xj)(us:List xj),us.length=ps.length->bindArgs (fnOf n n (Jz st) (J1 st) (Ar st) .none kV doc pm an cdv ct) ⟨us,[]⟩=pure (ps.zip us)):FT K mg n st ps:=
 ⟨Rg s.2,(Rg s.2).binds hb,mg_of X G s.1,s.2.2.2⟩
theorem O3{K:vA}{c:Str}{ps:List Str}(s:Ask.Said K (.mt c m q st))
  (hb:∀(kV doc pm:xj)(an:Option xZ)(cdv ct:xj)(us:List xj),us.length=ps.length->bindArgs (fnOf m q (Jz st) (J1 st) (Ar st) .none kV doc pm an cdv ct) ⟨us,[]⟩=pure (ps.zip us)):MT K c m q st ps:=
 ⟨Rg s.2.2,(Rg s.2.2).binds hb,s.1,s.2.1,s.2.2.2.2⟩
theorem ZOi{K:vA}{c:Str}(X:K.In h)(G:h.Ns vQ mg)(s:Ask.Said K (.cl c))(i:Ask.Said K (.mt c "__init__" q st)):CT K mg c:=
 ⟨s.1,⟨s.2.1,s.2.2.1,s.2.2.2.1,s.2.2.2.2.1⟩,mg_of X G s.1,s.2.2.2.2.2.1,i.1,i.2.1,s.2.2.2.2.2.2⟩
abbrev FnO(P:xK)(w:xw)(K:vA)(mg:Str->Option xj)(base:Heap)(k:Nat)(n:Str)(ps:List Str)(F:List D->DH->R D):Prop:=FnOk P w K mg base CX0 k (Bv K n) (Ek K (Bv K n)) ps (lF K F)
abbrev MtO(P:xK)(w:xw)(K:vA)(mg:Str->Option xj)(base:Heap)(k:Nat)(c m:Str)(ps:List Str)(F:List D->DH->R D):Prop:=FnOk P w K mg base CX0 k (Hu K (Bv K c) m) (Ek K (Hu K (Bv K c) m)) ps (lF K F)
theorem ZTG{K:vA}{fd:xV}{s:xq}{v:xj}{a:Str}{f:xZ}(F:Fun K x q st f fd)
  (h:∀(kV doc pm:xj)(an:Option xZ)(cdv ct:xj)(u:xj),bindArgs (fnOf x q (Jz st) (J1 st) (Ar st) .none kV doc pm an cdv ct) ⟨[u],[]⟩=pure [(a,u)]:=by intros;rfl):BindsTo s fd ⟨[v],[]⟩ [(a,v)]:=ZRr F h
end DL
namespace DL
open PySem PySem.Spec L2
open PyProof.Rows hiding St
variable{x:Str}{es:Array DictEntry}{a:Wd}{d:D}
section
variable{prog:xK}{w:xw}{A:xJ}{E:xj->xq->Prop}{s:xq}
def strAt(es:Array DictEntry)(x:Str):Option xj:=(es.findIdx? λe=>e.key.isStr x).bind λi=>es[i]?.map (·.val)
theorem ZKE{v:xj}(h:v.isStr x=vG):∃t,v=.str x t:=by
 cases v<;>first
  |(rename_i y t;unfold Value.isStr at h;exact⟨t,by rw[of_decide_eq_true h]⟩)
  |(rename_i y t;simp[Value.isStr]at h;exact⟨t,by rw[h]⟩)
  |cases h
theorem ZIA{d:xZ}{o:Obj}{ep}{t:Tok}{Q:Option xj->xq->Prop}(ho:s.heap.get? d=vE o)(hd:o.data=.dict es ep)
  (hall:(es.all λe=>isExactStrKey e.key)=vG) (h:Q (strAt es x) {s with toks:=s.toks+1}):
  vY (vZ prog w) A (dictGet d (.str x t)) Q E s:=by
 unfold strAt at h;unfold dictGet
 try with_reducible refine vk ?_
 refine vz (wpAny_pyHash_str (vz ?_));unfold dictFind
 try with_reducible refine vk ?_
 refine vz (wpAny_dictEntries (s:={s with toks:=s.toks+1}) ho hd ?_);dsimp only;rw[if_pos hall];unfold foundByValue;cases hf:es.findIdx? (λe=>e.key.isStr x)with
 |none=>rw[hf]at h;exact v7 (v7 h)
 |some i=>
  rw[hf]at h;obtain⟨hlt,hi,_⟩:=Array.findIdx?_eq_some_iff_getElem.mp hf;obtain⟨u,hu⟩:=ZKE hi;simp only[Array.getElem?_eq_getElem hlt]at h⊢;rw[hu];refine vz (wpAny_dictEpoch (s:={s with toks:=s.toks+1}) ho hd (vz (wpAny_eqBool_str (vz (wpAny_dictEpoch (s:={s with toks:=s.toks+1}) ho hd ?_)))));show vY _ _ (if(ep != ep)=vG then _ else _) _ E _;rw[if_neg (by simp),decide_eq_true rfl]
  refine vz (wpAny_rule (v7 ?_));exact vz (wpAny_dictEntries (s:={s with toks:=s.toks+1}) ho hd (v7 (by simpa[Array.getElem?_eq_getElem hlt]using h)))
theorem ZNn{d:xZ}{o:Obj}{ep}{t:Tok}{v:xj}{Q:xj->xq->Prop}(ho:s.heap.get? d=vE o)(hc:o.cls=.type "dict")(hd:o.data=.dict es ep)
  (hall:(es.all λe=>isExactStrKey e.key)=vG) (hv:strAt es x=vE v) (h:Q v {s with toks:=s.toks+1}):vY (vZ prog w) A (getItem (.ref d) (.str x t)) Q E s:=by
 have hT:s.TypeIs (.ref d) "dict":=⟨o,ho,hc⟩;unfold getItem
 try with_reducible refine vk ?_
 refine vz (wpAny_sequenceKey hT (by decide) ?_);refine vz (vj (name:=Str.ofString "__getitem__") hT slot_dict_getitem
  (vx slot_dict_getitem hT entry_dict_getitem ?_ (args_dict_getitem _ _)))
 show vY _ _ (dictGet d (.str x t) >>=_) _ _ s;refine vz (ZIA ho hd hall ?_);rw[hv];exact v7 ⟨v,rfl,v7 h⟩
theorem ZQm{d:xZ}{o:Obj}{ep}{t:Tok}{Q:xj->xq->Prop}(hds:(d==sysModules)=vH)(ho:s.heap.get? d=vE o)(hc:o.cls=.type "dict")(hd:o.data=.dict es ep)
  (hall:(es.all λe=>isExactStrKey e.key)=vG) (h:Q (.bool (!(strAt es x).isSome)) {s with toks:=s.toks+1}):vY (vZ prog w) A (xI .NotIn (.str x t) (.ref d)) Q E s:=by
 have hT:s.TypeIs (.ref d) "dict":=⟨o,ho,hc⟩
 show vY _ _ (do return .bool (!(<-contains (.ref d) (.str x t)))) Q E s
 refine vz ?_;unfold contains
 try with_reducible refine vk ?_
 refine vz (wpAny_specialOf hT slot_dict_contains.lookup ?_);show vY _ _ (if(vE (Value.builtin "dict.__contains__")==vE Value.none)=vG then _ else _) _ E s;rw[if_neg (by rw[beq_builtin_none];exact zy)];refine vz (wpAny_callSpecialUnlessNone?_slot (name:=Str.ofString "__contains__") hT slot_dict_contains
  (vx slot_dict_contains hT entry_dict_contains ?_ (args_dict_contains _ _)))
 show vY _ _ (dictGet d (.str x t) >>=_) _ _ s;refine vz (ZIA ho hd hall ?_);cases hf:strAt es x with
 |some v=>
  rw[hf]at h;show vY _ _ (ret (.bool vG)) _ _ _;exact v7 ⟨_,rfl,v9 (v7 h)⟩
 |none=>
  rw[hf]at h;show vY _ _ (Builtin.Dict.pendingKey? d (.str x t) >>=_) _ _ _;exact vz (wpAny_pendingKey_other hds (v7 ⟨_,rfl,v9 (v7 h)⟩))
end
theorem strAt_eq:strAt es x=(es.toList.find? λe=>e.key.isStr x).map (·.val):=by
 obtain⟨l⟩:=es;have e:=findBy_of_findIdx? (λ(x:Str)(v:xj)=>v.isStr x) ⟨l⟩ x;unfold findBy at e;rw[<-Array.find?_toList]at e;unfold strAt;rw[e]
 cases(Array.findIdx? (λe=>e.key.isStr x) ⟨l⟩)<;>rfl
def AtT(kvs:List (Str×Str))(es:Array DictEntry):Prop:=∀x,(kvs.lookup x=vF/\strAt es x=vF)∨∃v t,kvs.lookup x=vE v/\strAt es x=vE (.str v t)
theorem ZHM:∀{kvs:List (Str×Str)}{es:List DictEntry},Vals ((kvs.map (·.1)).map V.str) (es.map (·.key))->Vals ((kvs.map (·.2)).map V.str) (es.map (·.val))->(es.all λe=>isExactStrKey e.key)=vG/\
  ∀x,(kvs.lookup x=vF/\(es.find? λe=>e.key.isStr x).map (·.val)=vF)∨∃v t,kvs.lookup x=vE v/\(es.find? λe=>e.key.isStr x).map (·.val)=vE (.str v t)
 |[],[],_,_=>⟨rfl,λ_=>.inl ⟨rfl,rfl⟩⟩
 |[],e::es,h,_=>by cases h
 |(k,v)::kvs,[],h,_=>by cases h
 | (k,v)::kvs,⟨hs,ke,va⟩::es,h1,h2=>by
  cases h1 with
  | cons p1 q1=>cases h2 with
   | cons p2 q2=>
    obtain⟨t1,rfl⟩:=p1;obtain⟨t2,rfl⟩:=p2;obtain⟨ih1,ih2⟩:=ZHM q1 q2;refine⟨by rw[qB,ih1];rfl,λx=>?_⟩;by_cases hx:x=k
    ·subst hx;exact .inr ⟨v,t2,by simp[qS],by simp[qV,Value.isStr]⟩
    ·have hx':¬k=x:=λz=>hx z.symm
     have b1:(x==k)=vH:=by simpa using hx
     have b2:(Value.str k t1).isStr x=vH:=by
      cases h:(Value.str k t1).isStr x with
      |false=>rfl
      |true=>obtain⟨t,e⟩:=ZKE h;cases e;exact absurd rfl hx'
     rw[qS,b1,qV];simp only[b2];exact ih2 x
structure DctAt (K:PySem.W.Frag) (p:xZ) (kvs:List (Str×Str)):Prop where
 ex:∃(o:Obj)(es:Array DictEntry)(ep:Nat),(p==sysModules)=vH/\K.lookup p=vE o/\o.cls=.type "dict"/\o.data=.dict es ep/\(es.all λe=>isExactStrKey e.key)=vG/\AtT kvs es
def DctG(K:PySem.W.Frag)(mg:Str->Option xj)(n:Str)(kvs:List (Str×Str)):Prop:=∃p,mg n=vE (.ref p)/\DctAt K p kvs
theorem ZTO{K:PySem.W.Frag}{h:Heap}{mg:Str->Option xj}{n:Str}{kvs:List (Str×Str)}(X:K.In h)(G:h.Ns vQ mg)(s:GdSaid K n kvs):DctG K mg n kvs:=by obtain⟨p,od,sl,k,es,h1,h2,h3,h4,h5⟩:=s;obtain⟨q1,q2⟩:=ZHM h4 h5;exact⟨p,PySem.W.mg_of X G h1,⟨_,es,k,h3,h2,rfl,rfl,by rw[<-Array.all_toList];exact q1,λx=>by rw[strAt_eq];exact q2 x⟩⟩
noncomputable def Qa(kvs:List (Str×Str)):D->DH->R D
 |.str x,G=>match kvs.lookup x with
  |some v=>.ok (.str v) G
  |none=>.bad
 |_,_=>.bad
noncomputable def Tw(kvs:List (Str×Str)):D->DH->R D
 |.str x,G=>.ok (.bl (!(kvs.lookup x).isSome)) G
 |_,_=>.bad
section
variable{X:Cx}{E:XK}{p:xZ}{kvs:List (Str×Str)}{x:Str}{a:xX}{ta:DE}{np pos:Pos}
theorem ix_g(D:DctAt X.K p kvs):IxR X (λx y H Q=>∃k v,x=.ref p/\y=.str k/\kvs.lookup k=vE v/\Q (.str v) H):=by
 intro value slice vD s σ H x y v u Q I rx ry h hs;obtain⟨k,w,rfl,rfl,hl,q⟩:=h;obtain rfl:v=Value.ref p:=rx;obtain⟨t,rfl⟩:=ry;obtain⟨o,es,ep,hds,hK,hc,hd,ha,hat⟩:=D.ex;have ho:=I.kIn _ _ hK;have hT:s.TypeIs (.ref p) "dict":=⟨o,ho,hc⟩;obtain⟨v',t',hv⟩:∃v' t',strAt es k=vE (.str v' t')/\v'=w:=by
  rcases hat k with⟨z,_⟩|⟨v',t',z,z'⟩
  ·rw[hl]at z;cases z
  ·rw[hl]at z;cases z;exact⟨_,t',z',rfl⟩
 obtain⟨hv,rfl⟩:=hv;unfold subscriptTail;refine vz ?_;rw[getitemInPython_of_ne hT.not_modules];refine vz (wpAny_specialOf hT PySem.F.slot_dict_getitem.lookup ?_);have fin:vY (vZ X.prog X.w) X.A (subscripted slice vH (.ref p) (.str k t)) (λr s₃=>vY (vZ X.prog X.w) X.A (letTemporaryGo value (.ref p) r >>=λ_=>pure r) (EP X vD σ Q) X.xe s₃) X.xe s:=by rw[hs];exact wpAny_operating (ZNn ho hc hd ha hv (vz (wpAny_letTemporaryGo (v7 ⟨.str v',H,I.tok _,⟨_,rfl⟩,q⟩))))
 first
  |exact v7 (vz fin)
  |exact vz (v7 (vz fin))
  |exact vz fin
theorem ZPD(D:DctAt X.K p kvs):OpR X (xI .NotIn) (λy x H Q=>∃k,x=.ref p/\y=.str k/\Q (.bl (!(kvs.lookup k).isSome)) H):=by
 intro vD s σ H y x v u Q I ry rx ⟨k,ex,ey,q⟩;subst ex ey;obtain rfl:u=Value.ref p:=rx;obtain⟨t,rfl⟩:=ry;obtain⟨o,es,ep,hds,hK,hc,hd,ha,hat⟩:=D.ex;refine ZQm hds (I.kIn _ _ hK) hc hd ha ⟨.bl (!(kvs.lookup k).isSome),H,I.tok _,?_,q⟩;rcases hat k with⟨z,z'⟩|⟨v',t',z,z'⟩
 ·rw[z,z'];rfl
 ·rw[z,z'];rfl
theorem ZOw(hg:Gl X x)(h:DctG X.K X.mg x kvs)(ha:QE X E a ta)(hs:PlainIx a:=by intro _ _;rfl)(hd:(x==("__debug__":Str))=vH:=by decide):QE X E (.Subscript (.Name x np) a pos) (dUn (Qa kvs) ta):=by
 obtain⟨p,hm,D⟩:=h;refine(ZGp (ix_g D) (ZAt (v:=.ref p) hg hm rfl hd) ha hs).mono λσ H Q h=>?_
 obtain⟨a,S,G,hk,rfl,s,r,h⟩:=h;refine⟨a,S,G,hk,rfl,s,r,(Gq h).imp ?_⟩;rintro v _ ⟨b,d,G1,rfl,y,s1,q1,_,h1⟩;cases d with
 |str k=>
  cases(show v=.str k from q1)
  unfold Qa at h1;dsimp only at h1;split at h1
  ·rename_i w hw;exact⟨k,w,rfl,rfl,hw,h1 b _ (Ext.refl b) s1 rfl⟩
  ·exact h1.elim
 |_=>exact h1.elim
theorem ZTF{σ:St}{H:Hp}{Q:VK}(h:lE X.K E (dUn (Tw kvs) ta) σ H Q):tOp (λy x H Q=>∃k,x=.ref p/\y=.str k/\Q (.bl (!(kvs.lookup k).isSome)) H) (lE X.K E ta) (tC (.ref p)) σ H Q:=by
 obtain⟨a,S,G,hk,rfl,s,r,h⟩:=h;refine⟨a,S,G,hk,rfl,s,r,(Gq h).imp ?_⟩;rintro v _ ⟨b,d,G1,rfl,y,s1,q1,_,h1⟩;cases d with
 |str k=>
  cases(show v=.str k from q1)
  exact⟨k,rfl,rfl,h1 b _ (Ext.refl b) s1 rfl⟩
 |_=>exact h1.elim
theorem ZLD(hg:Gl X x)(h:DctG X.K X.mg x kvs)(ha:QE X E a ta)(hm:xC .NotIn (.Name x np)=vH)(hd:(x==("__debug__":Str))=vH:=by decide):QT X E (.Compare a [.NotIn] [.Name x np] pos) (Ax (dUn (Tw kvs) ta)):=by obtain⟨p,hp,D⟩:=h;exact(ZKH (ZPD D) ha (ZAt (v:=.ref p) hg hp rfl hd) hm).mono λσ H Q h=>ZB2 (λ_ _ _ z=>ZTF z) σ H Q (Vc h)
end
def Ik(kvs more:List (Key×D)):List (Key×D):=more.foldl (λacc kv=>putD acc kv.1 kv.2) kvs
theorem RepKV.merge:∀{more:List (Key×D)}{ms:List (Key×V)}{kvs:List (Key×D)}{us:List (Key×V)},RepKV a more ms->RepKV a kvs us->RepKV a (Ik kvs more) (Oh us ms)
 |[],ms,kvs,us,h,r=>by have:ms=[]:=jq.mp h.1.symm;subst this;exact r
 |(k,d)::more,ms,kvs,us,h,r=>by obtain⟨v,ms',rfl,h1,h2⟩:=RepKV.cons h;exact RepKV.merge (more:=more) (ms:=ms') h2 (r.put (k:=k) h1)
noncomputable def Ef:D->Option V
 |.int i=>vE (.int i)
 |.str x=>vE (.str x)
 |_=>vF
theorem ZPR{v w:V}(h:Ef d=vE w)(r:Rep a d v):v=w:=by
 cases d<;>first
  |(cases h;exact r)
  |cases h
theorem ZPv{w:V}(h:Ef d=vE w):Rep a d w:=by
 cases d<;>first
  |(cases h;rfl)
  |cases h
def Ur(kvs:List (Str×D)):DE:=λ_ G=>.ok (.ref G.length) (G++[.dct (Ik [] (kvs.map λkv=>(.inr kv.1,kv.2)))])
section
variable{X:Cx}{E:XK}{pos:Pos}
def QPs(X:Cx)(E:XK)(pos:Pos)(keys:List (Option xX))(values:List xX)(kvs:List (Str×D)):Prop:=PPs X pos keys values (kvs.map λkv=>(tC (.str kv.1),lE X.K E (dC kv.2)))
theorem ZJU:QPs X E pos [] [] []:=ZL1
theorem K1{j:Nat}{p:Pos}{v:xX}{ks:List (Option xX)}{vs:List xX}{kvs:List (Str×D)}(hv:QE X E v (dC d))(hr:QPs X E pos ks vs kvs):QPs X E pos (vE (.Constant (.str x) j p)::ks) (v::vs) ((x,d)::kvs):=ZR0 ZJo hv hr
theorem ZKC{S:DSt}{σ:St}{G0:DH}{a0:Wd}:∀{kvs:List (Str×D)}{ws:List V}{b:Wd}{Q:List (V×V)->Hp->Prop},kvs.map (λkv=>Ef kv.2)=ws.map vE->b.K=X.K->Ext a0 b->Sim b G0->RepS b S σ->
  (∀c,Ext a0 c->Sim c G0->Q ((kvs.map λkv=>V.str kv.1).zip ws) c.H)->Yj (kvs.map λkv=>(tC (.str kv.1),lE X.K E (dC kv.2))) σ b.H Q
 |[],ws,b,Q,hw,hk,hx,hs,hr,h=>h b hx hs
 |(x,d)::kvs,[],b,Q,hw,hk,hx,hs,hr,h=>by cases hw
 |(x,d)::kvs,w::ws,b,Q,hw,hk,hx,hs,hr,h=>by rw[zk,zk]at hw;obtain⟨h1,h2⟩:=List.cons.inj hw;refine⟨b,S,G0,hk,rfl,hs,hr,λc v xc sc rc=>?_⟩;obtain rfl:=ZPR h1 rc;exact ZKC h2 (xc.k.trans hk) (hx.trans xc) sc (hr.mono xc) λc' x' s'=>h c' x' s'
theorem ZIV:∀{kvs:List (Str×D)},(kvs.all λkv=>(Ef kv.2).isSome)=vG->∃ws:List V,kvs.map (λkv=>Ef kv.2)=ws.map vE
 |[],_=>⟨[],rfl⟩
 |kv::kvs,hf=>by rw[qB,zC]at hf;obtain⟨w,hw⟩:=qL.mp hf.1;obtain⟨ws,h2⟩:=ZIV hf.2;exact⟨w::ws,by rw[zk,zk,h2,hw]⟩
theorem ZKe{c:Wd}:∀{kvs:List (Str×D)}{ws:List V},kvs.map (λkv=>Ef kv.2)=ws.map vE->RepKV c (kvs.map λkv=>((.inr kv.1:Key),kv.2)) ((kvs.map λkv=>(Sum.inr kv.1:Key)).zip ws)
 |[],_,_=>RepKV.nil
 |kv::kvs,[],h=>by cases h
 |kv::kvs,w::ws,h=>by rw[zk,zk]at h;obtain⟨h1,h2⟩:=List.cons.inj h;exact RepKV.mk (ZPv h1) (ZKe h2)
theorem ZJJ:∀{kvs:List (Str×D)}{ws:List V},(kvs.map λkv=>V.str kv.1).zip ws=((kvs.map λkv=>(Sum.inr kv.1:Key)).zip ws).map λkv=>(kV kv.1,kv.2)
 |[],_=>rfl
 |kv::kvs,[]=>rfl
 |kv::kvs,w::ws=>congrArg _ ZJJ
theorem ZKR{keys:List (Option xX)}{values:List xX}{kvs:List (Str×D)}(h:QPs X E pos keys values kvs)(hf:(kvs.all λkv=>(Ef kv.2).isSome)=vG:=by rfl)(hn:kvs.length<=15:=by decide)(hall:keys.all (·.isSome)=vG:=by rfl)(hl:keys.length=values.length:=by rfl)(h0:keys≠[]:=by exact λz=>nomatch z)
  (h15:keys.length<=15:=by decide):QE X E (.Dict keys values pos) (Ur kvs):=by
 refine(ZNU h hall hl h0 h15).mono λσ H Q h=>?_
 obtain⟨a,S,G,hk,rfl,s,r,h⟩:=h;intro p hp;obtain⟨ws,hws⟩:=ZIV hf;have s0:Sim (a.push p (.dK [])) (G++[.dct []]):=s.push hp ⟨[],rfl,RepKV.nil⟩;refine ZKC (b:=a.push p (.dK [])) (a0:=a.push p (.dK [])) (G0:=G++[.dct []]) (S:=S) hws hk (Ext.refl _) s0 (r.mono (Ext.push hp)) λc xc sc=>?_
 have hlt:a.n<c.n:=zq (zU _) xc.n;have hm:c.m a.n=p:=by rw[xc.m a.n (zU _)];show(if a.n=a.n then p else a.m a.n)=p;rw[if_pos rfl]
 obtain⟨us,e1,e2⟩:=sc.obj a.n (.dct []) (by rw[<-s.len];simp);have:us=[]:=jq.mp e2.1.symm;subst this;rw[hm]at e1;have hlen:ws.length=kvs.length:=by have:=congrArg xQ hws;simpa using this.symm
 refine⟨e1,(kvs.map λkv=>(Sum.inr kv.1:Key)).zip ws,ZJJ,by simp;lia,?_⟩
 ·have hw:=sc.wrD (i:=a.n) hlt (us:=[]) (us':=Oh [] ((kvs.map λkv=>(Sum.inr kv.1:Key)).zip ws)) (kvs':=Ik [] (kvs.map λkv=>((.inr kv.1:Key),kv.2))) (by rw[hm];exact e1) (RepKV.merge (ZKe hws) RepKV.nil);rw[hm]at hw;have eG:(G++[DO.dct []]).set a.n (DO.dct (Ik [] (kvs.map λkv=>((.inr kv.1:Key),kv.2))))=G++[DO.dct (Ik [] (kvs.map λkv=>((.inr kv.1:Key),kv.2)))]:=by rw[<-s.len];simp
  rw[eG]at hw;refine h (c.put p _) (.ref p) (((Ext.push hp).trans xc).trans (Ext.wrD e1)) hw ⟨by rw[s.len];exact hlt,?_⟩;show V.ref p=V.ref (c.m G.length);rw[s.len,hm]
end
section
variable{S:DSt}{G:DH}
@[simp]theorem ZUg{kvs:List (Str×D)}:Ur kvs S G=.ok (.ref G.length) (G++[.dct (Ik [] (kvs.map λkv=>(.inr kv.1,kv.2)))]):=id rfl
theorem ZRW{kvs:List (Str×Str)}{v:Str}(h:kvs.lookup x=vE v):Qa kvs (.str x) G=.ok (.str v) G:=by
 show(match kvs.lookup x with |some v=>R.ok (D.str v) G|none=>R.bad)=_
 rw[h]
@[simp]theorem ZT4{kvs:List (Str×Str)}:Tw kvs (.str x) G=.ok (.bl (!(kvs.lookup x).isSome)) G:=id rfl
end
noncomputable def ftW(w:xw)(b:Bool):xw:={w with params:={w.params with followText:=λx=>match x == "special-get-raises" with |true=>b|false=>w.params.followText x}}
theorem ZSN(w:xw):ftW w (w.params.followText "special-get-raises")=w:=by
 obtain⟨d,p⟩:=w;obtain⟨a1,a2,a3,a4,a5,f,a7,a8,a9,a10,a11,a12,a13,a14,a15,a16,a17,a18,a19,a20,a21,a22,a23,a24,a25⟩:=p
 have e:(λx:String=>match x == "special-get-raises" with |true=>f "special-get-raises"|false=>f x)=f:=by
  funext x;cases h:x == "special-get-raises" with
  |true=>rw[beq_iff_eq.mp h]
  |false=>rfl
 unfold ftW;dsimp only;rw[e]
theorem ZST{P:xw->Prop}(h1:∀w,P (ftW w vG))(h2:∀w,P (ftW w vH)):∀w,P w:=λw=>by
 have h:∀b,P (ftW w b):=λb=>by cases b;exact h2 w;exact h1 w
 have:=h (w.params.followText "special-get-raises");rwa[ZSN]at this
theorem Aw{X:Cx}{k j:Nat}{n:Str}{st:xz}{ps:List Str}{F:List D->DH->R D}{p pos:Pos}{e:xX}{es:List xX}{tr:DA}(FF:FnO X.prog X.w X.K X.mg X.base k n ps F)(T:FT X.K X.mg n st ps)(hr:Room j X.A)(ha:QA X E0 (e::es) tr)
  (hj:k<=j:=by decide) (hg:Gl X n:=by exact rfl) (hd:(n==("__debug__":Str))=vH:=by decide) (he:notStar e=vG:=by exact rfl) (hp:es.all notStar=vG:=by exact rfl):QE X E0 (.Call (.Name n p) (e::es) [] pos) (dFn F tr):=
 ZSy FF (hr.mono hj) hg T.m T.k T.b pass0 ha hd he hp
end DL
namespace Law
open PySem L2 DL
noncomputable def top(i:Nat):xz:=PySem.Challenge.pw_sluiceway_k52_what_look_tells.main.body.getD i (.Pass ⟨0,0,0,0⟩)
noncomputable def fuel:Nat:=100000
noncomputable def inC(s:xz)(j:Nat):xz:=match s with
 |.ClassDef _ _ _ body _ _ _ _ _ _ _=>body.getD j (.Pass ⟨0,0,0,0⟩)
 |_=>.Pass ⟨0,0,0,0⟩
noncomputable abbrev ZB1:xz:=top 65
noncomputable abbrev ZEh:List Str:=["_law_cell","_law_unit_here"]
noncomputable abbrev ZCG:List Str:=ZEh.take 2
theorem ZR5:FnScope ZEh ZCG (Ar ZB1):=⟨rfl,rfl,rfl,by decide +kernel,rfl,by decide +kernel,by decide +kernel⟩
noncomputable abbrev ZAl:xz:=top 61
noncomputable abbrev ZHt:List Str:=["_law_number_here","_law_k","_law_digit"]
noncomputable abbrev ZDP:List Str:=ZHt.take 2
theorem Uh:FnScope ZHt ZDP (Ar ZAl):=⟨rfl,rfl,rfl,by decide +kernel,rfl,by decide +kernel,by decide +kernel⟩
noncomputable abbrev ZCM:xz:=top 60
noncomputable abbrev ZJA:List Str:=["_law_script"]
noncomputable abbrev ZBZ:List Str:=ZJA.take 1
theorem ZOk:FnScope ZJA ZBZ (Ar ZCM):=⟨rfl,rfl,rfl,by decide +kernel,rfl,by decide +kernel,by decide +kernel⟩
noncomputable abbrev ZA3:xz:=top 62
noncomputable abbrev ZHk:List Str:=["_law_script","_law_k","_law_number_here"]
noncomputable abbrev ZCE:List Str:=ZHk.take 2
theorem Ug:FnScope ZHk ZCE (Ar ZA3):=⟨rfl,rfl,rfl,by decide +kernel,rfl,by decide +kernel,by decide +kernel⟩
noncomputable abbrev ZCX:xz:=top 64
noncomputable abbrev ZI6:List Str:=["_law_script"]
noncomputable abbrev ZDZ:List Str:=ZI6.take 1
theorem ZRi:FnScope ZI6 ZDZ (Ar ZCX):=⟨rfl,rfl,rfl,by decide +kernel,rfl,by decide +kernel,by decide +kernel⟩
noncomputable abbrev Nq:xz:=top 75
noncomputable abbrev Qv:List Str:=["_law_script","_law_house_here","_law_low","_law_lows","_law_unit_here","_law_many","_law_b","_law_levels","_law_coming","_law_k","_law_cell","_law_level","_law_room","_law_highs","_law_at","_law_cells","_law_added_here"]
noncomputable abbrev ZBl:List Str:=Qv.take 4
theorem Hr:FnScope Qv ZBl (Ar Nq):=⟨rfl,rfl,rfl,by decide +kernel,rfl,by decide +kernel,by decide +kernel⟩
noncomputable abbrev ZCz:xz:=top 76
noncomputable abbrev ZKJ:List Str:=["_law_script","_law_house_here","_law_many","_law_b","_law_k","_law_place","_law_kind","_law_what","_law_cell","_law_number_here"]
noncomputable abbrev ZER:List Str:=ZKJ.take 2
theorem Ke:FnScope ZKJ ZER (Ar ZCz):=⟨rfl,rfl,rfl,by decide +kernel,rfl,by decide +kernel,by decide +kernel⟩
noncomputable abbrev ZD5:xz:=top 77
noncomputable abbrev ZEe:List Str:=["_law_what"]
noncomputable abbrev ZBS:List Str:=ZEe.take 1
theorem ZLa:FnScope ZEe ZBS (Ar ZD5):=⟨rfl,rfl,rfl,by decide +kernel,rfl,by decide +kernel,by decide +kernel⟩
noncomputable abbrev ZDO:xz:=top 79
noncomputable abbrev ZJN:List Str:=["_law_numbers","_law_ask_here","_law_kept","_law_k","_law_better"]
noncomputable abbrev ZBU:List Str:=ZJN.take 2
theorem Nr:FnScope ZJN ZBU (Ar ZDO):=⟨rfl,rfl,rfl,by decide +kernel,rfl,by decide +kernel,by decide +kernel⟩
noncomputable abbrev Ti:xz:=top 73
noncomputable abbrev Wo:List Str:=["_law_script","_law_house_here","_law_turns","_law_many","_law_b","_law_floods_here","_law_at","_law_cells"]
noncomputable abbrev ZCT:List Str:=Wo.take 3
theorem R6:FnScope Wo ZCT (Ar Ti):=⟨rfl,rfl,rfl,by decide +kernel,rfl,by decide +kernel,by decide +kernel⟩
noncomputable abbrev ZCO:xz:=top 69
noncomputable abbrev ZH7:List Str:=["_law_steps_here","_law_total","_law_low","_law_many","_law_way"]
noncomputable abbrev ZAu:List Str:=ZH7.take 1
theorem Q6:FnScope ZH7 ZAu (Ar ZCO):=⟨rfl,rfl,rfl,by decide +kernel,rfl,by decide +kernel,by decide +kernel⟩
noncomputable abbrev ZBR:xz:=top 67
noncomputable abbrev ZG7:List Str:=["_law_cells","_law_unit_here","_law_pumps","_law_steps_here","_law_low","_law_k","_law_many","_law_way"]
noncomputable abbrev ZA4:List Str:=ZG7.take 3
theorem Ld:FnScope ZG7 ZA4 (Ar ZBR):=⟨rfl,rfl,rfl,by decide +kernel,rfl,by decide +kernel,by decide +kernel⟩
noncomputable abbrev ZDt:xz:=top 66
noncomputable abbrev ZEl:List Str:=["_law_script"]
noncomputable abbrev ZCI:List Str:=ZEl.take 1
theorem ZSU:FnScope ZEl ZCI (Ar ZDt):=⟨rfl,rfl,rfl,by decide +kernel,rfl,by decide +kernel,by decide +kernel⟩
noncomputable abbrev Rz:xz:=top 68
noncomputable abbrev Zz:List Str:=["_law_script","_law_b","_law_unit_here","_law_pumps","_law_year_here","_law_rule_here","_law_begin","_law_j","_law_later","_law_cells"]
noncomputable abbrev ZBX:List Str:=Zz.take 4
theorem Js:FnScope Zz ZBX (Ar Rz):=⟨rfl,rfl,rfl,by decide +kernel,rfl,by decide +kernel,by decide +kernel⟩
noncomputable abbrev Wc:xz:=top 70
noncomputable abbrev ZCg:List Str:=["_law_script","_law_b","_law_k","_law_names","_law_river","_law_unit_here","_law_cell","_law_pumps","_law_rule_here","_law_pump","_law_most","_law_to","_law_brim"]
noncomputable abbrev ZEW:List Str:=ZCg.take 5
theorem K4:FnScope ZCg ZEW (Ar Wc):=⟨rfl,rfl,rfl,by decide +kernel,rfl,by decide +kernel,by decide +kernel⟩
noncomputable abbrev ZBt:xz:=top 63
noncomputable abbrev ZGM:List Str:=["_law_cell","_law_k","_law_many","_law_other","_law_telling"]
noncomputable abbrev ZCY:List Str:=ZGM.take 3
theorem ZC1:FnScope ZGM ZCY (Ar ZBt):=⟨rfl,rfl,rfl,by decide +kernel,rfl,by decide +kernel,by decide +kernel⟩
noncomputable abbrev Xu:xz:=top 71
noncomputable abbrev ZDp:List Str:=["_law_script","_law_first","_law_many","_law_names","_law_k","_law_places","_law_b","_law_step","_law_delay","_law_river","_law_kind","_law_amount_here","_law_rank"]
noncomputable abbrev ZDd:List Str:=ZDp.take 1
theorem Hl:FnScope ZDp ZDd (Ar Xu):=⟨rfl,rfl,rfl,by decide +kernel,rfl,by decide +kernel,by decide +kernel⟩
noncomputable abbrev ZD3:xz:=top 74
noncomputable abbrev ZFx:List Str:=["_law_script","_law_cell"]
noncomputable abbrev ZA6:List Str:=ZFx.take 1
theorem ZJ1:FnScope ZFx ZA6 (Ar ZD3):=⟨rfl,rfl,rfl,by decide +kernel,rfl,by decide +kernel,by decide +kernel⟩
noncomputable abbrev ZDX:xz:=top 72
noncomputable abbrev ZJ6:List Str:=["_law_script","_law_house_here","_law_places","_law_unit_here","_law_b","_law_levels","_law_coming","_law_k","_law_level","_law_cell","_law_row","_law_j"]
noncomputable abbrev ZBv:List Str:=ZJ6.take 2
theorem Iu:FnScope ZJ6 ZBv (Ar ZDX):=⟨rfl,rfl,rfl,by decide +kernel,rfl,by decide +kernel,by decide +kernel⟩
noncomputable abbrev ZBH:xz:=top 78
noncomputable abbrev ZGB:List Str:=["_law_found","_law_number_here"]
noncomputable abbrev ZEQ:List Str:=ZGB.take 1
theorem ZEp:FnScope ZGB ZEQ (Ar ZBH):=⟨rfl,rfl,rfl,by decide +kernel,rfl,by decide +kernel,by decide +kernel⟩
noncomputable abbrev ZCR:xz:=top 57
noncomputable abbrev ZGY:List Str:=["cubes","sense","number"]
noncomputable abbrev ZCi:List Str:=ZGY.take 3
theorem ZQJ:FnScope ZGY ZCi (Ar ZCR):=⟨rfl,rfl,rfl,by decide +kernel,rfl,by decide +kernel,by decide +kernel⟩
noncomputable abbrev ZCN:xz:=top 58
noncomputable abbrev ZGU:List Str:=["what"]
noncomputable abbrev ZDK:List Str:=ZGU.take 1
theorem ZRl:FnScope ZGU ZDK (Ar ZCN):=⟨rfl,rfl,rfl,by decide +kernel,rfl,by decide +kernel,by decide +kernel⟩
noncomputable abbrev Xa:xz:=top 56
noncomputable abbrev ZDY:List Str:=["pages","ask","what","place","sense","number","part","found","when","cubes","nearest"]
noncomputable abbrev ZCD:List Str:=ZDY.take 2
theorem Kh:FnScope ZDY ZCD (Ar Xa):=⟨rfl,rfl,rfl,by decide +kernel,rfl,by decide +kernel,by decide +kernel⟩
noncomputable abbrev ZEK:xz:=top 53
noncomputable abbrev ZJS:List Str:=["house","ask","what","place","sense","number"]
noncomputable abbrev ZCP:List Str:=ZJS.take 2
theorem Rc:FnScope ZJS ZCP (Ar ZEK):=⟨rfl,rfl,rfl,by decide +kernel,rfl,by decide +kernel,by decide +kernel⟩
noncomputable abbrev Va:xz:=top 51
noncomputable abbrev ZDm:List Str:=["numbers","others"]
noncomputable abbrev ZBT:List Str:=ZDm.take 2
theorem ZQO:FnScope ZDm ZBT (Ar Va):=⟨rfl,rfl,rfl,by decide +kernel,rfl,by decide +kernel,by decide +kernel⟩
noncomputable abbrev Vm:xz:=top 50
noncomputable abbrev ZCV:List Str:=["floods","others"]
noncomputable abbrev ZAp:List Str:=ZCV.take 2
theorem ZOL:FnScope ZCV ZAp (Ar Vm):=⟨rfl,rfl,rfl,by decide +kernel,rfl,by decide +kernel,by decide +kernel⟩
noncomputable abbrev ZDk:xz:=top 49
noncomputable abbrev ZG9:List Str:=["state","other","levels","coming","other_levels","other_coming"]
noncomputable abbrev ZDr:List Str:=ZG9.take 2
theorem Uu:FnScope ZG9 ZDr (Ar ZDk):=⟨rfl,rfl,rfl,by decide +kernel,rfl,by decide +kernel,by decide +kernel⟩
noncomputable abbrev ZBm:xz:=top 54
noncomputable abbrev ZKS:List Str:=["low","high","lows","highs"]
noncomputable abbrev ZEY:List Str:=ZKS.take 4
theorem ZRx:FnScope ZKS ZEY (Ar ZBm):=⟨rfl,rfl,rfl,by decide +kernel,rfl,by decide +kernel,by decide +kernel⟩
noncomputable abbrev ZDG:xz:=top 55
noncomputable abbrev ZFn:List Str:=["low","high","lows","highs","ask","what","place","sense","number"]
noncomputable abbrev ZEC:List Str:=ZFn.take 5
theorem T6:FnScope ZFn ZEC (Ar ZDG):=⟨rfl,rfl,rfl,by decide +kernel,rfl,by decide +kernel,by decide +kernel⟩
noncomputable abbrev T8:xz:=inC (top 42) 0
noncomputable abbrev Vx:List Str:=["self","house","state","at","flood","levels","coming"]
noncomputable abbrev ZBn:List Str:=Vx.take 5
theorem ZAm:FnScope Vx ZBn (Ar T8):=⟨rfl,rfl,rfl,by decide +kernel,rfl,by decide +kernel,by decide +kernel⟩
noncomputable abbrev ZDx:xz:=inC (top 42) 5
noncomputable abbrev ZJb:List Str:=["self","to","delay","cubes"]
noncomputable abbrev ZA5:List Str:=ZJb.take 4
theorem ZNS:FnScope ZJb ZA5 (Ar ZDx):=⟨rfl,rfl,rfl,by decide +kernel,rfl,by decide +kernel,by decide +kernel⟩
noncomputable abbrev ZCF:xz:=top 20
noncomputable abbrev ZJ0:List Str:=["house","name","number","place"]
noncomputable abbrev ZD1:List Str:=ZJ0.take 2
theorem ZCx:FnScope ZJ0 ZD1 (Ar ZCF):=⟨rfl,rfl,rfl,by decide +kernel,rfl,by decide +kernel,by decide +kernel⟩
noncomputable abbrev ZET:xz:=top 21
noncomputable abbrev ZGT:List Str:=["house","place","name"]
noncomputable abbrev ZDW:List Str:=ZGT.take 2
theorem ZJM:FnScope ZGT ZDW (Ar ZET):=⟨rfl,rfl,rfl,by decide +kernel,rfl,by decide +kernel,by decide +kernel⟩
noncomputable abbrev ZB7:xz:=inC (top 42) 4
noncomputable abbrev ZHL:List Str:=["self","number","cubes","down"]
noncomputable abbrev ZB3:List Str:=ZHL.take 3
theorem ZF1:FnScope ZHL ZB3 (Ar ZB7):=⟨rfl,rfl,rfl,by decide +kernel,rfl,by decide +kernel,by decide +kernel⟩
noncomputable abbrev ZBK:xz:=top 33
noncomputable abbrev ZJ7:List Str:=["stairs","water","river","pump","height","many","way","cubes"]
noncomputable abbrev ZAe:List Str:=ZJ7.take 2
theorem Le:FnScope ZJ7 ZAe (Ar ZBK):=⟨rfl,rfl,rfl,by decide +kernel,rfl,by decide +kernel,by decide +kernel⟩
noncomputable abbrev ZAr:xz:=top 32
noncomputable abbrev ZHh:List Str:=["rule","turn","held","first","stairs"]
noncomputable abbrev ZB6:List Str:=ZHh.take 2
theorem S8:FnScope ZHh ZB6 (Ar ZAr):=⟨rfl,rfl,rfl,by decide +kernel,rfl,by decide +kernel,by decide +kernel⟩
noncomputable abbrev ZED:xz:=inC (top 42) 2
noncomputable abbrev ZJw:List Str:=["self","number","place","came","let","pumped","stays","lies","spilled"]
noncomputable abbrev ZDH:List Str:=ZJw.take 2
theorem Ms:FnScope ZJw ZDH (Ar ZED):=⟨rfl,rfl,rfl,by decide +kernel,rfl,by decide +kernel,by decide +kernel⟩
noncomputable abbrev ZAD:xz:=top 28
noncomputable abbrev ZA2:List Str:=["rows","takes","passing","row","number"]
noncomputable abbrev ZCv:List Str:=ZA2.take 2
theorem Zo:FnScope ZA2 ZCv (Ar ZAD):=⟨rfl,rfl,rfl,by decide +kernel,rfl,by decide +kernel,by decide +kernel⟩
noncomputable abbrev ZC4:xz:=top 44
noncomputable abbrev ZJc:List Str:=["house","number","places","down"]
noncomputable abbrev ZDV:List Str:=ZJc.take 2
theorem ZC7:FnScope ZJc ZDV (Ar ZC4):=⟨rfl,rfl,rfl,by decide +kernel,rfl,by decide +kernel,by decide +kernel⟩
noncomputable abbrev ZBC:xz:=top 45
noncomputable abbrev ZIH:List Str:=["house","members","came","rows","number","place","down","row_down"]
noncomputable abbrev ZBN:List Str:=ZIH.take 3
theorem R0:FnScope ZIH ZBN (Ar ZBC):=⟨rfl,rfl,rfl,by decide +kernel,rfl,by decide +kernel,by decide +kernel⟩
noncomputable abbrev Ub:xz:=top 29
noncomputable abbrev Vb:List Str:=["rows","order"]
noncomputable abbrev ZCZ:List Str:=Vb.take 1
theorem ZJF:FnScope Vb ZCZ (Ar Ub):=⟨rfl,rfl,rfl,by decide +kernel,rfl,by decide +kernel,by decide +kernel⟩
noncomputable abbrev ZBB:xz:=top 30
noncomputable abbrev ZGu:List Str:=["rows","number","way","down"]
noncomputable abbrev ZCC:List Str:=ZGu.take 2
theorem Xw:FnScope ZGu ZCC (Ar ZBB):=⟨rfl,rfl,rfl,by decide +kernel,rfl,by decide +kernel,by decide +kernel⟩
noncomputable abbrev Vf:xz:=top 27
noncomputable abbrev ZC8:List Str:=["rows","takes","passing","number","way","take","below"]
noncomputable abbrev ZEI:List Str:=ZC8.take 1
theorem O8:FnScope ZC8 ZEI (Ar Vf):=⟨rfl,rfl,rfl,by decide +kernel,rfl,by decide +kernel,by decide +kernel⟩
noncomputable abbrev ZDu:xz:=inC (top 42) 3
noncomputable abbrev ZHe:List Str:=["self","members","rows","takes","number","took","let"]
noncomputable abbrev ZBE:List Str:=ZHe.take 2
theorem Qk:FnScope ZHe ZBE (Ar ZDu):=⟨rfl,rfl,rfl,by decide +kernel,rfl,by decide +kernel,by decide +kernel⟩
noncomputable abbrev ZDb:xz:=top 43
noncomputable abbrev ZGK:List Str:=["house","lasts","number","down"]
noncomputable abbrev ZAq:List Str:=ZGK.take 1
theorem ZAF:FnScope ZGK ZAq (Ar ZDb):=⟨rfl,rfl,rfl,by decide +kernel,rfl,by decide +kernel,by decide +kernel⟩
noncomputable abbrev V7:xz:=inC (top 42) 1
noncomputable abbrev ZDo:List Str:=["self","lasts","number","last"]
noncomputable abbrev ZBL:List Str:=ZDo.take 1
theorem Xe:FnScope ZDo ZBL (Ar V7):=⟨rfl,rfl,rfl,by decide +kernel,rfl,by decide +kernel,by decide +kernel⟩
noncomputable abbrev Sq:xz:=inC (top 42) 6
noncomputable abbrev Wh:List Str:=["self"]
noncomputable abbrev ZD9:List Str:=Wh.take 1
theorem ZMX:FnScope Wh ZD9 (Ar Sq):=⟨rfl,rfl,rfl,by decide +kernel,rfl,by decide +kernel,by decide +kernel⟩
noncomputable abbrev ZCJ:xz:=top 40
noncomputable abbrev ZGg:List Str:=["house","state","at","flood","course"]
noncomputable abbrev ZEO:List Str:=ZGg.take 4
theorem ZIt:FnScope ZGg ZEO (Ar ZCJ):=⟨rfl,rfl,rfl,by decide +kernel,rfl,by decide +kernel,by decide +kernel⟩
noncomputable abbrev ZBx:xz:=top 41
noncomputable abbrev ZJm:List Str:=["house","state","at","floods","pages","number","flood","page"]
noncomputable abbrev ZBe:List Str:=ZJm.take 4
theorem Qu:FnScope ZJm ZBe (Ar ZBx):=⟨rfl,rfl,rfl,by decide +kernel,rfl,by decide +kernel,by decide +kernel⟩
noncomputable abbrev ZBs:xz:=top 52
noncomputable abbrev ZGF:List Str:=["house","low","high","at","lows","highs","ask","state","floods","pages","behind"]
noncomputable abbrev ZDq:List Str:=ZGF.take 7
theorem Rn:FnScope ZGF ZDq (Ar ZBs):=⟨rfl,rfl,rfl,by decide +kernel,rfl,by decide +kernel,by decide +kernel⟩
noncomputable abbrev J7:xz:=top 80
noncomputable abbrev ZDj:List Str:=["_law_script","_law_house_here","_law_at","_law_low","_law_lows","_law_high","_law_highs","_law_ask_here","_law_handed","_law_found","_law_pages","_law_numbers"]
noncomputable abbrev ZBh:List Str:=ZDj.take 1
theorem Ir:FnScope ZDj ZBh (Ar J7):=⟨rfl,rfl,rfl,by decide +kernel,rfl,by decide +kernel,by decide +kernel⟩
def ZIL:DS:=(sRt (dOp Ay (dOp Bk (dV 1) (dOp Bo (dV 0) (dC (.int 7)))) (dOp Bo (dOp Di (dV 0) (dC (.int 7))) (dV 1))))
def Kp:List D->DH->R D:=Bu 2 0 ZIL
def Ui:DS:=(sAs (dOp Di (dV 0) (dOp Ka (dC (.int 10)) (dC (.int 8)))) (gV 0))
def ZCm:DS:=(Ah (sIf (Ax (Qq Nz Hm (dC (.int 0)) (dV 0) (dOp Ka (dC (.int 10)) (dC (.int 18))))) (Ah (sAs (dOp Bo (dOp Ay (dOp Ay (dV 0) (dOp Bk (dC (.int 1009)) (dV 1))) (dC (.int 7))) (dC (.int 999999937))) (gV 0)) (Ah (sAs (dOp Bo (dOp Bk (dV 0) (dV 0)) (dC (.int 999999929))) (gV 0)) (sRt (dOp Bo (dOp Bk (dV 0) (dOp Ay (dV 0) (dV 1))) (dC (.int 99999989)))))) sNx) (Ah (Dt (Cy rng1 (Ab (dV 1) Ad)) (gV 2) Ui) (sRt (dOp Bo (dV 0) (dOp Ka (dC (.int 10)) (dC (.int 8)))))))
def Rq:List D->DH->R D:=Bu 2 1 ZCm
def ZDS:DS:=(sRt (Nf (dOp Iw (dFn Cz (Ab (dV 0) Ad)) (dC (.int 0))) (dOrV (dOp Hm (dOp Aj (dV 0) (dC (.int 0))) (dC (.int 0))) (dOp opGe (dOp Aj (dV 0) (dC (.int 0))) (dOp Ka (dC (.int 10)) (dC (.int 18)))))))
def Mw:List D->DH->R D:=Bu 1 0 ZDS
def Qg:DS:=(Ah (sIf (Ax (dFn Mw (Ab (dV 0) Ad))) (Ah (sAs (dC (.int 0)) (gV 2)) (Ah (sIf (Ax (dOp Hm (dOp Ay (dC (.int 1)) (dOp Di (dV 1) (dC (.int 14)))) (dFn Cz (Ab (dV 0) Ad)))) (sAs (dOp Aj (dV 0) (dOp Ay (dC (.int 1)) (dOp Di (dV 1) (dC (.int 14))))) (gV 2)) sNx) (sRt (dFn Rq (Ab (dV 2) (Ab (dOp Bo (dV 1) (dC (.int 14))) Ad)))))) sNx) (Ah (sIf (Ax (dOp Hm (dV 1) (dFn Cz (Ab (dV 0) Ad)))) (sRt (dOp Aj (dV 0) (dV 1))) sNx) (Ah (sAs (dOp Bo (dOp Bk (dC (.int 48271)) (dOp Ay (dOp Bk (dV 1) (dV 1)) (dOp Bk (dC (.int 7)) (dFn Cz (Ab (dV 0) Ad))))) (dC (.int 2147483647))) (gV 2)) (Ah (sIf (Ax (dOp Iw (dFn Cz (Ab (dV 0) Ad)) (dC (.int 0)))) (sAs (dOp Ay (dV 2) (dOp Bo (dOp Bk (dOp Aj (dV 0) (dOp Bo (dV 1) (dFn Cz (Ab (dV 0) Ad)))) (dC (.int 69621))) (dC (.int 2147483629)))) (gV 2)) sNx) (sRt (dV 2))))))
def Az:List D->DH->R D:=Bu 2 1 Qg
def Zw:DS:=(sRt (dOp Aj (Bt (dFn Av (Ab (dC (.int 1)) (Ab (dC (.int 1)) (Ab (dOp Ka (dC (.int 10)) (dC (.int 30))) Ad))))) (dOp Bo (dOp Di (dFn Az (Ab (dV 0) (Ab (dC (.int 0)) Ad))) (dC (.int 840))) (dC (.int 3)))))
def Fj:List D->DH->R D:=Bu 1 0 Zw
def ZDQ:DE:=(dOp Ay (dV 0) (dOp Bk (dV 1) (dOp Bo (dOp Di (dV 2) (dC (.int 2))) (dC (.int 2)))))
def ZIc:DS:=(sEx (Fi Fq (dV 8) (Ab (dFn Fy (Ab (Bt (Ec (Fx (dOp Aj (dOp Aj (dV 2) (dC (.int 1))) (dV 9))) 1 [4,10] (gV 0) Cd ZDQ)) Ad)) Ad)))
def Zk:DS:=(Ah (sEx (Fi Fq (dV 7) (Ab (dV 11) Ad))) ZIc)
def V4:DS:=(Ah (sIf (Ax (dOp Cv (dOp Aj (dOp Aj (dOp Aj (dV 1) (dC (.int 1))) (dV 9)) (dC (.int 0))) (dC (.str "basin")))) (Ah (sAs (dOp Ay (dOp Gb (dOp Aj (dOp Aj (dOp Aj (dV 1) (dC (.int 1))) (dV 9)) (dC (.int 4))) (dV 11)) (dC (.int 1))) (gV 12)) (sAs (dOp Ay (dV 11) (dOp Bk (dOp Bo (dFn Kp (Ab (dOp Di (dV 10) (dC (.int 2))) (Ab (dV 4) Ad))) (dV 12)) (dOp Bo (dV 10) (dC (.int 2))))) (gV 11))) sNx) Zk)
def ZE3:DS:=(Ah (sAs (dOp Aj (dOp Aj (dV 2) (dC (.int 0))) (dV 9)) (gV 11)) V4)
def Rb:DS:=(Ah (sAs (dFn Az (Ab (dV 0) (Ab (dOp Ay (dV 6) (dV 9)) Ad))) (gV 10)) ZE3)
def ZBF:DE:=(dFn Az (Ab (dV 1) (Ab (dOp Ay (dOp Ay (dOp Ay (dV 3) (dV 2)) (dOp Bk (dV 4) (dV 2))) (dV 0)) Ad)))
def ZCs:DE:=(dOp Bk (dFn Kp (Ab (dOp Di (dV 0) (dC (.int 2))) (Ab (dV 1) Ad))) (dOp Bo (dV 0) (dC (.int 2))))
def ZD8:DE:=(dOp Ay (dOp Aj (dOp Aj (dV 1) (dV 2)) (dV 0)) (dOp Aj (dV 3) (dV 0)))
def ZFv:DS:=(sEx (Fi Fq (dV 13) (Ab (dFn Fy (Ab (Bt (Ec (Cy rng1 (Ab (dV 5) Ad)) 1 [3,14,16] (gV 0) Cd ZD8)) Ad)) Ad)))
def ZI0:DS:=(Ah (sAs (Bt (Ec (Fx (dV 15)) 1 [4] (gV 0) Cd ZCs)) (gV 16)) ZFv)
def Ue:DS:=(Ah (sAs (Bt (Ec (Cy rng1 (Ab (dV 5) Ad)) 1 [0,5,6,14] (gV 0) Cd ZBF)) (gV 15)) ZI0)
def ZJB:DS:=(Ah (sAs (Bt (dFn Fj (Ab (dV 0) Ad))) (gV 4)) (Ah (sAs (dFn Cz (Ab (dOp Aj (dV 1) (dC (.int 1))) Ad)) (gV 5)) (Ah (sAs (dOp Ay (dC (.int 6)) (dOp Bk (dC (.int 24)) (dV 5))) (gV 6)) (Ah (sAs (Fd (dFn Av Ad)) (gV 7)) (Ah (sAs (Fd (dFn Av Ad)) (gV 8)) (Ah (Dt (Cy rng1 (Ab (dV 5) Ad)) (gV 9) Rb) (Ah (sAs (Fd (dFn Av Ad)) (gV 13)) (Ah (Dt (Cy rng1 (Ab (dFn Cz (Ab (dV 3) Ad)) Ad)) (gV 14) Ue) (sRt (dFn Bb (Ab (dFn Bb (Ab (dFn Fy (Ab (dV 7) Ad)) (Ab (dFn Fy (Ab (dV 8) Ad)) Ad))) (Ab (dV 13) Ad))))))))))))
def R9:List D->DH->R D:=Bu 4 13 ZJB
def T9:DS:=(sIf (Ax (dOp Hi (dV 6) (dC (.str "mill")))) (Ah (sAs (dFn Az (Ab (dV 0) (Ab (dOp Ay (dV 3) (dC (.int 2))) Ad))) (gV 8)) (Ah (sAs (dOp Gb (dFn Kp (Ab (dOp Di (dV 8) (dC (.int 4))) (Ab (Bt (dFn Fj (Ab (dV 0) Ad))) Ad))) (dOp Bo (dOp Di (dV 8) (dC (.int 2))) (dC (.int 2)))) (gV 9)) (sRt (dFn Bb (Ab (dV 7) (Ab (dV 5) (Ab (dOp Aj (Bt (dFn Av (Ab (dC (.str "least")) (Ab (dC (.str "most")) Ad)))) (dOp Bo (dV 8) (dC (.int 2)))) (Ab (dV 9) Ad)))))))) sNx)
def Pk:DS:=(Ah (sIf (Ax (dOp Cv (dV 6) (dC (.str "basin")))) (sAs (dOp Aj (Bt (dFn Av (Ab (dC (.str "lies")) (Ab (dC (.str "spilled")) (Ab (dC (.str "let")) (Ab (dC (.str "pumped")) Ad)))))) (dOp Bo (dFn Az (Ab (dV 0) (Ab (dOp Ay (dV 3) (dC (.int 1))) Ad))) (dC (.int 4)))) (gV 7)) sNx) T9)
def ZKT:DS:=(Ah (sAs (dC (.str "took")) (gV 7)) Pk)
def ZFk:DS:=(Ah (sAs (dOp Aj (dOp Aj (dOp Aj (dV 1) (dC (.int 1))) (dV 5)) (dC (.int 0))) (gV 6)) ZKT)
def Qc:DS:=(Ah (sAs (dOp Bo (dOp Ay (dFn Az (Ab (dV 0) (Ab (dV 3) Ad))) (dV 4)) (dV 2)) (gV 5)) ZFk)
def ZHn:DS:=(Ah (sAs (dFn Cz (Ab (dOp Aj (dV 1) (dC (.int 1))) Ad)) (gV 2)) (Ah (sAs (dOp Ay (dC (.int 6)) (dOp Bk (dC (.int 20)) (dV 2))) (gV 3)) (Ah (Dt (Cy rng1 (Ab (dV 2) Ad)) (gV 4) Qc) (sRt (dC .non)))))
def Ri:List D->DH->R D:=Bu 2 8 ZHn
def ZIz:DS:=(sRt (dOp Mh (Ur [("took",(.int 1)),("spilled",(.int 2)),("let",(.int 3)),("pumped",(.int 4)),("lies",(.int 5))]) (dV 0)))
def Wm:List D->DH->R D:=Bu 1 0 ZIz
def Yv:DS:=(sIf (Ax (dV 4)) (sAs (dFn Bb (Ab (dC (.str "kept")) (Ab (dV 3) (Ab (dOp Aj (dV 0) (dV 3)) Ad)))) (gV 2)) sNx)
def ZFZ:DS:=(Ah (sIf (K3 (Jc (Ax (dV 4))) (Ax (dOp Cv (dOp Aj (dV 1) (dC (.int 2))) (dC (.str "least"))))) (sAs (dOp Hm (dOp Aj (dV 0) (dV 3)) (dOp Aj (dV 2) (dC (.int 2)))) (gV 4)) (sIf (Jc (Ax (dV 4))) (sAs (dOp Iw (dOp Aj (dV 0) (dV 3)) (dOp Aj (dV 2) (dC (.int 2)))) (gV 4)) sNx)) Yv)
def X7:DS:=(Ah (sAs (dOp Ox (dOp Aj (dV 2) (dC (.int 1))) (dC .non)) (gV 4)) ZFZ)
def Tq:DS:=(Ah (sIf (dOr (K3 (Ax (dOp Cv (dOp Aj (dV 1) (dC (.int 2))) (dC (.str "least")))) (Ax (dOp Hm (dOp Aj (dV 0) (dV 3)) (dOp Aj (dV 1) (dC (.int 3)))))) (K3 (Ax (dOp Cv (dOp Aj (dV 1) (dC (.int 2))) (dC (.str "most")))) (Ax (dOp Iw (dOp Aj (dV 0) (dV 3)) (dOp Aj (dV 1) (dC (.int 3))))))) (sRt (dFn Bb (Ab (dC (.str "broken")) (Ab (dV 3) (Ab (dOp Aj (dV 0) (dV 3)) Ad))))) sNx) X7)
def ZKD:DS:=(Ah (sAs (dFn Bb (Ab (dC (.str "kept")) (Ab (dC .non) (Ab (dC .non) Ad)))) (gV 2)) (Ah (Dt (Cy rng1 (Ab (dFn Cz (Ab (dV 0) Ad)) Ad)) (gV 3) Tq) (sRt (dV 2))))
def Xi:List D->DH->R D:=Bu 2 3 ZKD
def ZCy:DE:=(dFn Az (Ab (dV 1) (Ab (dOp Ay (dOp Ay (dV 3) (dOp Bk (dV 4) (dV 2))) (dV 0)) Ad)))
def ZA0:DE:=(dFn Kp (Ab (dV 0) (Ab (Bt (dFn Fj (Ab (dV 1) Ad))) Ad)))
def Ua:DS:=(Ah (sAs (Bt (Ec (Cy rng1 (Ab (dV 3) Ad)) 1 [0,3,4,6] (gV 0) Cd ZCy)) (gV 7)) (sEx (Fi Fq (dV 5) (Ab (dFn Fy (Ab (Bt (Ec (Fx (dV 7)) 1 [0] (gV 0) Cd ZA0)) Ad)) Ad))))
def ZJO:DS:=(Ah (sAs (dFn Cz (Ab (dOp Aj (dV 1) (dC (.int 1))) Ad)) (gV 3)) (Ah (sAs (dOp Ay (dC (.int 6)) (dOp Bk (dC (.int 14)) (dV 3))) (gV 4)) (Ah (sAs (Fd (dFn Av Ad)) (gV 5)) (Ah (Dt (Cy rng1 (Ab (dV 2) Ad)) (gV 6) Ua) (sRt (dV 5))))))
def Th:List D->DH->R D:=Bu 3 5 ZJO
def ZAO:DS:=(sIf (Ax (dOp Cv (dV 4) (dC (.str "pump")))) (sAs (dOp Ay (dV 1) (dV 3)) (gV 1)) sNx)
def ZIm:DS:=(Ah (sAs (dC (.int 0)) (gV 1)) (Ah (Dt (Fx (dV 0)) (Bg 3 (Am (gV 2) (Am (gV 3) (Am (gV 4) Bj)))) ZAO) (sRt (dV 1))))
def W7:List D->DH->R D:=Bu 1 4 ZIm
def Tt:DS:=(Ah (sAs (dOp Ay (dV 4) (dOp Bk (dV 1) (dOp Bo (dOp Aj (dV 0) (dOp Ay (dC (.int 1)) (dV 5))) (dC (.int 4))))) (gV 4)) (Ah (sAs (dOp Ay (dC (.int 1)) (dOp Bk (dV 1) (dOp Bo (dOp Di (dOp Aj (dV 0) (dOp Ay (dC (.int 1)) (dV 5))) (dC (.int 4))) (dC (.int 4))))) (gV 6)) (Ah (sAs (dC (.str "river")) (gV 7)) (Ah (sIf (K3 (Ax (dV 2)) (Ax (dOp Cv (dOp Bo (dOp Di (dOp Aj (dV 0) (dOp Ay (dC (.int 1)) (dV 5))) (dC (.int 16))) (dC (.int 2))) (dC (.int 1))))) (sAs (dC (.str "pump")) (gV 7)) sNx) (Ah (sEx (Fi Fq (dV 3) (Ab (dFn Bb (Ab (dV 4) (Ab (dV 6) (Ab (dV 7) Ad)))) Ad))) (sAs (dOp Ay (dV 4) (dV 6)) (gV 4)))))))
def ZFo:DS:=(Ah (sAs (Fd (dFn Av Ad)) (gV 3)) (Ah (sAs (dC (.int 0)) (gV 4)) (Ah (Dt (Cy rng1 (Ab (dOp Bo (dOp Aj (dV 0) (dC (.int 0))) (dC (.int 4))) Ad)) (gV 5) Tt) (sRt (dFn Fy (Ab (dV 3) Ad))))))
def Vy:List D->DH->R D:=Bu 3 5 ZFo
def ZJl:DS:=(sRt (dOp Ay (dC (.int 1)) (dOp Bo (dFn Az (Ab (dV 0) (Ab (dC (.int 1)) Ad))) (dC (.int 4)))))
def Kq:List D->DH->R D:=Bu 1 0 ZJl
def ZBP:DE:=(dOp Di (dFn Az (Ab (dV 1) (Ab (dOp Ay (dOp Ay (dV 2) (dC (.int 5))) (dOp Bo (dOp Ay (dOp Bk (dC (.int 3)) (dV 3)) (dV 0)) (dC (.int 6)))) Ad))) (dOp Ay (dC (.int 1)) (dOp Bk (dC (.int 7)) (dOp Di (dV 3) (dC (.int 2))))))
def ZD0:DE:=(dOp Di (dFn Az (Ab (dV 1) (Ab (dOp Ay (dOp Ay (dV 2) (dC (.int 5))) (dV 0)) Ad))) (dOp Aj (Bt (dFn Av (Ab (dC (.int 1)) (Ab (dC (.int 64)) (Ab (dC (.int 4096)) (Ab (dC (.int 262144)) Ad)))))) (dV 3)))
def Wx:DS:=(sIf (dOr (Ax (dOp Cv (dV 7) (dC (.int 0)))) (K3 (Ax (dOp Cv (dOp Bo (dV 8) (dC (.int 2))) (dC (.int 1)))) (Ax (dOp Hm (dOp Ay (dV 6) (dC (.int 1))) (dV 4))))) (Ah (sIf (Ax (dOp Iw (dV 7) (dC (.int 0)))) (sAs (dOp Ay (dOp Ay (dV 6) (dC (.int 1))) (dOp Bo (dOp Di (dV 8) (dC (.int 2))) (dOp Gb (dOp Gb (dV 4) (dV 6)) (dC (.int 1))))) (gV 6)) sNx) (sEx (Fi Fq (dV 5) (Ab (dFn Bb (Ab (dV 6) (Ab (dFn Vy (Ab (dV 9) (Ab (dV 2) (Ab (dV 3) Ad)))) Ad))) Ad)))) sNx)
def ZGq:DS:=(Ah (sIf (Ax (dFn Mw (Ab (dV 0) Ad))) (Ah (sAs (dOp Di (dFn Az (Ab (dV 0) (Ab (dOp Ay (dV 1) (dC (.int 4))) Ad))) (dOp Aj (Bt (dFn Av (Ab (dC (.int 1)) (Ab (dC (.int 48)) (Ab (dC (.int 2304)) (Ab (dC (.int 110592)) Ad)))))) (dV 7))) (gV 8)) (sAs (Bt (Ec (Cy rng1 (Ab (dC (.int 4)) Ad)) 1 [0,1,7] (gV 0) Cd ZD0)) (gV 9))) sNx) Wx)
def ZIR:DS:=(Ah (sAs (Bt (Ec (Cy rng1 (Ab (dC (.int 4)) Ad)) 1 [0,1,7] (gV 0) Cd ZBP)) (gV 9)) ZGq)
def M7:DS:=(Ah (sAs (dOp Bo (dOp Bk (dOp Bk (dFn Az (Ab (dV 0) (Ab (dOp Ay (dV 1) (dC (.int 4))) Ad))) (dC (.int 48271))) (dOp Ay (dOp Bk (dV 7) (dV 7)) (dC (.int 1)))) (dC (.int 10007))) (gV 8)) ZIR)
def ZJx:DS:=(Ah (sAs (dFn Kq (Ab (dV 0) Ad)) (gV 4)) (Ah (sAs (Fd (dFn Av Ad)) (gV 5)) (Ah (sAs (dC (.int 0)) (gV 6)) (Ah (Dt (Cy rng1 (Ab (dC (.int 4)) Ad)) (gV 7) M7) (sRt (dFn Fy (Ab (dV 5) Ad)))))))
def Yr:List D->DH->R D:=Bu 4 6 ZJx
def ZDg:DE:=(dFn W7 (Ab (dOp Aj (dV 0) (dC (.int 1))) Ad))
def ZFV:DS:=(sRt (dFn Bb (Ab (dC (.str "basin")) (Ab (dOp Aj (dV 3) (dV 2)) (Ab (dOp Aj (dV 4) (dC (.int 0))) (Ab (dOp Aj (dV 4) (dC (.int 1))) (Ab (dV 12) (Ab (dV 8) (Ab (dV 9) Ad)))))))))
def Ny:DS:=(Ah (sAs (dFn Kp (Ab (dFn Az (Ab (dV 0) (Ab (dOp Ay (dV 1) (dC (.int 3))) Ad))) (Ab (dV 5) Ad))) (gV 12)) ZFV)
def ZCW:DS:=(Ah (sIf (Ax (dV 7)) (Ah (sAs (dOp Ay (dFn Jt (Ab (Bt (Ec (Fx (dV 8)) 1 [] (gV 0) Cd ZDg)) Ad)) (dOp Bk (dV 5) (dOp Bo (dOp Di (dV 6) (dC (.int 130))) (dC (.int 2))))) (gV 10)) (Ah (sAs (dOp Aj (dV 3) (dOp Bo (dOp Ay (dOp Ay (dV 2) (dC (.int 1))) (dOp Bo (dOp Di (dV 6) (dC (.int 2))) (dOp Gb (dFn Cz (Ab (dV 3) Ad)) (dC (.int 1))))) (dFn Cz (Ab (dV 3) Ad)))) (gV 11)) (sAs (dFn Bb (Ab (dV 11) (Ab (dOp Ay (dC (.int 1)) (dOp Bo (dOp Di (dV 6) (dC (.int 26))) (dC (.int 5)))) (Ab (dV 10) Ad)))) (gV 9)))) sNx) Ny)
def ZEH:DS:=(Ah (sAs (dC .non) (gV 9)) ZCW)
def Mv:DS:=(Ah (sAs (dFn Yr (Ab (dV 0) (Ab (dV 1) (Ab (dV 5) (Ab (dV 7) Ad))))) (gV 8)) ZEH)
def ZIN:DS:=(Ah (sAs (Nf (dOp Iw (dFn Cz (Ab (dV 3) Ad)) (dC (.int 1))) (dOp Cv (dOp Bo (dV 6) (dC (.int 2))) (dC (.int 1)))) (gV 7)) Mv)
def ZEg:DS:=(Ah (sAs (dFn Az (Ab (dV 0) (Ab (dOp Ay (dV 1) (dC (.int 11))) Ad))) (gV 6)) ZIN)
def ZBw:DS:=(Ah (sAs (Bt (dFn Fj (Ab (dV 0) Ad))) (gV 5)) ZEg)
def Um:List D->DH->R D:=Bu 5 8 ZBw
def ZFH:DS:=(Ah (sAs (dOp Aj (dC (.str "abcdefghijklmnopqrstuvwxyz")) (dOp Bo (dOp Di (dV 0) (dC (.int 21))) (dC (.int 26)))) (gV 3)) (Ah (sIf (K3 (Ax (dOp Cv (dOp Bo (dV 0) (dC (.int 3))) (dC (.int 1)))) (Ax (dOp Hm (dV 2) (dC (.int 9))))) (sRt (dOp Bk (dV 3) (dOp Ay (dV 1) (dC (.int 1))))) sNx) (Ah (sAs (dOp Aj (dC (.str "abcdefghijkl")) (dOp Bo (dOp Ay (dOp Bk (dC (.int 5)) (dV 1)) (dOp Di (dV 0) (dC (.int 546)))) (dC (.int 12)))) (gV 4)) (Ah (sIf (Ax (dOp Cv (dOp Bo (dV 0) (dC (.int 3))) (dC (.int 2)))) (sRt (dOp Ay (dV 4) (dOp Bk (dV 3) (dOp Bo (dOp Di (dV 0) (dC (.int 3))) (dC (.int 7)))))) sNx) (sRt (dOp Ay (dOp Ay (dOp Bk (dV 3) (dOp Bo (dOp Di (dV 0) (dC (.int 3))) (dC (.int 7)))) (dV 4)) (dOp Bk (dV 3) (dOp Gb (dC (.int 6)) (dOp Bo (dOp Di (dV 0) (dC (.int 3))) (dC (.int 7)))))))))))
def Ym:List D->DH->R D:=Bu 3 2 ZFH
def ZBI:DE:=(dFn Ym (Ab (dFn Az (Ab (dV 1) (Ab (dC (.int 5)) Ad))) (Ab (dV 0) (Ab (dV 2) Ad))))
def Pg:DS:=(sIf (Ax (dOp Hm (dV 10) (dC (.int 2)))) (sEx (Fi Fq (dV 5) (Ab (Bt (dFn Um (Ab (dV 0) (Ab (dV 6) (Ab (dV 4) (Ab (dV 3) (Ab (dV 9) Ad))))))) Ad))) (sIf (Ax (dOp Hm (dV 10) (dC (.int 4)))) (sEx (Fi Fq (dV 5) (Ab (dFn Bb (Ab (dC (.str "town")) (Ab (dOp Aj (dV 3) (dV 4)) (Ab (dOp Aj (dV 9) (dC (.int 0))) (Ab (dOp Aj (dV 9) (dC (.int 1))) (Ab (dV 11) (Ab (dV 12) Ad))))))) Ad))) (sEx (Fi Fq (dV 5) (Ab (dFn Bb (Ab (dC (.str "mill")) (Ab (dOp Aj (dV 3) (dV 4)) (Ab (dOp Aj (dV 9) (dC (.int 0))) (Ab (dOp Aj (dV 9) (dC (.int 1))) (Ab (dV 11) Ad)))))) Ad)))))
def ZEB:DS:=(Ah (sAs (dOp Bo (dFn Az (Ab (dV 0) (Ab (dOp Ay (dV 6) (dC (.int 4))) Ad))) (dOp Aj (Bt (dFn Av (Ab (dC (.int 4)) (Ab (dOp Ka (dC (.int 10)) (dC (.int 40))) Ad)))) (dOp Bo (dOp Di (dV 1) (dC (.int 840))) (dC (.int 2))))) (gV 12)) Pg)
def ZA1:DS:=(Ah (sAs (dFn Kp (Ab (dFn Az (Ab (dV 0) (Ab (dOp Ay (dV 6) (dC (.int 3))) Ad))) (Ab (Bt (dFn Fj (Ab (dV 0) Ad))) Ad))) (gV 11)) ZEB)
def Ss:DS:=(Ah (sAs (dOp Bo (dFn Az (Ab (dV 0) (Ab (dV 6) Ad))) (dC (.int 5))) (gV 10)) ZA1)
def ZDh:DS:=(Ah (sIf (Ax (dOp Iw (dV 7) (dC (.int 0)))) (sAs (dFn Bb (Ab (dOp Aj (dV 3) (dOp Ay (dV 4) (dV 7))) (Ab (dOp Aj (dV 9) (dC (.int 1))) Ad))) (gV 9)) sNx) Ss)
def ZDw:DS:=(Ah (sAs (dFn Bb (Ab (dC (.str "sea")) (Ab (dOp Bk (dOp Bo (dV 8) (dC (.int 2))) (dOp Bo (dOp Di (dV 8) (dC (.int 2))) (dC (.int 6)))) Ad))) (gV 9)) ZDh)
def Ud:DS:=(Ah (sAs (dFn Az (Ab (dV 0) (Ab (dOp Ay (dV 6) (dC (.int 2))) Ad))) (gV 8)) ZDw)
def ZBy:DS:=(Ah (sIf (Ax (dOp Cv (dOp Bo (dOp Di (dV 1) (dC (.int 280))) (dC (.int 3))) (dC (.int 1)))) (sAs (dFn Ng (Ab (dC (.int 1)) (Ab (dOp Gb (dOp Gb (dV 2) (dC (.int 1))) (dV 4)) Ad))) (gV 7)) sNx) Ud)
def Xr:DS:=(Ah (sAs (dOp Bo (dFn Az (Ab (dV 0) (Ab (dOp Ay (dV 6) (dC (.int 1))) Ad))) (dOp Gb (dV 2) (dV 4))) (gV 7)) ZBy)
def Mf:DS:=(Ah (sAs (dOp Ay (dC (.int 6)) (dOp Bk (dC (.int 12)) (dV 4))) (gV 6)) Xr)
def ZKd:DS:=(Ah (sAs (dFn Az (Ab (dV 0) (Ab (dC (.int 0)) Ad))) (gV 1)) (Ah (sAs (dOp Ay (dC (.int 1)) (dOp Bo (dV 1) (dC (.int 4)))) (gV 2)) (Ah (sAs (Bt (Ec (Cy rng1 (Ab (dV 2) Ad)) 1 [0,2] (gV 0) Cd ZBI)) (gV 3)) (Ah (sAs (Fd (dFn Av Ad)) (gV 5)) (Ah (Dt (Cy rng1 (Ab (dV 2) Ad)) (gV 4) Mf) (sRt (dFn Bb (Ab (dFn Kq (Ab (dV 0) Ad)) (Ab (dFn Fy (Ab (dV 5) Ad)) Ad)))))))))
def Tv:List D->DH->R D:=Bu 1 12 ZKd
def ZCS:DS:=(Ah (sAs (dFn Az (Ab (dV 0) (Ab (dC (.int 3)) Ad))) (gV 1)) (sRt (dOp Bo (dOp Di (dV 1) (dC (.int 2))) (dOp Aj (Bt (dFn Av (Ab (dC (.int 50)) (Ab (dOp Ka (dC (.int 10)) (dC (.int 39))) Ad)))) (dOp Bo (dV 1) (dC (.int 2)))))))
def Qy:List D->DH->R D:=Bu 1 1 ZCS
def ZJr:DS:=(sAs (dOp Di (dV 9) (dC (.int 3))) (gV 9))
def Sv:DS:=(Ah (sEx (Fi Fq (dV 10) (Ab (dOp Bk (dV 3) (dOp Bo (dV 9) (dC (.int 3)))) Ad))) ZJr)
def ZJ3:DS:=(sEx (Fi Fq (dV 6) (Ab (dFn Fy (Ab (dV 10) Ad)) Ad)))
def Yq:DS:=(Ah (Dt (Cy rng1 (Ab (dC (.int 5)) Ad)) (gV 11) Sv) ZJ3)
def ZFb:DS:=(Ah (sAs (Fd (dFn Av Ad)) (gV 10)) Yq)
def ZGl:DS:=(Ah (sAs (dFn Az (Ab (dV 0) (Ab (dOp Ay (dOp Ay (dV 4) (dFn Cz (Ab (dV 2) Ad))) (dV 7)) Ad))) (gV 9)) ZFb)
def Wa:DS:=(Ah (sEx (Fi Fq (dV 5) (Ab (dV 8) Ad))) ZGl)
def ZHS:DS:=(Ah (sIf (Ax (dOp Cv (dOp Aj (dOp Aj (dV 2) (dV 7)) (dC (.int 0))) (dC (.str "basin")))) (sAs (dOp Bo (dFn Kp (Ab (dFn Az (Ab (dV 0) (Ab (dOp Ay (dV 4) (dV 7)) Ad))) (Ab (dV 3) Ad))) (dOp Ay (dOp Aj (dOp Aj (dV 2) (dV 7)) (dC (.int 4))) (dC (.int 1)))) (gV 8)) sNx) Wa)
def Td:DS:=(Ah (sAs (dC (.int 0)) (gV 8)) ZHS)
def ZKP:DS:=(Ah (sAs (dOp Aj (dV 1) (dC (.int 1))) (gV 2)) (Ah (sAs (Bt (dFn Fj (Ab (dV 0) Ad))) (gV 3)) (Ah (sAs (dOp Ay (dC (.int 6)) (dOp Bk (dC (.int 12)) (dFn Cz (Ab (dV 2) Ad)))) (gV 4)) (Ah (sAs (Fd (dFn Av Ad)) (gV 5)) (Ah (sAs (Fd (dFn Av Ad)) (gV 6)) (Ah (Dt (Cy rng1 (Ab (dFn Cz (Ab (dV 2) Ad)) Ad)) (gV 7) Td) (sRt (dFn Bb (Ab (dFn Fy (Ab (dV 5) Ad)) (Ab (dFn Fy (Ab (dV 6) Ad)) Ad))))))))))
def Us:List D->DH->R D:=Bu 2 10 ZKP
def U5:DS:=(sIf (K3 (Ax (dOp Lx (dV 1) (dC .non))) (dOr (Jc (Ax (dFn Ih (Ab (dV 1) (Ab (dC (.ty "int")) Ad))))) (Ax (dFn Ih (Ab (dV 1) (Ab (dC (.ty "bool")) Ad)))))) (sRt (dC (.bl vH))) sNx)
def ZGx:DS:=(Ah (sIf (dOr (Jc (Ax (dFn Ih (Ab (dV 0) (Ab (dC (.ty "tuple")) Ad))))) (dOr (Ax (dOp Hi (dFn Cz (Ab (dV 0) Ad)) (dC (.int 3)))) (Jc (Ax (dFn Ih (Ab (dOp Aj (dV 0) (dC (.int 0))) (Ab (dC (.ty "str")) Ad))))))) (sRt (dC (.bl vH))) sNx) (Ah (Dt (Fx (Bt (dSl (dV 0) (vE (dC (.int 1))) vF))) (gV 1) U5) (sRt (dC (.bl vG)))))
def Rr:List D->DH->R D:=Bu 1 1 ZGx
def ZEj:DS:=(Ah (sIf (Ax (dOp Cv (dV 1) (dC (.str "least")))) (sRt (dOp Hm (dV 0) (dV 2))) sNx) (sRt (dOp Iw (dV 0) (dV 2))))
def Y0:List D->DH->R D:=Bu 3 0 ZEj
def ZE5:DS:=(sRt (dOp Mh (Ur [("lies",(.int 5)),("spilled",(.int 2)),("let",(.int 3)),("pumped",(.int 4)),("took",(.int 1))]) (dV 0)))
def W3:List D->DH->R D:=Bu 1 0 ZE5
def Zu:DE:=(dOp Aj (dOp Aj (dV 0) (dV 1)) (dV 2))
def M3:DS:=(sIf (Ax (dFn Y0 (Ab (dV 9) (Ab (dV 4) (Ab (dV 5) Ad))))) (sRt (dFn Bb (Ab (dC (.str "broken")) (Ab (dV 8) (Ab (dV 9) Ad))))) sNx)
def ZH5:DS:=(sRt (dFn Bb (Ab (dC (.str "kept")) (Ab (Fi Mg (dV 7) (Ab (dV 10) Ad)) (Ab (dV 10) Ad)))))
def ZHN:DS:=(Ah (sAs (dIf (Ax (dOp Cv (dV 4) (dC (.str "least")))) (dFn K7 (Ab (dV 7) Ad)) (dFn Jt (Ab (dV 7) Ad))) (gV 10)) ZH5)
def Zd:DS:=(Ah (sIf (Ax (dOp Cv (dFn Cz (Ab (dV 7) Ad)) (dC (.int 0)))) (sRt (dFn Bb (Ab (dC (.str "kept")) (Ab (dC .non) (Ab (dC .non) Ad))))) sNx) ZHN)
def Tz:DS:=(Ah (Dt (Cy Ie (Ab (dV 7) Ad)) (Bg 2 (Am (gV 8) (Am (gV 9) Bj))) M3) Zd)
def ZEm:DS:=(Ah (sAs (Bt (Ec (Fx (dV 0)) 1 [3,6] (gV 0) Cd Zu)) (gV 7)) Tz)
def ZFD:DS:=(Ah (sAs (dFn W3 (Ab (dV 2) Ad)) (gV 6)) ZEm)
def ZAE:DS:=(Ah (sAs (dV 1) (Bg 4 (Am (gV 2) (Am (gV 3) (Am (gV 4) (Am (gV 5) Bj)))))) ZFD)
def Xg:List D->DH->R D:=Bu 2 9 ZAE
def ZH9:DS:=(Ah (sAs (dV 1) (Bg 4 (Am (gV 2) (Am (gV 3) (Am (gV 4) (Am (gV 5) Bj)))))) (Ah (sIf (dOr (Ax (dOp Rx (dV 4) (dC (.tup [.str "least",.str "most"])))) (Ax (dUn (Tw [("lies","basin"),("spilled","basin"),("let","basin"),("pumped","basin"),("took","town")]) (dV 2)))) La sNx) (Ah (sIf (Jc (Ax (Qq Nz Hm (dC (.int 0)) (dV 3) (dFn Cz (Ab (dOp Aj (dV 0) (dC (.int 1))) Ad))))) La sNx) (sIf (Ax (dOp Hi (dOp Aj (dOp Aj (dOp Aj (dV 0) (dC (.int 1))) (dV 3)) (dC (.int 0))) (dUn (Qa [("lies","basin"),("spilled","basin"),("let","basin"),("pumped","basin"),("took","town")]) (dV 2)))) La sNx))))
def Ww:List D->DH->R D:=Bu 2 4 ZH9
def ZDv:DE:=(dOp Nz (dV 0) (dV 1))
def ZEf:DS:=(Ah (sIf (Ax (dOp Hi (dFn Cz (Ab (dV 0) Ad)) (dFn Cz (Ab (dV 1) Ad)))) (sRt (dC (.bl vH))) sNx) (sRt (dFn Pn (Ab (Bt (Ec (Cy (I9 2) (Ab (dV 0) (Ab (dV 1) Ad))) 2 [] (Bg 2 (Am (gV 0) (Am (gV 1) Bj))) Cd ZDv)) Ad))))
def Tf:List D->DH->R D:=Bu 2 0 ZEf
def ZBO:DE:=(dFn Tf (Ab (dV 0) (Ab (dV 1) Ad)))
def ZBD:DS:=(Ah (sIf (Ax (dOp Hi (dFn Cz (Ab (dV 0) Ad)) (dFn Cz (Ab (dV 1) Ad)))) (sRt (dC (.bl vH))) sNx) (sRt (dFn Pn (Ab (Bt (Ec (Cy (I9 2) (Ab (dV 0) (Ab (dV 1) Ad))) 2 [] (Bg 2 (Am (gV 0) (Am (gV 1) Bj))) Cd ZBO)) Ad))))
def Nk:List D->DH->R D:=Bu 2 0 ZBD
def ZEb:DS:=(Ah (sAs (dV 0) (Bg 2 (Am (gV 2) (Am (gV 3) Bj)))) (Ah (sAs (dV 1) (Bg 2 (Am (gV 4) (Am (gV 5) Bj)))) (sRt (Nf (dFn Tf (Ab (dV 2) (Ab (dV 4) Ad))) (dFn Nk (Ab (dV 3) (Ab (dV 5) Ad)))))))
def Ws:List D->DH->R D:=Bu 2 4 ZEb
def ZFL:DS:=(sIf (dOr (Jc (Ax (dFn Ws (Ab (dV 0) (Ab (dV 1) Ad))))) (Jc (Ax (dFn Nk (Ab (dV 2) (Ab (dV 3) Ad)))))) La sNx)
def X3:List D->DH->R D:=Bu 4 0 ZFL
def ZHW:DS:=(Ah (sAs (dV 4) (Bg 4 (Am (gV 5) (Am (gV 6) (Am (gV 7) (Am (gV 8) Bj)))))) (Ah (sIf (Ax (dOp Cv (dV 7) (dC (.str "least")))) (sRt (dFn Bb (Ab (dV 0) (Ab (dV 2) Ad)))) sNx) (sRt (dFn Bb (Ab (dV 1) (Ab (dV 3) Ad))))))
def Yg:List D->DH->R D:=Bu 5 4 ZHW
def X4:DE:=(dOp Ay (dV 0) (dOp Aj (dV 1) (dC (.int 0))))
def Sw:DE:=(Fd (dOp Ay (Bt (dFn Mx (Ab (Bt (dSl (dV 0) (vE (dC (.int 1))) vF)) Ad))) (Bt (dFn Av (Ab (dC (.int 0)) Ad)))))
def ZF9:DS:=(Ah (sAs (dV 2) (Bg 2 (Am (gV 5) (Am (gV 6) Bj)))) (Ah (H9 "Course" (dV 0) (dV 1) "house") (Ah (H9 "Course" (dV 0) (dV 5) "levels") (Ah (H9 "Course" (dV 0) (dOp Bo (dV 3) (dOp Aj (dV 1) (dC (.int 0)))) "year_turn") (Ah (H9 "Course" (dV 0) (Ec (Cy (I9 2) (Ab (dV 4) (Ab (dV 6) Ad))) 2 [] (Bg 2 (Am (gV 0) (Am (gV 1) Bj))) Cd X4) "came") (Ah (H9 "Course" (dV 0) (Ec (Fx (dV 6)) 1 [] (gV 0) Cd Sw) "coming") (Ah (H9 "Course" (dV 0) (Fd (dOp Ln (dFn Av (Ab (dC .non) Ad)) (dFn Cz (Ab (dV 5) Ad)))) "page") (H9 "Course" (dV 0) (Fd (dFn Av Ad)) "reaches"))))))))
def S7:List D->DH->R D:=Bu 5 2 ZF9
def ZFs:DS:=(sIf (Ax (dOp Cv (dV 2) (dC (.int 0)))) (Pj (Ft "Course" (dV 0) "came") (dV 1) (dV 3) Ov) (Pj (dOp Aj (Ft "Course" (dV 0) "coming") (dV 1)) (dOp Gb (dV 2) (dC (.int 1))) (dV 3) Ov))
def Su:List D->DH->R D:=Bu 4 0 ZFs
def Pr:DS:=(sIf (Ax (dOp Cv (dOp Aj (dV 3) (dC (.int 1))) (dV 1))) (sRt (dV 2)) sNx)
def ZKY:DS:=(Ah (Dt (Cy Ie (Ab (dOp Aj (dV 0) (dC (.int 1))) Ad)) (Bg 2 (Am (gV 2) (Am (gV 3) Bj))) Pr) La)
def T7:List D->DH->R D:=Bu 2 2 ZKY
def ZEx:DS:=(Ah (sAs (dOp Aj (dOp Aj (dOp Aj (dV 0) (dC (.int 1))) (dV 1)) (dC (.int 2))) (gV 2)) (Ah (sIf (Ax (dOp Cv (dV 2) (dC (.str "sea")))) (sRt (dC .non)) sNx) (sRt (dFn T7 (Ab (dV 0) (Ab (dV 2) Ad))))))
def Uk:List D->DH->R D:=Bu 2 1 ZEx
def ZHo:DS:=(Ah (sAs (dFn Uk (Ab (Ft "Course" (dV 0) "house") (Ab (dV 1) Ad))) (gV 3)) (sIf (Ax (dOp Lx (dV 3) (dC .non))) (sEx (Jh "Course" "send" Su (dV 0) (Ab (dV 3) (Ab (dOp Aj (dOp Aj (dOp Aj (Ft "Course" (dV 0) "house") (dC (.int 1))) (dV 1)) (dC (.int 3))) (Ab (dV 2) Ad))))) sNx))
def Sx:List D->DH->R D:=Bu 3 1 ZHo
def Z7:DS:=(Ah (sAs (dFn Xm (Ab (dC (.int 0)) (Ab (dFn Ng (Ab (dV 5) (Ab (dOp Gb (dV 1) (dV 4)) Ad))) Ad))) (gV 7)) (sIf (Ax (dOp Cv (dV 6) (dC (.str "river")))) (sAu 2 (dV 7) Ov) (sAu 3 (dV 7) Ov)))
def ZHl:DS:=(Ah (sAs (dC (.int 0)) (gV 2)) (Ah (sAs (dC (.int 0)) (gV 3)) (Ah (Dt (Fx (dV 0)) (Bg 3 (Am (gV 4) (Am (gV 5) (Am (gV 6) Bj)))) Z7) (sRt (dFn Bb (Ab (dV 2) (Ab (dV 3) (Ab (dOp Gb (dOp Gb (dV 1) (dV 2)) (dV 3)) Ad))))))))
def Y8:List D->DH->R D:=Bu 2 6 ZHl
def V5:DS:=(sIf (Ax (dOp Nz (dV 3) (dV 1))) (sAs (dV 4) (gV 2)) sNx)
def ZJ2:DS:=(Ah (sAs (dFn Bb Ad) (gV 2)) (Ah (Dt (Fx (dV 0)) (Bg 2 (Am (gV 3) (Am (gV 4) Bj))) V5) (sRt (dV 2))))
def Yp:List D->DH->R D:=Bu 2 3 ZJ2
def ZEr:DS:=(Ah (sAs (dOp Aj (dOp Aj (Ft "Course" (dV 0) "house") (dC (.int 1))) (dV 1)) (gV 2)) (Ah (sAs (dOp Aj (Ft "Course" (dV 0) "came") (dV 1)) (gV 3)) (Ah (sAs (dFn Y8 (Ab (dFn Yp (Ab (dOp Aj (dV 2) (dC (.int 5))) (Ab (Ft "Course" (dV 0) "year_turn") Ad))) (Ab (dOp Ay (dOp Aj (Ft "Course" (dV 0) "levels") (dV 1)) (dV 3)) Ad))) (Bg 3 (Am (gV 4) (Am (gV 5) (Am (gV 6) Bj))))) (Ah (sAs (dFn Ng (Ab (dV 6) (Ab (dOp Aj (dV 2) (dC (.int 4))) Ad))) (gV 7)) (Ah (sAs (dOp Gb (dV 6) (dV 7)) (gV 8)) (Ah (sAs (dFn Bb (Ab (dV 3) (Ab (dC (.int 0)) (Ab (dV 8) (Ab (dV 4) (Ab (dV 5) (Ab (dV 7) Ad))))))) (gIx (Ft "Course" (dV 0) "page") (dV 1))) (Ah (sEx (Jh "Course" "send_down" Sx (dV 0) (Ab (dV 1) (Ab (dOp Ay (dV 4) (dV 8)) Ad)))) (sIf (Ax (dOp Lx (dOp Aj (dV 2) (dC (.int 6))) (dC .non))) (sEx (Jh "Course" "send" Su (dV 0) (Ab (dFn T7 (Ab (Ft "Course" (dV 0) "house") (Ab (dOp Aj (dOp Aj (dV 2) (dC (.int 6))) (dC (.int 0))) Ad))) (Ab (dOp Aj (dOp Aj (dV 2) (dC (.int 6))) (dC (.int 1))) (Ab (dV 5) Ad))))) sNx))))))))
def Vz:List D->DH->R D:=Bu 2 7 ZEr
def ZD2:DE:=(dOp Gb (dOp Aj (dV 0) (dC (.int 1))) (dV 1))
def Ow:DS:=(sIf (Ax (dOp Lx (dOp Aj (dV 3) (dC (.int 0))) (dC .non))) (Pj (dV 2) (dOp Aj (dV 3) (dC (.int 0))) (dOp Aj (dV 2) (dV 4)) Ov) sNx)
def ZJk:DS:=(Ah (sAs (Ec (Cy (I9 2) (Ab (dV 0) (Ab (dV 1) Ad))) 2 [] (Bg 2 (Am (gV 0) (Am (gV 1) Bj))) Cd ZD2) (gV 2)) (Ah (Dt (Cy Ie (Ab (dV 0) Ad)) (Bg 2 (Am (gV 4) (Am (gV 3) Bj))) Ow) (sRt (dV 2))))
def Q4:List D->DH->R D:=Bu 2 3 ZJk
def ZJj:DS:=(Ah (sAs (dOp Aj (dV 0) (dC (.int 1))) (gV 2)) (Ah (sAs (dFn Uk (Ab (dV 0) (Ab (dV 1) Ad))) (gV 3)) (Ah (sIf (dOr (Ax (dOp Ox (dV 3) (dC .non))) (Ax (dOp Iw (dOp Aj (dOp Aj (dV 2) (dV 1)) (dC (.int 3))) (dC (.int 0))))) (sRt (dC .non)) sNx) (Ah (sIf (dOr (Ax (dOp Cv (dOp Aj (dOp Aj (dV 2) (dV 1)) (dC (.int 0))) (dC (.str "basin")))) (Ax (dOp Cv (dOp Aj (dOp Aj (dV 2) (dV 3)) (dC (.int 0))) (dC (.str "basin"))))) (sRt (dC .non)) sNx) (sRt (dV 3))))))
def Rk:List D->DH->R D:=Bu 2 2 ZJj
def Te:DS:=(Ah (sAs (dOp Aj (dOp Aj (dV 0) (dC (.int 1))) (dV 4)) (gV 5)) (Ah (sAs (dFn Rk (Ab (dV 0) (Ab (dV 4) Ad))) (gV 6)) (Ah (sAs (dIf (Ax (dOp Ox (dV 6) (dC .non))) (dC .non) (Fi Mg (dV 1) (Ab (dV 6) Ad))) (gV 7)) (sIf (Ax (dOp Cv (dOp Aj (dV 5) (dC (.int 0))) (dC (.str "town")))) (sEx (Fi Fq (dV 3) (Ab (dFn Bb (Ab (dV 7) (Ab (dOp Aj (dV 2) (dV 4)) (Ab (dOp Aj (dV 5) (dC (.int 4))) (Ab (dOp Aj (dV 5) (dC (.int 5))) Ad))))) Ad))) (sEx (Fi Fq (dV 3) (Ab (dFn Bb (Ab (dV 7) (Ab (dOp Aj (dV 2) (dV 4)) (Ab (dC (.int 0)) (Ab (dC (.int 0)) Ad))))) Ad)))))))
def ZHQ:DS:=(Ah (sAs (Fd (dFn Av Ad)) (gV 3)) (Ah (Dt (Fx (dV 1)) (gV 4) Te) (sRt (dV 3))))
def ZAS:List D->DH->R D:=Bu 3 5 ZHQ
def ZEA:DE:=(dFn Bb (Ab (dOp Aj (dV 1) (dC (.int 3))) (Ab (dV 0) Ad)))
def ZBG:DE:=(dV 1)
def ZGD:DS:=(Ah (sAs (Bt (dFn V2 (Ab (Bt (Ec (Cy Ie (Ab (dV 0) Ad)) 2 [] (Bg 2 (Am (gV 0) (Am (gV 1) Bj))) Cd ZEA)) Ad))) (gV 1)) (sRt (Ec (Fx (dV 1)) 2 [] (Bg 2 (Am (gV 0) (Am (gV 1) Bj))) Cd ZBG)))
def ZAK:List D->DH->R D:=Bu 1 1 ZGD
def S9:DS:=(Ah (sEx (Fi Fq (dV 2) (Ab (dV 3) Ad))) (sAs (dOp Aj (dOp Aj (dV 0) (dV 3)) (dC (.int 0))) (gV 3)))
def N7:DB:=(Ax (dOp Lx (dV 3) (dC .non)))
def ZI2:DS:=(Ah (sAs (Fd (dFn Av (Ab (dV 1) Ad))) (gV 2)) (Ah (sAs (dOp Aj (dOp Aj (dV 0) (dV 1)) (dC (.int 0))) (gV 3)) (Ah (sWh N7 S9 fuel) (sRt (dV 2)))))
def Wu:List D->DH->R D:=Bu 2 2 ZI2
def ZCj:DE:=(dOp Aj (dV 1) (dV 0))
def Yo:DS:=(Pj (dV 2) (dV 6) (dV 5) Gb)
def Rw:DS:=(Ah (sAs (Bt (dFn Wu (Ab (dV 0) (Ab (dV 3) Ad)))) (gV 4)) (Ah (sAs (dFn Ng (Ab (dOp Aj (dOp Aj (dV 0) (dV 3)) (dC (.int 2))) (Ab (dFn K7 (Ab (Bt (Ec (Fx (dV 4)) 1 [2] (gV 0) Cd ZCj)) Ad)) Ad))) (gV 5)) (Ah (sAs (dV 5) (gIx (dV 1) (dV 3))) (Dt (Fx (dV 4)) (gV 6) Yo))))
def ZEq:DS:=(Ah (sAs (Fd (dOp Ln (dFn Av (Ab (dC (.int 0)) Ad)) (dFn Cz (Ab (dV 0) Ad)))) (gV 1)) (Ah (sAs (Fd (dFn Q4 (Ab (dV 0) (Ab (dV 1) Ad)))) (gV 2)) (Ah (Dt (Fx (Bt (dFn ZAK (Ab (dV 0) Ad)))) (gV 3) Rw) (sRt (dV 1)))))
def W8:List D->DH->R D:=Bu 1 6 ZEq
def M6:DS:=(Ah (sAs (dFn Bb (Ab (dOp Ay (dV 5) (dV 6)) (Ab (dV 5) (Ab (dC (.int 0)) (Ab (dV 6) (Ab (dC (.int 0)) (Ab (dC (.int 0)) Ad))))))) (gIx (Ft "Course" (dV 0) "page") (dV 4))) (sIf (Ax (dOp Cv (dV 4) (dOp Aj (dV 1) (dUn Ry (dC (.int 1)))))) (sEx (Jh "Course" "send_down" Sx (dV 0) (Ab (dV 4) (Ab (dV 6) Ad)))) sNx))
def ZIv:DS:=(Ah (sAs (Bt (dFn ZAS (Ab (Ft "Course" (dV 0) "house") (Ab (dV 1) (Ab (Ft "Course" (dV 0) "came") Ad))))) (gV 2)) (Ah (sAs (Bt (dFn W8 (Ab (dV 2) Ad))) (gV 3)) (Ah (Dt (Cy (I9 3) (Ab (dV 1) (Ab (dV 3) (Ab (Bt (dFn Q4 (Ab (dV 2) (Ab (dV 3) Ad)))) Ad)))) (Bg 3 (Am (gV 4) (Am (gV 5) (Am (gV 6) Bj)))) M6) (sEx (Fi Fq (Ft "Course" (dV 0) "reaches") (Ab (Fd (dFn Bb (Ab (dV 1) (Ab (dV 2) Ad)))) Ad))))))
def ZAc:List D->DH->R D:=Bu 2 5 ZIv
def Z5:DS:=(Ah (sAs (dFn Rk (Ab (dV 0) (Ab (dV 2) Ad))) (gV 3)) (sIf (Ax (dOp Lx (dV 3) (dC .non))) (sAs (dOp Aj (dV 1) (dV 3)) (gIx (dV 1) (dV 2))) sNx))
def ZGy:DS:=(Ah (sAs (Fd (dLR (Ab (dFn Cz (Ab (dOp Aj (dV 0) (dC (.int 1))) Ad)) Ad))) (gV 1)) (Ah (Dt (Cy rng3 (Ab (dOp Gb (dFn Cz (Ab (dOp Aj (dV 0) (dC (.int 1))) Ad)) (dC (.int 1))) (Ab (dUn Ry (dC (.int 1))) (Ab (dUn Ry (dC (.int 1))) Ad)))) (gV 2) Z5) (sRt (dV 1))))
def Wj:List D->DH->R D:=Bu 1 3 ZGy
def Xf:DE:=(dV 0)
def U6:DB:=(Ax (dOp Cv (dV 1) (dV 2)))
def Qh:DS:=(sIf (Ax (dOp Cv (dOp Aj (dOp Aj (dOp Aj (Ft "Course" (dV 0) "house") (dC (.int 1))) (dV 2)) (dC (.int 0))) (dC (.str "basin")))) (sEx (Jh "Course" "go_basin" Vz (dV 0) (Ab (dV 2) Ad))) (sIf (Ax (dOp Cv (dV 3) (dV 2))) (sEx (Jh "Course" "go_reach" ZAc (dV 0) (Ab (Bt (Ec (Cy Ie (Ab (dV 1) Ad)) 2 [2] (Bg 2 (Am (gV 0) (Am (gV 1) Bj))) U6 Xf)) Ad))) sNx))
def ZFe:DS:=(Ah (sAs (Bt (dFn Wj (Ab (Ft "Course" (dV 0) "house") Ad))) (gV 1)) (Dt (Cy Ie (Ab (dV 1) Ad)) (Bg 2 (Am (gV 2) (Am (gV 3) Bj))) Qh))
def Wf:List D->DH->R D:=Bu 1 3 ZFe
def Ye:DE:=(dOp Aj (dV 0) (dC (.int 5)))
def Xx:DE:=(dFn Fy (Ab (dV 0) Ad))
def ZGH:DS:=(sRt (dFn Bb (Ab (dFn Fy (Ab (Bt (Ec (Fx (Ft "Course" (dV 0) "page")) 1 [] (gV 0) Cd Ye)) Ad)) (Ab (dFn Fy (Ab (Bt (Ec (Fx (Ft "Course" (dV 0) "coming")) 1 [] (gV 0) Cd Xx)) Ad)) Ad))))
def Wk:List D->DH->R D:=Bu 1 0 ZGH
def ZHb:DS:=(Ah (sAs (ZC2 "Course" S7 (Ab (dV 0) (Ab (dV 1) (Ab (dV 2) (Ab (dV 3) Ad))))) (gV 4)) (Ah (sEx (Jh "Course" "go" Wf (dV 4) Ad)) (sRt (dFn Bb (Ab (dFn Fy (Ab (Ft "Course" (dV 4) "page") Ad)) (Ab (Jh "Course" "state_behind" Wk (dV 4) Ad) Ad))))))
def Vs:List D->DH->R D:=Bu 4 1 ZHb
def Tu:DS:=(Ah (sAs (dFn Vs (Ab (dV 0) (Ab (dV 1) (Ab (dV 5) (Ab (dV 6) Ad))))) (Bg 2 (Am (gV 7) (Am (gV 1) Bj)))) (sEx (Fi Fq (dV 4) (Ab (dV 7) Ad))))
def ZKA:DS:=(Ah (sAs (Fd (dFn Av Ad)) (gV 4)) (Ah (Dt (ZBQ (Ab (dV 3) Ad) (dV 2)) (Bg 2 (Am (gV 5) (Am (gV 6) Bj))) Tu) (sRt (dFn Bb (Ab (dV 4) (Ab (dV 1) Ad))))))
def Mq:List D->DH->R D:=Bu 4 4 ZKA
def ZIj:DS:=(Ah (sEx (dFn Ww (Ab (dV 0) (Ab (dV 6) Ad)))) (Ah (sEx (dFn X3 (Ab (dV 1) (Ab (dV 2) (Ab (dV 4) (Ab (dV 5) Ad)))))) (Ah (sAs (dFn Yg (Ab (dV 1) (Ab (dV 2) (Ab (dV 4) (Ab (dV 5) (Ab (dV 6) Ad)))))) (Bg 2 (Am (gV 7) (Am (gV 8) Bj)))) (Ah (sAs (Bt (dFn Mq (Ab (dV 0) (Ab (dV 7) (Ab (dV 3) (Ab (dV 8) Ad)))))) (Bg 2 (Am (gV 9) (Am (gV 10) Bj)))) (sRt (dFn Xg (Ab (dV 9) (Ab (dV 6) Ad))))))))
def U4:List D->DH->R D:=Bu 7 4 ZIj
def Ul:DE:=(dOp Aj (dOp Aj (dV 0) (dOp Aj (dV 1) (dC (.int 1)))) (dFn Wm (Ab (dOp Aj (dV 1) (dC (.int 0))) Ad)))
def ZFN:DS:=(sRt (dOp Cv (dV 9) (dFn Xi (Ab (dV 11) (Ab (dV 7) Ad)))))
def U7:DS:=(Ah (sAs (Bt (Ec (Fx (dV 10)) 1 [7] (gV 0) Cd Ul)) (gV 11)) ZFN)
def ZES:DS:=(Ah (sIf (Ax (dOp Cv (dOp Aj (dV 7) (dC (.int 2))) (dC (.str "most")))) (sAs (dOp Aj (Bt (dFn Mq (Ab (dV 1) (Ab (dV 5) (Ab (dV 2) (Ab (dV 6) Ad)))))) (dC (.int 0))) (gV 10)) sNx) U7)
def Zi:DS:=(Ah (sAs (dOp Aj (Bt (dFn Mq (Ab (dV 1) (Ab (dV 3) (Ab (dV 2) (Ab (dV 4) Ad)))))) (dC (.int 0))) (gV 10)) ZES)
def ZJa:DS:=(Ah (sIf (dOr (Ax (dOp Hi (dV 8) (Bt (dFn Av (Ab (dV 4) (Ab (dV 6) Ad)))))) (Jc (Ax (dFn Rr (Ab (dV 9) Ad))))) (sRt (dC (.bl vH))) sNx) Zi)
def Yy:DS:=(Ah (sAs (dFn U4 (Ab (dV 1) (Ab (dV 3) (Ab (dV 5) (Ab (dV 2) (Ab (dOp Aj (dV 8) (dC (.int 0))) (Ab (dOp Aj (dV 8) (dC (.int 1))) (Ab (dV 7) Ad)))))))) (gV 9)) ZJa)
def ZFg:DS:=(Ah (sAs (Bt (dFn Av (Ab (Bt (dFn Mx (Ab (dV 4) Ad))) (Ab (Bt (dFn Mx (Ab (dV 6) Ad))) Ad)))) (gV 8)) Yy)
def Ml:DS:=(Ah (sIf (Ax (dOp Ox (dV 7) (dC .non))) (sRt (dC (.bl vG))) sNx) ZFg)
def ZJg:DS:=(Ah (sAs (Bt (dFn Ri (Ab (dV 0) (Ab (dV 1) Ad)))) (gV 7)) Ml)
def ZF4:DS:=(Ah (sAs (Bt (dFn R9 (Ab (dV 0) (Ab (dV 1) (Ab (dV 3) (Ab (dV 4) Ad)))))) (Bg 2 (Am (gV 5) (Am (gV 6) Bj)))) ZJg)
def ZKN:DS:=(Ah (sAs (Bt (dFn Th (Ab (dV 0) (Ab (dV 1) (Ab (dOp Bo (dFn Az (Ab (dV 0) (Ab (dC (.int 2)) Ad))) (dC (.int 7))) Ad))))) (gV 4)) ZF4)
def ZKm:DS:=(Ah (sAs (dFn Us (Ab (dV 0) (Ab (dV 1) Ad))) (gV 3)) ZKN)
def ZGN:DS:=(Ah (sAs (dFn Qy (Ab (dV 0) Ad)) (gV 2)) ZKm)
def ZAU:DS:=(Ah (sAs (dFn Tv (Ab (dV 0) Ad)) (gV 1)) ZGN)
def My:List D->DH->R D:=Bu 1 11 ZAU
def Holds:Prop:=∀ns:List Int,ns.length<=63->∃G,My [.fl (ns.map D.int)] []=.ok (.bl vG) G
end Law
namespace Law
open PySem L2 DL
variable{ns xs l:List Int}{F T P ca fl lv f lv':Nat->Int}{m i d j p to dl:Nat}{G L:DH}{A B:DO}{ds:List D}{ws ms:List Nat}{α:Type}{t c a at_ u yr x:Int}{H LV e:D}{pg:Nat->List Int}{S:DSt}{co co':Nat->Nat->Int}{nm:Nat->Str}{s2:Option D}{fls fls':List (Nat->Int)}{pgs:List (Nat->List Int)}{b:Bool}
theorem ZJy:∃b,∀G,Mw [.fl (ns.map D.int)] G=.ok (.bl b) G:=by
 cases ns with
 |nil=>exact⟨vH,λG=>by unfold Mw ZDS;rw[Bp];simp[By]⟩
 |cons n r=>
  refine⟨decide (n<0)||decide (1000000000000000000<=n),λG=>?_⟩;unfold Mw ZDS;rw[Bp];have a0:atI ((n::r).map D.int) 0=vE (.int n):=Fe (k:=0) rfl rfl;by_cases h:n<0
  ·simp[a0,h,By]
  ·simp[a0,h,By]
noncomputable def offV:Nat->Int->Int
 |0,v=>v
 |n+1,v=>offV n (v/100000000)
theorem ZHw{k:D}{G:DH}:∀(n:Nat)(j:Nat)(v:Int)(x:Option D),∃x',Bq (gV 2) Ui (Cm j n) [vE (.int v),vE k,x] G=.nx [vE (.int (offV n v)),vE k,x'] G
 |0,j,v,x=>⟨x,by rw[Jy,Ei];rfl⟩
 |n+1,j,v,x=>by
  obtain⟨x',ih⟩:=ZHw (k:=k) (G:=G) n (j+1) (v/100000000) (vE (.int j));refine⟨x',?_⟩;have hb:Ui [vE (.int v),vE k,vE (.int j)] G=.nx [vE (.int (v/100000000)),vE k,vE (.int j)] G:=by unfold Ui;simp
  rw[Io,Dg];simp only[Dr,R.Dm,qJ,hb,Ea];have e1:((j:Int)+1)=((j+1:Nat):Int):=by lia
  rw[e1,ih]
  rfl
theorem ZFW{v:Int}{k:Nat}(hk:k<=1000):∃r:Int,(0<=r/\r<100000000)/\∀G,Rq [.int v,.int k] G=.ok (.int r) G:=by
 by_cases h:0<=v/\v<1000000000000000000
 ·let a:=(v+1009*(k:Int)+7)%999999937;let b:=a*a%999999929;refine⟨b*(b+k)%99999989,by lia,λG=>?_⟩;have ha:0<=a/\a<999999937:=by lia
  have hb:0<=b/\b<999999929:=by lia
  unfold Rq ZCm;rw[Bp];have m1:Bk (.int a) (.int a)=λG=>R.ok (.int (a*a)) G:=by funext G;exact Je (by lia) (by lia)
  have m2:Bk (.int b) (.int (b+k))=λG=>R.ok (.int (b*(b+k))) G:=by funext G;exact Je (by lia) (by lia)
  simp -implicitDefEqProofs [h.1,h.2]
  rw[show(v+1009*(k:Int)+7)%999999937=a from rfl,m1]
  simp -implicitDefEqProofs
  rw[show a*a%999999929=b from rfl,m2]
  simp -implicitDefEqProofs [By]
 ·refine⟨offV k v%100000000,by lia,λG=>?_⟩;obtain⟨x',hx⟩:=ZHw (k:=.int k) (G:=G) k 0 v vF;have hx':Bq (gV 2) Ui (Cm 0 k) [vE (.int v),vE (.int k),vF] G=.nx [vE (.int (offV k v)),vE (.int k),x'] G:=hx;unfold Rq ZCm;rw[Bp];have hr:inR (k:Int):=Gu (by lia) (by lia);by_cases h0:0<=v
  ·have h1:¬v<1000000000000000000:=λz=>h ⟨h0,z⟩
   simp -implicitDefEqProofs [h0,h1,hr,hx',By]
  ·simp -implicitDefEqProofs [h0,hr,hx',By]
theorem ZKa(hl:ns.length<=63){k:Nat}(hk:k<=1000):∃v:Int,∀G,Az [.fl (ns.map D.int),.int k] G=.ok (.int v) G:=by
 obtain⟨b,ht⟩:=ZJy (ns:=ns);have hd:((k:Int)/14)=((k/14:Nat):Int):=by lia
 have hm:((k:Int)%14)=((k%14:Nat):Int):=by lia
 cases b with
 | true=>
  by_cases h:1+k/14<ns.length
  ·obtain⟨r,hr,ho⟩:=ZFW (v:=ns[1+k/14]) (k:=k%14) (by lia);refine⟨r,λG=>?_⟩;unfold Az Qg;rw[Bp];have a1:atI (ns.map D.int) (1+(k:Int)/14)=vE (.int ns[1+k/14]):=Fe (k:=1+k/14) (by lia) (by rw[zx,zJ h];rfl);have hc:(1+(k:Int)/14)<ns.length:=by lia
   simp -implicitDefEqProofs [ht,hc,a1];rw[hm,ho];simp -implicitDefEqProofs [By]
  ·obtain⟨r,hr,ho⟩:=ZFW (v:=0) (k:=k%14) (by lia);refine⟨r,λG=>?_⟩;unfold Az Qg;rw[Bp];have hc:¬(1+(k:Int)/14)<ns.length:=by lia
   simp -implicitDefEqProofs [ht,hc];rw[hm,ho];simp -implicitDefEqProofs [By]
 | false=>
  by_cases h:k<ns.length
  ·refine⟨ns[k],λG=>?_⟩;unfold Az Qg;rw[Bp];have a1:atI (ns.map D.int) (k:Int)=vE (.int ns[k]):=Fe (k:=k) rfl (by rw[zx,zJ h];rfl);simp -implicitDefEqProofs [ht,h,a1,By]
  ·have m0:∀G,Bk (.int k) (.int k) G=R.ok (.int ((k:Int)*k)) G:=λG=>Je (by lia) (by lia)
   by_cases h0:0<ns.length
   ·have hi:k%ns.length<ns.length:=Nat.mod_lt _ h0;refine⟨48271*((k:Int)*k+7*ns.length)%2147483647+ns[k%ns.length]*69621%2147483629,λG=>?_⟩;unfold Az Qg;rw[Bp];have a1:atI (ns.map D.int) ((k:Int)%ns.length)=vE (.int ns[k%ns.length]):=Fe (k:=k%ns.length) (by simp) (by rw[zx,zJ hi];rfl);simp -implicitDefEqProofs [ht,h,m0,h0,a1,By]
   ·have e:ns=[]:=qP (by lia);subst e;refine⟨48271*((k:Int)*k+7*0)%2147483647,λG=>?_⟩;unfold Az Qg;rw[Bp];have ht':∀G,Mw [.fl []] G=.ok (.bl vH) G:=ht;have hk0:¬(k:Int)<0:=by lia
    simp -implicitDefEqProofs [ht',hk0,m0,By]
theorem cells(hl:ns.length<=63):∃f:Nat->Int,∀k:Nat,k<=1000->∀G,Az [.fl (ns.map D.int),.int k] G=.ok (.int (f k)) G:=by refine⟨λk=>if h:k<=1000 then(ZKa hl h).choose else 0,λk hk=>?_⟩;simp only[dif_pos hk];exact(ZKa hl hk).choose_spec
structure Row where
 down:Option Nat
 water:Int
 need:Int
 rank:Int
variable{rs:List Row}
noncomputable def dnD:Option Nat->D
 |none=>.non
 |some d=>.int d
def Row.enc(r:Row):D:=.tup [dnD r.down,.int r.water,.int r.need,.int r.rank]
@[simp]theorem ZUD{n:Nat}{o:Option Nat}:bel n (dnD o)=vG:=by cases o<;>rfl
@[simp]theorem ZPr{n:Nat}{r:Row}:bel n r.enc=vG:=by simp[Row.enc]
@[simp]theorem ZUH{n:Nat}:bels n (rs.map Row.enc)=vG:=G9 λr _=>ZPr
@[simp]theorem ZJP{n:Nat}:bels n (xs.map D.int)=vG:=G9 λr _=>rfl
structure Fine (k n:Nat) (r:Row):Prop where
 dn:∀d,r.down=vE d->k<d/\d<n
 w0:0<=r.water
 n0:0<=r.need
 r0:0<=r.rank
def Reach(rs:List Row):Prop:=∀k r,rs[k]?=vE r->Fine k rs.length r
noncomputable def tab(n:Nat)(F:Nat->Int):List D:=(zZ n).map λi=>D.int (F i)
def fset(F:Nat->Int)(d:Nat)(v:Int):Nat->Int:=λi=>if i=d then v else F i
@[simp]theorem ZQo{n:Nat}:(tab n F).length=n:=by simp[tab]
@[simp]theorem Jj{n:Nat}:bels m (tab n F)=vG:=G9 λ_ _=>rfl
theorem Mz{n:Nat}(h:i<n):(tab n F)[i]?=vE (.int (F i)):=by unfold tab;rw[zx,zL h];rfl
theorem Hg{n:Nat}(h:i<n):atI (tab n F) (i:Int)=vE (.int (F i)):=Fe rfl (Mz h)
theorem R8{n:Nat}{v:Int}:(tab n F).set d (.int v)=tab n (fset F d v):=by
 refine j1 λi=>?_
 by_cases hi:i<n
 ·by_cases e:d=i
  ·subst e;rw[qU (by simpa using hi),Mz hi];simp[fset]
  ·rw[qM e,Mz hi,Mz hi];have:i≠d:=λz=>e z.symm
   simp[fset,this]
 ·rw[zA (by simp;lia),zA (by simp;lia)]
theorem ZFX{n:Nat}{F':Nat->Int}(h:∀i,i<n->F i=F' i):tab n F=tab n F':=by
 unfold tab;refine qk λi hi=>?_
 rw[h i (qW.mp hi)]
noncomputable def col(g:Row->Int)(rs:List Row)(i:Nat):Int:=match rs[i]? with
 |some r=>g r
 |none=>0
def De(rs:List Row)(i:Nat):Option Nat:=rs[i]?.bind Row.down
theorem Jl(h:Reach rs){k:Nat}(e:De rs k=vE d):k<d/\d<rs.length:=by
 unfold De at e;cases hr:rs[k]? with
 |none=>rw[hr]at e;cases e
 |some r=>rw[hr]at e;exact(h k r hr).dn d e
theorem Zg{k:Nat}(hk:k<rs.length):De rs k=rs[k].down:=by unfold De;rw[zJ hk];rfl
theorem ZGz{k:Nat}(hk:¬k<rs.length):De rs k=vF:=by unfold De;rw[zA (by lia)];rfl
def gstep(F:Nat->Int)(k:Nat)(o:Option Nat):Nat->Int:=match o with
 |none=>F
 |some d=>fset F d (F d+F k)
def gat(rs:List Row):Nat->Nat->(Nat->Int)->Nat->Int
 |0,_,F=>F
 |m+1,k,F=>gat rs m (k+1) (gstep F k (De rs k))
noncomputable abbrev gath(rs:List Row)(F:Nat->Int):Nat->Int:=gat rs rs.length 0 F
theorem ZBj{k:Nat}(hk:k<rs.length):atI (rs.map Row.enc) (k:Int)=vE (.tup [dnD (De rs k),.int (col Row.water rs k),.int (col Row.need rs k),.int (col Row.rank rs k)]):=
 Fe rfl (by rw[zx,Zg hk];simp[col,zJ hk,Row.enc])
theorem ZGk(hR:Reach rs){t:D}{G:DH}:∀(m k:Nat)(F:Nat->Int)(x y:Option D),k+m=rs.length->∃x' y',
  Bq (Bg 2 (Am (gV 4) (Am (gV 3) Bj))) Ow ((Er (rs.map Row.enc)).drop k) [vE (.fl (rs.map Row.enc)),vE t,vE (.ref G.length),x,y] (G++[.lst (tab rs.length F)])=
   .nx [vE (.fl (rs.map Row.enc)),vE t,vE (.ref G.length),x',y'] (G++[.lst (tab rs.length (gat rs m k F))])
 |0,k,F,x,y,h=>⟨x,y,by rw[zP (by rw[Lg];simp;lia),Ei];rfl⟩
 | m+1,k,F,x,y,h=>by
  have hk:k<rs.length:=by lia
  have e0:(Er (rs.map Row.enc)).drop k=.tup [.int k,rs[k].enc]::(Er (rs.map Row.enc)).drop (k+1):=by rw[zM (by rw[Lg];simpa using hk)];simp[Er]
  obtain⟨x',y',ih⟩:=ZGk hR (t:=t) (G:=G) m (k+1) (gstep F k (De rs k)) (vE rs[k].enc) (vE (.int k)) (by lia);refine⟨x',y',?_⟩;have hb:Ow [vE (.fl (rs.map Row.enc)),vE t,vE (.ref G.length),vE rs[k].enc,vE (.int k)] (G++[.lst (tab rs.length F)])=
    .nx [vE (.fl (rs.map Row.enc)),vE t,vE (.ref G.length),vE rs[k].enc,vE (.int k)] (G++[.lst (tab rs.length (gstep F k (De rs k)))]):=by
   unfold Ow;cases hd:De rs k with
   |none=>
    have:rs[k].down=vF:=by rw[<-Zg hk];exact hd
    simp[Row.enc,this,dnD,gstep]
   |some d=>
    have e:rs[k].down=vE d:=by rw[<-Zg hk];exact hd
    have hdn:=Jl hR hd;have g0:(G++[DO.lst (tab rs.length F)])[G.length]?=vE (.lst (tab rs.length F)):=by simp
    simp[Row.enc,e,dnD,gstep,Vq g0 (Hg hdn.2),Ej,Hg hk,G7,Jm,hdn.2,R8]
  rw[e0,Dg];simp[Dr,hb];exact ih
def Lz(rs:List Row)(i:Nat):D:=.tup [dnD (De rs i),.int (col Row.water rs i),.int (col Row.need rs i),.int (col Row.rank rs i)]
theorem ZJq:rs.map Row.enc=(zZ rs.length).map (Lz rs):=by
 refine j1 λi=>?_
 by_cases hi:i<rs.length
 ·rw[zx,zx,zL hi,zJ hi];simp[Lz,Row.enc,Zg hi,col,zJ hi]
 ·rw[zA (by simp;lia),zA (by simp;lia)]
theorem ZIo(hR:Reach rs)(hl:rs.length<=40){t:D}(ht:Cj t G=vE (tab rs.length T)):Q4 [.fl (rs.map Row.enc),t] G=.ok (.ref G.length) (G++[.lst (tab rs.length (gath rs λi=>col Row.water rs i-T i))]):=by
 obtain⟨x',y',hL⟩:=ZGk hR (t:=t) (G:=G) rs.length 0 (λi=>col Row.water rs i-T i) vF vF (by lia);have hz:∀j,Gz [.fl (rs.map Row.enc),t] j G=vE ((zZ rs.length).map λi=>D.tup [Lz rs i,.int (T i)])[j]? :=λj=>by
  rw[ZB4 ZFm ht,Oq,ZJq,tab,List.zip_map',qF]
  rfl
 let F:D->Option D:=λd=>match d with
  |.tup [.tup [_,.int w,_,_],.int v]=>vE (.int (w-v))
  |_=>vF
 have hc:Dw (Gz [.fl (rs.map Row.enc),t]) (Bg 2 (Am (gV 0) (Am (gV 1) Bj))) Cd ZD2 (Bm 2 [] [vE (.fl (rs.map Row.enc)),vE t,vF,vF,vF]) rs.length 0 G=.ok (tab rs.length λi=>col Row.water rs i-T i) G:=by
  rw[Vw (F:=F) hz (λx hx=>?_) (by simp)]
  ·congr 1
   rw[qX];show(zZ rs.length).filterMap (λi=>vE (D.int (col Row.water rs i-T i)))=_;rw[qz]
   rfl
  ·obtain⟨i,_,rfl⟩:=zH.mp hx;refine⟨[vE (Lz rs i),vE (.int (T i))],by simp[Bm],.inr ⟨rfl,.int (col Row.water rs i-T i),?_,rfl⟩⟩;unfold ZD2;simp[Lz]
 have hl2:rs.length<=1000000:=by lia
 unfold Q4 ZJk;rw[Bp];have hL':Bq (Bg 2 (Am (gV 4) (Am (gV 3) Bj))) Ow (Er (rs.map Row.enc)) [vE (.fl (rs.map Row.enc)),vE t,vE (.ref G.length),vF,vF] (G++[.lst (tab rs.length λi=>col Row.water rs i-T i)])=_:=hL;have hcf:El (Ez 0 (.fl (rs.map Row.enc))) (Bg 2 (Am (gV 4) (Am (gV 3) Bj))) Ow rs.length 0 [vE (.fl (rs.map Row.enc)),vE t,vE (.ref G.length),vF,vF] (G++[.lst (tab rs.length λi=>col Row.water rs i-T i)])=.nx [vE (.fl (rs.map Row.enc)),vE t,vE (.ref G.length),x',y'] (G++[.lst (tab rs.length (gath rs λi=>col Row.water rs i-T i))]):=by
  have:=ZP4 (S:=[vE (.fl (rs.map Row.enc)),vE t,vE (.ref G.length),vF,vF]) (G:=G++[.lst (tab rs.length λi=>col Row.water rs i-T i)]) (g:=Bg 2 (Am (gV 4) (Am (gV 3) Bj))) (b:=Ow) (xs:=rs.map Row.enc);rw[qQ]at this;rw[this];exact hL'
 simp[Vi (ZFm (xs:=rs.map Row.enc)) ht,hc,Av,hl2,hcf,Ga]
theorem ZIi{g:Row->Int}(h:∀r∈rs,0<=g r)(k:Nat):0<=col g rs k:=by
 unfold col;split
 ·rename_i r hr;exact h r (List.mem_of_getElem? hr)
 ·exact qq _
theorem Reach.need(h:Reach rs)(k:Nat):0<=col Row.need rs k:=ZIi (λr hr=>by obtain⟨i,hi,rfl⟩:=q9 hr;exact(h i _ (zJ hi)).n0) k
theorem Reach.water(h:Reach rs)(k:Nat):0<=col Row.water rs k:=ZIi (λr hr=>by obtain⟨i,hi,rfl⟩:=q9 hr;exact(h i _ (zJ hi)).w0) k
theorem ZI8(h:bels (G.length+1) ds=vG):freeze (G++[A]) (.ok (.ref (G.length+1)) (G++A:: .lst ds::L))=.ok (.fl ds) (G++[A]):=by have:=Fb (G:=G++[A]) (ds:=ds) (L:=L) (by simpa using h);simpa using this
theorem ZIq(h:bels (G.length+1) ds=vG):tidy (G++[A]) (.ok (.ref (G.length+1)) (G++A:: .lst ds::L))=.ok (.ref (G.length+1)) (G++[A,.lst ds]):=by have:=Ga (G:=G++[A]) (ds:=ds) (L:=L) (by simpa using h);simpa using this
theorem ZAo(h:bels (G.length+2) ds=vG):freeze (G++[A,B]) (.ok (.ref (G.length+2)) (G++A::B:: .lst ds::L))=.ok (.fl ds) (G++[A,B]):=by have:=Fb (G:=G++[A,B]) (ds:=ds) (L:=L) (by simpa using h);simpa using this
def M8(rs:List Row):Nat->Nat->List Nat
 |0,k=>[k]
 |m+1,k=>k::(match De rs k with
  |none=>[]
  |some d=>M8 rs m d)
def way(rs:List Row)(k:Nat):List Nat:=M8 rs rs.length k
theorem ZHZ(hR:Reach rs):∀(m m' k:Nat),rs.length<=m+k+1->rs.length<=m'+k+1->M8 rs m k=M8 rs m' k
 | 0,m',k,h,h'=>by
  have hn:De rs k=vF:=by
   cases hd:De rs k with
   |none=>rfl
   |some d=>have:=Jl hR hd;lia
  cases m' with
  |zero=>rfl
  |succ m'=>simp[M8,hn]
 | m+1,0,k,h,h'=>by
  have hn:De rs k=vF:=by
   cases hd:De rs k with
   |none=>rfl
   |some d=>have:=Jl hR hd;lia
  simp[M8,hn]
 | m+1,m'+1,k,h,h'=>by
  cases hd:De rs k with
  |none=>simp[M8,hd]
  |some d=>
   have:=Jl hR hd;simp[M8,hd,ZHZ hR m m' d (by lia) (by lia)]
def Jw(rs:List Row):Option Nat->List Nat
 |none=>[]
 |some d=>way rs d
theorem Kf(hR:Reach rs)(k:Nat):way rs k=k::Jw rs (De rs k):=by
 unfold way;rw[ZHZ hR rs.length (rs.length+1) k (by lia) (by lia)];show k::_=_;cases hd:De rs k with
 |none=>rfl
 |some d=>rfl
@[simp]theorem ZUb:dnD (vE d)=.int d:=id rfl
noncomputable def Bf(ws:List Nat):List D:=ws.map λ(i:Nat)=>D.int (i:Int)
@[simp]theorem ZIf:bels m (Bf ws)=vG:=G9 λ_ _=>rfl
@[simp]theorem ZTt:(Bf ws).length=ws.length:=by simp[Bf]
theorem ZFG(hR:Reach rs)(hl:rs.length<=40){x:Option D}:∀(m:Nat)(o:Option Nat)(acc:List Nat),0<m->(∀d,o=vE d->d<rs.length/\rs.length-d<m/\acc.length+(rs.length-d)<=100)->
  sWh N7 S9 m [vE (.fl (rs.map Row.enc)),x,vE (.ref G.length),vE (dnD o)] (G++[.lst (Bf acc)])=.nx [vE (.fl (rs.map Row.enc)),x,vE (.ref G.length),vE .non] (G++[.lst (Bf (acc++Jw rs o))])
 |0,o,acc,h0,h=>by lia
 |m+1,vF,acc,h0,h=>by
  have ht:N7 [vE (.fl (rs.map Row.enc)),x,vE (.ref G.length),vE (dnD vF)] (G++[.lst (Bf acc)])=.ok vH (G++[.lst (Bf acc)]):=by unfold N7;simp[dnD]
  unfold sWh;rw[ht];simp[Jw,dnD]
 |m+1,vE d,acc,h0,h=>by
  obtain⟨h1,h2,h3⟩:=h d rfl;have ht:N7 [vE (.fl (rs.map Row.enc)),x,vE (.ref G.length),vE (dnD (vE d))] (G++[.lst (Bf acc)])=.ok vG (G++[.lst (Bf acc)]):=by unfold N7;simp[dnD]
  have hla:acc.length<1000000:=by lia
  have hb:S9 [vE (.fl (rs.map Row.enc)),x,vE (.ref G.length),vE (dnD (vE d))] (G++[.lst (Bf acc)])=.nx [vE (.fl (rs.map Row.enc)),x,vE (.ref G.length),vE (dnD (De rs d))] (G++[.lst (Bf (acc++[d]))]):=by unfold S9;simp[Ej,G7,hla,ZBj h1,Bf]
  unfold sWh;rw[ht];simp only[R.Dm,if_true,hb,Ea];rw[ZFG hR hl m (De rs d) (acc++[d]) (by lia) (λe he=>by have:=Jl hR he;simp;lia)]
  have:Jw rs (vE d)=d::Jw rs (De rs d):=Kf hR d;rw[this];simp
theorem ZTI(hR:Reach rs)(hl:rs.length<=40){k:Nat}(hk:k<rs.length)(G:DH):Wu [.fl (rs.map Row.enc),.int k] G=.ok (.ref G.length) (G++[.lst (Bf (way rs k))]):=by
 have hL:=ZFG hR hl (x:=vE (.int k)) (G:=G) fuel (De rs k) [k] (by unfold fuel;lia) (λd hd=>by have:=Jl hR hd;unfold fuel;simp;lia)
 have hL':sWh N7 S9 fuel [vE (.fl (rs.map Row.enc)),vE (.int k),vE (.ref G.length),vE (dnD (De rs k))] (G++[.lst [.int k]])=_:=hL;rw[Kf hR];unfold Wu ZI2;rw[Bp];simp[Av,Ga,ZBj hk,hL']
def ltK(rs:List Row)(i j:Nat):Bool:=decide (col Row.rank rs i<col Row.rank rs j∨(col Row.rank rs i=col Row.rank rs j/\i<j))
theorem ZF6(rs:List Row):WO (ltK rs) where
 asy:=λi j h=>by simp only[ltK,decide_eq_true_eq,decide_eq_false_iff_not]at h⊢;lia
 neg:=λi j k h=>by simp only[ltK,decide_eq_true_eq]at h⊢;lia
def ord(rs:List Row):List Nat:=if rs.length<2 then zZ rs.length else(Cw (ltK rs) (PySem.W.kas_sort rs.length)).toList
theorem ZDD(rs:List Row):(ord rs).Perm (zZ rs.length):=by
 unfold ord;split
 ·exact .refl _
 ·exact(ZFy (ZF6 rs) (by lia)).1
theorem ZE1{k:Nat}(h:k∈ord rs):k<rs.length:=by have:=(ZDD rs).mem_iff.mp h;simpa using this
theorem ZKl(rs:List Row):(ord rs).length=rs.length:=by rw[(ZDD rs).length_eq];simp
theorem ZKL{n:Nat}{lt lt':Nat->Nat->Bool}(h:∀i j,i<n->j<n->lt i j=lt' i j){P:α->Prop}:∀{t:PySem.W.KasT α},Safe n P t->Cw lt t=Cw lt' t
 |.ret _,_=>rfl
 |.ask i j k,hs=>by show Cw lt (k (lt i j))=Cw lt' (k (lt' i j));rw[h i j hs.1 hs.2.1];exact ZKL h (hs.2.2 _)
def Ge(rs:List Row)(k:Nat):D:=.tup [.int (col Row.rank rs k),.int k]
theorem ZIk(i j:Nat):ltD (Ge rs i) (Ge rs j)=vE (ltK rs i j):=by
 have e:ltD (Ge rs i) (Ge rs j)=if col Row.rank rs i=col Row.rank rs j then(if(i:Int)=j then vE vH else vE (decide ((i:Int)<j)))else vE (decide (col Row.rank rs i<col Row.rank rs j)):=rfl
 rw[e];by_cases h:col Row.rank rs i=col Row.rank rs j
 ·rw[if_pos h];by_cases h2:(i:Int)=j
  ·rw[if_pos h2]
   congr 1
   simp only[ltK]
   symm
   simp only[decide_eq_false_iff_not];lia
  ·rw[if_neg h2]
   congr 1
   simp only[ltK];rw[decide_eq_decide];lia
 ·rw[if_neg h]
  congr 1
  simp only[ltK];rw[decide_eq_decide];lia
def Hx(rs:List Row):List D:=(zZ rs.length).map (Ge rs)
theorem ZAj(h:i<rs.length):(Hx rs).getD i .non=Ge rs i:=by unfold Hx;rw[zD,zx,zL h];rfl
theorem ZII(rs:List Row):Mj (Hx rs)=(ord rs).map (Ge rs):=by
 have hl:(Hx rs).length=rs.length:=by simp[Hx]
 unfold Mj ord;rw[hl];split
 ·rfl
 ·rename_i h;have e:Cw (ltI (Hx rs)) (PySem.W.kas_sort rs.length)=Cw (ltK rs) (PySem.W.kas_sort rs.length):=
   ZKL (n:=rs.length) (λi j hi hj=>by unfold ltI;rw[ZAj hi,ZAj hj,ZIk];rfl) (ZTH (by lia))
  rw[e];refine qk λi hi=>?_
  have hp:=(ZFy (ZF6 rs) (n:=rs.length) (by lia)).1;exact ZAj (by simpa using hp.mem_iff.mp hi)
theorem ZO7(rs:List Row):Qx (Hx rs)=vG:=by
 unfold Qx Hx;rw[zC,j9];refine⟨.inl ?_,?_⟩
 ·rw[qK];intro x hx;obtain⟨i,_,rfl⟩:=zH.mp hx
  rfl
 ·rw[qK];intro x hx;rw[qK];intro y hy;obtain⟨i,_,rfl⟩:=zH.mp hx;obtain⟨j,_,rfl⟩:=zH.mp hy;rw[ZIk];rfl
@[simp]theorem ZPp:bels m (ws.map (Ge rs))=vG:=G9 λ_ _=>by simp[Ge]
theorem ZSb(hl:rs.length<=40)(G:DH):ZAK [.fl (rs.map Row.enc)] G=.ok (.ref G.length) (G++[.lst (Bf (ord rs))]):=by
 have he:∀j,Ez 0 (.fl (rs.map Row.enc)) j G=vE ((zZ rs.length).map λ(k:Nat)=>D.tup [.int (k:Int),Lz rs k])[j]? :=λj=>by
  rw[Y7,Er,ZJq,List.zipIdx_map,qF]
  congr 2
  refine qA (by simp) λi h1 h2=>by simp
 let F:D->Option D:=λd=>match d with
  |.tup [.int k,.tup [_,_,_,.int r]]=>vE (.tup [.int r,.int k])
  |_=>vF
 have hc:Dw (Ez 0 (.fl (rs.map Row.enc))) (Bg 2 (Am (gV 0) (Am (gV 1) Bj))) Cd ZEA (Bm 2 [] [vE (.fl (rs.map Row.enc)),vF]) rs.length 0 G=.ok (Hx rs) G:=by
  rw[Vw (F:=F) he (λx hx=>?_) (by simp)]
  ·congr 1
   rw[qX];show(zZ rs.length).filterMap (λi=>vE (Ge rs i))=_;rw[qz]
   rfl
  ·obtain⟨i,_,rfl⟩:=zH.mp hx;refine⟨[vE (.int i),vE (Lz rs i)],by simp[Bm],.inr ⟨rfl,Ge rs i,?_,rfl⟩⟩;unfold ZEA;simp[Lz,Ge,Bb]
 let F2:D->Option D:=λd=>match d with
  |.tup [_,k]=>vE k
  |_=>vF
 have hc2:∀S,Du (Bg 2 (Am (gV 0) (Am (gV 1) Bj))) Cd ZBG (Bm 2 [] S) ((ord rs).map (Ge rs)) G=.ok (Bf (ord rs)) G:=λS=>by
  rw[Vl (F:=F2) (λx hx=>?_)]
  ·congr 1
   rw[qX];show(ord rs).filterMap (λ(i:Nat)=>vE (D.int (i:Int)))=_;rw[qz]
   rfl
  ·obtain⟨i,_,rfl⟩:=zH.mp hx;refine⟨[vE (.int (col Row.rank rs i)),vE (.int i)],by simp[Bm,Ge],.inr ⟨rfl,.int i,?_,rfl⟩⟩;unfold ZBG;simp
 have hkl:(Hx rs).length=rs.length:=by simp[Hx]
 have hl2:rs.length<=1000000:=by lia
 have hs:∀G,V2 [.fl (Hx rs)] G=.ok (.ref G.length) (G++[.lst ((ord rs).map (Ge rs))]):=λG=>by have h1:J6 (.fl (Hx rs)) G=vE (Hx rs):=rfl;simp only[V2,h1];rw[if_pos ⟨⟨by rw[hkl];lia,by rw[ZII];simp[ZKl];lia⟩,ZO7 rs⟩,ZII]
 have hbk:bels G.length (Hx rs)=vG:=ZPp;have hol:=ZKl rs;have hl3:(ord rs).length<=1000000:=by lia
 unfold ZAK ZGD;rw[Bp];simp[hc,Av,hkl,hl2,Fb,hbk,hs,hc2,hl3,Ga]
noncomputable def wmin(P:Nat->Int):List Nat->Int
 |[]=>0
 |k::r=>(r.map P).foldl min (P k)
theorem ZRH{b:Nat}(h:b∈ws):wmin P ws<=P b:=by
 cases ws with
 |nil=>cases h
 |cons k r=>
  obtain⟨h1,h2,_⟩:=W4 (r.map P) (P k);rcases zw.mp h with rfl|h
  ·exact h1
  ·exact h2 _ (zH.mpr ⟨b,h,rfl⟩)
theorem ZOv(h:ws≠[]):∃b∈ws,wmin P ws=P b:=by
 cases ws with
 |nil=>exact absurd rfl h
 |cons k r=>
  obtain⟨_,_,h3⟩:=W4 (r.map P) (P k);rcases h3 with h3|h3
  ·exact⟨k,zW,h3⟩
  ·obtain⟨b,hb,e⟩:=zH.mp h3;exact⟨b,zX _ hb,e.symm⟩
def Jp(P:Nat->Int)(ws:List Nat)(t:Int):Nat->Int:=λi=>if i∈ws then P i-t else P i
def Wv(P:Nat->Int)(t:Int)(ws:List Nat):Nat->Int:=ws.foldl (λP b=>fset P b (P b-t)) P
theorem ZFR:∀{ws:List Nat}{P:Nat->Int},ws.Nodup->Wv P t ws=Jp P ws t
 |[],P,_=>by funext i;simp[Wv,Jp]
 |b::ws,P,h=>by
  obtain⟨h1,h2⟩:=qD.mp h;show Wv (fset P b (P b-t)) t ws=_;rw[ZFR h2];funext i;by_cases e:i=b
  ·subst e;simp[Jp,fset,h1]
  ·simp[Jp,fset,e]
theorem ZGS(hR:Reach rs):∀(m k:Nat),rs.length<=m+k->k<rs.length->∀b∈way rs k,k<=b/\b<rs.length
 |0,k,h,hk,b,hb=>by lia
 | m+1,k,h,hk,b,hb=>by
  rw[Kf hR]at hb;rcases zw.mp hb with rfl|hb
  ·lia
  ·cases hd:De rs k with
   |none=>rw[hd]at hb;cases hb
   |some d=>
    have:=Jl hR hd;rw[hd]at hb;have:=ZGS hR m d (by lia) (by lia) b hb;lia
theorem Xb(hR:Reach rs){k b:Nat}(hk:k<rs.length)(hb:b∈way rs k):k<=b/\b<rs.length:=ZGS hR rs.length k (by lia) hk b hb
theorem ZGQ(hR:Reach rs):∀(m k:Nat),rs.length<=m+k->(way rs k).Nodup
 |0,k,h=>by rw[Kf hR,ZGz (by lia)];simp[Jw]
 | m+1,k,h=>by
  rw[Kf hR];cases hd:De rs k with
  |none=>simp[Jw]
  |some d=>
   have hlt:=Jl hR hd;refine qD.mpr ⟨λhm=>?_,ZGQ hR m d (by lia)⟩;have:=Xb hR hlt.2 hm;lia
theorem ZMW(hR:Reach rs)(k:Nat):(way rs k).Nodup:=ZGQ hR rs.length k (by lia)
theorem ZKM(hR:Reach rs):∀(m k:Nat),rs.length<=m+k->(way rs k).length<=m+1
 |0,k,h=>by rw[Kf hR,ZGz (by lia)];simp[Jw]
 | m+1,k,h=>by
  rw[Kf hR];cases hd:De rs k with
  |none=>simp[Jw]
  |some d=>
   have hlt:=Jl hR hd;have:=ZKM hR m d (by lia);show(way rs d).length+1<=_;lia
def take1(rs:List Row)(P:Nat->Int)(k:Nat):Int:=min (col Row.need rs k) (wmin P (way rs k))
def srv(rs:List Row):List Nat->(Nat->Int)->(Nat->Int)->(Nat->Int)×(Nat->Int)
 |[],P,T=>(P,T)
 |k::ks,P,T=>srv rs ks (Jp P (way rs k) (take1 rs P k)) (fset T k (take1 rs P k))
def shr(rs:List Row):Nat->Int:=(srv rs (ord rs) (gath rs (col Row.water rs)) λ_=>0).2
noncomputable def pD(P:Nat->Int)(ws:List Nat):List D:=ws.map λi=>D.int (P i)
@[simp]theorem ZUl:(pD P ws).length=ws.length:=by simp[pD]
@[simp]theorem ZMv:bels m (pD P ws)=vG:=G9 λ_ _=>rfl
theorem ZId{a b c d e:Option D}{t:Int}{A:DO}{G:DH}:∀(ws:List Nat)(P:Nat->Int)(x:Option D),(∀b∈ws,b<rs.length)->∃x',
  Bq (gV 6) Yo (Bf ws) [a,b,vE (.ref (G.length+1)),c,d,vE (.int t),x] (G++[A,.lst (tab rs.length P)])=.nx [a,b,vE (.ref (G.length+1)),c,d,vE (.int t),x'] (G++[A,.lst (tab rs.length (Wv P t ws))])
 |[],P,x,h=>⟨x,rfl⟩
 |w::ws,P,x,h=>by
  obtain⟨x',ih⟩:=ZId (a:=a) (b:=b) (c:=c) (d:=d) (e:=e) (t:=t) (A:=A) (G:=G) ws (fset P w (P w-t)) (vE (.int w)) λb hb=>h b (zX _ hb)
  refine⟨x',?_⟩;have hw:=h w zW;have g0:(G++[A,DO.lst (tab rs.length P)])[G.length+1]?=vE (.lst (tab rs.length P)):=Z1 _ 1;have hse:∀(L:DH)o,(G++L).set (G.length+1) o=G++L.set 1 o:=λL o=>ZCh L 1 o
  have hb:Yo [a,b,vE (.ref (G.length+1)),c,d,vE (.int t),vE (.int w)] (G++[A,.lst (tab rs.length P)])=.nx [a,b,vE (.ref (G.length+1)),c,d,vE (.int t),vE (.int w)] (G++[A,.lst (tab rs.length (fset P w (P w-t)))]):=by unfold Yo;simp[Vq g0 (Hg hw),g0,hse,Jm,hw,R8]
  show Bq _ _ (.int w::Bf ws) _ _=_;rw[Dg];simp only[Dr,R.Dm,qJ,hb,Ea];exact ih
theorem ZGj{rs:List Row}(hR:Reach rs)(hl:rs.length<=40){G:DH}:∀(ks:List Nat)(P T:Nat->Int)(x y z w:Option D),(∀k∈ks,k<rs.length)->∃x' y' z' w',
  Bq (gV 3) Rw (Bf ks) [vE (.fl (rs.map Row.enc)),vE (.ref G.length),vE (.ref (G.length+1)),x,y,z,w] (G++[.lst (tab rs.length T),.lst (tab rs.length P)])=
   .nx [vE (.fl (rs.map Row.enc)),vE (.ref G.length),vE (.ref (G.length+1)),x',y',z',w'] (G++[.lst (tab rs.length (srv rs ks P T).2),.lst (tab rs.length (srv rs ks P T).1)])
 |[],P,T,x,y,z,w,h=>⟨x,y,z,w,rfl⟩
 | k::ks,P,T,x,y,z,w,h=>by
  have hk:=h k zW;have hwl:∀b∈way rs k,b<rs.length:=λb hb=>(Xb hR hk hb).2
  obtain⟨w1,hsub⟩:=ZId (rs:=rs) (a:=vE (.fl (rs.map Row.enc))) (b:=vE (.ref G.length)) (c:=vE (.int k)) (d:=vE (.fl (Bf (way rs k)))) (e:=vF) (t:=take1 rs P k) (A:=.lst (tab rs.length (fset T k (take1 rs P k)))) (G:=G) (way rs k) P w hwl;rw[ZFR (ZMW hR k)]at hsub;obtain⟨x',y',z',w',ih⟩:=ZGj hR hl (G:=G) ks (Jp P (way rs k) (take1 rs P k)) (fset T k (take1 rs P k)) (vE (.int k)) (vE (.fl (Bf (way rs k)))) (vE (.int (take1 rs P k))) w1 λj hj=>h j (zX _ hj)
  refine⟨x',y',z',w',?_⟩;have g0:(G++[DO.lst (tab rs.length T),DO.lst (tab rs.length P)])[G.length+1]?=vE (.lst (tab rs.length P)):=Z1 _ 1;have hcomp:Du (gV 0) Cd ZCj (Bm 1 [2] [vE (.fl (rs.map Row.enc)),vE (.ref G.length),vE (.ref (G.length+1)),vE (.int k),vE (.fl (Bf (way rs k))),z,w]) (Bf (way rs k)) (G++[DO.lst (tab rs.length T),DO.lst (tab rs.length P)])=.ok (pD P (way rs k)) (G++[DO.lst (tab rs.length T),DO.lst (tab rs.length P)]):=by
   rw[Vl (F:=λd=>match d with | .int i=>vE (.int (P i.toNat))|_=>vF) (λq hq=>?_)]
   ·congr 1
    unfold Bf;rw[qX];show(way rs k).filterMap (λ(i:Nat)=>vE (D.int (P ((i:Int).toNat))))=_;rw[qz];simp[pD]
   ·obtain⟨i,hi,rfl⟩:=zH.mp hq;refine⟨[vE (.int i),vE (.ref (G.length+1))],by simp[Bm],.inr ⟨rfl,.int (P i),?_,by simp⟩⟩;unfold ZCj;simp[g0,Hg (hwl i hi)]
  have hwn:(way rs k).length<=1000000:=by have h1:=ZKM hR rs.length k (by lia);lia
  have hmin:∀G,K7 [.fl (pD P (way rs k))] G=.ok (.int (wmin P (way rs k))) G:=λG=>by rw[Kf hR];exact ZKG (n:=P k) (ns:=(Jw rs (De rs k)).map P) (by simp[pD])
  have hfr:freeze (G++[DO.lst (tab rs.length T),DO.lst (tab rs.length P)]) (.ok (.ref (G.length+2)) (G++[DO.lst (tab rs.length T),DO.lst (tab rs.length P),.lst (pD P (way rs k))]))=.ok (.fl (pD P (way rs k))) (G++[DO.lst (tab rs.length T),DO.lst (tab rs.length P)]):=ZAo ZMv;have hfw:freeze (G++[DO.lst (tab rs.length T),DO.lst (tab rs.length P)]) (.ok (.ref (G.length+2)) (G++[DO.lst (tab rs.length T),DO.lst (tab rs.length P),.lst (Bf (way rs k))]))=.ok (.fl (Bf (way rs k))) (G++[DO.lst (tab rs.length T),DO.lst (tab rs.length P)]):=ZAo ZIf
  have hb:Rw [vE (.fl (rs.map Row.enc)),vE (.ref G.length),vE (.ref (G.length+1)),vE (.int k),y,z,w] (G++[.lst (tab rs.length T),.lst (tab rs.length P)])=
    .nx [vE (.fl (rs.map Row.enc)),vE (.ref G.length),vE (.ref (G.length+1)),vE (.int k),vE (.fl (Bf (way rs k))),vE (.int (take1 rs P k)),w1] (G++[.lst (tab rs.length (fset T k (take1 rs P k))),.lst (tab rs.length (Jp P (way rs k) (take1 rs P k)))]):=by
   unfold Rw;have ht1:min (col Row.need rs k) (wmin P (way rs k))=take1 rs P k:=rfl;simp[ZTI hR hl hk,hfw,ZBj hk,hcomp,Av,hwn,hfr,hmin,ht1,Ej,G7,Jm,hk,R8,hsub]
  show Bq _ _ (.int k::Bf ks) _ _=_;rw[Dg];simp only[Dr,R.Dm,qJ,hb,Ea];exact ih
theorem ZSM(hR:Reach rs)(hl:rs.length<=40)(G:DH):W8 [.fl (rs.map Row.enc)] G=.ok (.ref G.length) (G++[.lst (tab rs.length (shr rs))]):=by
 have hz:zV rs.length (D.int 0)=tab rs.length λ_=>0:=by unfold tab;refine qA (by simp) λi h1 h2=>by simp
 have hrep:Ln (.ref G.length) (.int (rs.length:Int)) (G++[.lst [.int 0]])=.ok (.ref (G.length+1)) (G++[.lst [.int 0],.lst (tab rs.length λ_=>0)]):=by rw[ZG4 (d:=.int 0) (by rw[Ej];rfl) (by lia),hz];simp
 have ht1:tidy G (.ok (.ref (G.length+1)) (G++[.lst [.int 0],.lst (tab rs.length λ_=>0)]))=.ok (.ref G.length) (G++[.lst (tab rs.length λ_=>0)]):=ZC3 _ (k:=1) rfl Jj;have hp:Q4 [.fl (rs.map Row.enc),.ref G.length] (G++[.lst (tab rs.length λ_=>0)])=.ok (.ref (G.length+1)) (G++[.lst (tab rs.length λ_=>0),.lst (tab rs.length (gath rs (col Row.water rs)))]):=by rw[ZIo hR hl (T:=λ_=>0) (ZSR (by rw[Ej];rfl))];simp
 have ht2:tidy (G++[.lst (tab rs.length λ_=>0)]) (.ok (.ref (G.length+1)) (G++[.lst (tab rs.length λ_=>0),.lst (tab rs.length (gath rs (col Row.water rs)))]))=.ok (.ref (G.length+1)) (G++[.lst (tab rs.length λ_=>0),.lst (tab rs.length (gath rs (col Row.water rs)))]):=ZIq Jj;have hfs:freeze (G++[.lst (tab rs.length λ_=>0),.lst (tab rs.length (gath rs (col Row.water rs)))]) (.ok (.ref (G.length+2)) (G++[.lst (tab rs.length λ_=>0),.lst (tab rs.length (gath rs (col Row.water rs))),.lst (Bf (ord rs))]))=.ok (.fl (Bf (ord rs))) (G++[.lst (tab rs.length λ_=>0),.lst (tab rs.length (gath rs (col Row.water rs)))]):=ZAo ZIf
 obtain⟨x',y',z',w',hL⟩:=ZGj hR hl (G:=G) (ord rs) (gath rs (col Row.water rs)) (λ_=>0) vF vF vF vF λk hk=>ZE1 hk
 have hfin:∀A,tidy G (.ok (.ref G.length) (G++[.lst (tab rs.length (shr rs)),A]))=.ok (.ref G.length) (G++[.lst (tab rs.length (shr rs))]):=λA=>Ga Jj
 have hL':Bq (gV 3) Rw (Bf (ord rs)) [vE (.fl (rs.map Row.enc)),vE (.ref G.length),vE (.ref (G.length+1)),vF,vF,vF,vF] (G++[.lst (tab rs.length λ_=>0),.lst (tab rs.length (gath rs (col Row.water rs)))])=
   .nx [vE (.fl (rs.map Row.enc)),vE (.ref G.length),vE (.ref (G.length+1)),x',y',z',w'] (G++[.lst (tab rs.length (shr rs)),.lst (tab rs.length (srv rs (ord rs) (gath rs (col Row.water rs)) λ_=>0).1)]):=hL
 unfold W8 ZEq;rw[Bp];simp[Av,hrep,ht1,hp,ht2,ZSb hl,hfs,hL',hfin]
def ind(t:Int)(ws:List Nat):Nat->Int:=λi=>if i∈ws then t else 0
theorem ZBd(hR:Reach rs){k:Nat}:∀(m j:Nat)(A:Nat->Int),k<j->gat rs m j (λi=>A i+ind t [k] i)=λi=>gat rs m j A i+ind t [k] i
 |0,j,A,h=>rfl
 | m+1,j,A,h=>by
  unfold gat;have e:gstep (λi=>A i+ind t [k] i) j (De rs j)=λi=>gstep A j (De rs j) i+ind t [k] i:=by
   cases hd:De rs j with
   |none=>rfl
   |some d=>
    have:=Jl hR hd;funext i;simp only[gstep,fset,ind,qI];have h1:j≠k:=by lia
    have h2:d≠k:=by lia
    by_cases hi:i=d
    ·subst hi;simp[h1,h2]
    ·simp[hi]
  rw[e,ZBd hR m (j+1) _ (by lia)]
theorem ZEU(hR:Reach rs):∀(m j k:Nat)(A:Nat->Int),j+m=rs.length->j<=k->k<rs.length->gat rs m j (λi=>A i+ind t [k] i)=λi=>gat rs m j A i+ind t (way rs k) i
 |0,j,k,A,h,h1,h2=>by lia
 | m + 1,j,k,A,h,h1,h2=>by
  unfold gat;by_cases hjk:j<k
  ·have e:gstep (λi=>A i+ind t [k] i) j (De rs j)=λi=>gstep A j (De rs j) i+ind t [k] i:=by
    cases hd:De rs j with
    |none=>rfl
    |some d=>
     funext i;simp only[gstep,fset,ind,qI];have h3:j≠k:=by lia
     by_cases hi:i=d
     ·subst hi;simp[h3];split <;> lia
     ·simp[hi]
   rw[e,ZEU hR m (j+1) k _ (by lia) (by lia) h2]
  ·have ej:j=k:=by lia
   subst ej;cases hd:De rs j with
   |none=>
    have hw:way rs j=[j]:=by rw[Kf hR,hd];rfl
    show gat rs m (j+1) (λi=>A i+ind t [j] i)=_;rw[ZBd hR m (j+1) A (by lia),hw]
    rfl
   | some d=>
    have hlt:=Jl hR hd;have hw:way rs j=j::way rs d:=by rw[Kf hR,hd];rfl
    have e:gstep (λi=>A i+ind t [j] i) j (vE d)=λi=>(gstep A j (vE d) i+ind t [d] i)+ind t [j] i:=by
     funext i;simp only[gstep,fset,ind,qI];have h3:d≠j:=by lia
     by_cases hi:i=d
     ·subst hi;simp[h3];lia
     ·simp[hi]
    rw[e,ZBd hR m (j+1) _ (by lia),ZEU hR m (j+1) d _ (by lia) (by lia) hlt.2];funext i;have hnj:j∉way rs d:=λhm=>by have:=Xb hR hlt.2 hm;lia
    simp only[ind,hw,zw,qI];by_cases hi:i=j
    ·subst hi;simp[hnj]
    ·simp[hi]
theorem ZNV(hR:Reach rs){W:Nat->Int}{k:Nat}(hk:k<rs.length)(h0:T k=0):gath rs (λi=>W i-fset T k t i)=Jp (gath rs λi=>W i-T i) (way rs k) t:=by
 have e:(λi=>W i-fset T k t i)=λi=>(W i-T i)+ind (-t) [k] i:=by
  funext i;simp only[fset,ind,qI];by_cases hi:i=k
  ·subst hi;simp[h0];lia
  ·simp[hi]
 rw[e];show gat rs rs.length 0 _=_;rw[ZEU hR rs.length 0 k _ (by lia) (by lia) hk];funext i;simp only[ind,Jp,gath]
 split <;> lia
theorem ZFU:∀(m k:Nat)(F:Nat->Int),(∀i,0<=F i)->∀i,0<=gat rs m k F i
 |0,k,F,h,i=>h i
 | m+1,k,F,h,i=>by
  refine ZFU m (k+1) _ (λj=>?_) i;cases De rs k with
  |none=>exact h j
  |some d=>
   simp only[gstep,fset];have:=h d;have:=h k;have:=h j
   split <;> lia
structure SI (rs:List Row) (P T:Nat->Int):Prop where
 pg:P=gath rs λi=>col Row.water rs i-T i
 t0:∀i,0<=T i
 tn:∀i,T i<=col Row.need rs i
 p0:∀i,i<rs.length->0<=P i
theorem ZQU(h:∀b∈ws,0<=P b):0<=wmin P ws:=by
 cases ws with
 |nil=>exact qq _
 |cons k r=>
  obtain⟨b,hb,e⟩:=ZOv (P:=P) (ws:=k::r) (by simp);rw[e];exact h b hb
theorem SI.take(hR:Reach rs)(s:SI rs P T){k:Nat}(hk:k<rs.length):0<=take1 rs P k/\take1 rs P k<=col Row.need rs k/\∀b∈way rs k,take1 rs P k<=P b:=by
 have h1:0<=wmin P (way rs k):=ZQU λb hb=>s.p0 b (Xb hR hk hb).2
 have h2:=hR.need k;unfold take1;refine⟨by lia,by lia,λb hb=>?_⟩;have:=ZRH (P:=P) hb;lia
theorem SI.step(hR:Reach rs)(s:SI rs P T){k:Nat}(hk:k<rs.length)(h0:T k=0):SI rs (Jp P (way rs k) (take1 rs P k)) (fset T k (take1 rs P k)):=by
 obtain⟨a,b,c⟩:=s.take hR hk;refine⟨?_,λi=>?_,λi=>?_,λi hi=>?_⟩
 ·rw[ZNV hR hk h0,<-s.pg]
 ·simp only[fset];split
  ·exact a
  ·exact s.t0 i
 ·simp only[fset];split
  ·rename_i e;rw[e];exact b
  ·exact s.tn i
 ·simp only[Jp];split
  ·rename_i hm;have:=c i hm;lia
  ·exact s.p0 i hi
theorem SI.run(hR:Reach rs):∀(ks:List Nat)(P T:Nat->Int),SI rs P T->ks.Nodup->(∀k∈ks,k<rs.length/\T k=0)->SI rs (srv rs ks P T).1 (srv rs ks P T).2
 |[],P,T,s,_,_=>s
 |k::ks,P,T,s,nd,h=>by
  obtain⟨n1,n2⟩:=qD.mp nd;obtain⟨hk,h0⟩:=h k zW;refine SI.run hR ks _ _ (s.step hR hk h0) n2 λj hj=>?_
  obtain⟨hj1,hj2⟩:=h j (zX _ hj);have:j≠k:=λe=>n1 (e▸hj)
  exact⟨hj1,by simp[fset,this,hj2]⟩
theorem ZOh(rs:List Row):(ord rs).Nodup:=(ZDD rs).nodup_iff.mpr List.nodup_range
theorem SI.first(hR:Reach rs):SI rs (gath rs (col Row.water rs)) λ_=>0:=
 ⟨by simp,λ_=>qq _,hR.need,λi _=>ZFU _ _ _ hR.water i⟩
theorem ZR9(hR:Reach rs):SI rs (srv rs (ord rs) (gath rs (col Row.water rs)) λ_=>0).1 (shr rs):=
 SI.run hR (ord rs) _ _ (SI.first hR) (ZOh rs) λk hk=>⟨ZE1 hk,rfl⟩
theorem rp:¬(("pump":Str)="river"):=by decide
theorem pr:¬(("river":Str)="pump"):=by decide
structure Stp where
 h:Int
 m:Int
 r:Bool
variable{st:List Stp}
def wy(r:Bool):Str:=if r then "river" else "pump"
def Stp.enc(s:Stp):D:=.tup [.int s.h,.int s.m,.str (wy s.r)]
@[simp]theorem ZT0{n:Nat}:bels n (st.map Stp.enc)=vG:=G9 λs _=>by simp[Stp.enc]
@[simp]theorem ZTy{r:Bool}:(wy r="river")=(r=vG):=by
 cases r
 ·exact propext ⟨λh=>absurd h rp,λh=>by cases h⟩
 ·exact propext ⟨λh=>rfl,λ_=>rfl⟩
@[simp]theorem ZUC{r:Bool}:(wy r="pump")=(r=vH):=by
 cases r
 ·exact propext ⟨λh=>rfl,λ_=>rfl⟩
 ·exact propext ⟨λh=>absurd h pr,λh=>by cases h⟩
noncomputable abbrev Ssn:=Int×List Stp
def Cp(s:Ssn):D:=.tup [.int s.1,.tup (s.2.map Stp.enc)]
@[simp]theorem ZTr{n:Nat}{ss:List Ssn}:bels n (ss.map Cp)=vG:=G9 λs _=>by simp[Cp]
def held(t:Int):List Ssn->List Stp->List Stp
 |[],h=>h
 |s::r,h=>held t r (if s.1<=t then s.2 else h)
theorem ZGh{c:D}{t:Int}{G:DH}:∀{ss:List Ssn}{h:List Stp}{a b:Option D},∃a' b',Bq (Bg 2 (Am (gV 3) (Am (gV 4) Bj))) V5 (ss.map Cp) [vE c,vE (.int t),vE (.tup (h.map Stp.enc)),a,b] G=
  .nx [vE c,vE (.int t),vE (.tup ((held t ss h).map Stp.enc)),a',b'] G
 |[],h,a,b=>⟨a,b,by rw[jC,Ei];rfl⟩
 | s::r,h,a,b=>by
  obtain⟨a',b',ih⟩:=ZGh (c:=c) (t:=t) (G:=G) (ss:=r) (h:=if s.1<=t then s.2 else h) (a:=vE (.int s.1)) (b:=vE (.tup (s.2.map Stp.enc)));refine⟨a',b',?_⟩;have hb:V5 [vE c,vE (.int t),vE (.tup (h.map Stp.enc)),vE (.int s.1),vE (.tup (s.2.map Stp.enc))] G=.nx [vE c,vE (.int t),vE (.tup ((if s.1<=t then s.2 else h).map Stp.enc)),vE (.int s.1),vE (.tup (s.2.map Stp.enc))] G:=by
   unfold V5
   by_cases h1:s.1<=t<;>simp[h1]
  rw[zk,Dg];simp only[Cp,Qt,Qo,Q8,Dr,R.Jo,R.Dm,qJ,hb,Ea,zO,qN,Nat.reduceAdd,if_true];exact ih
theorem c_at{ss:List Ssn}:Yp [.tup (ss.map Cp),.int t] G=.ok (.tup ((held t ss []).map Stp.enc)) G:=by obtain⟨a,b,h⟩:=ZGh (c:=.tup (ss.map Cp)) (t:=t) (G:=G) (ss:=ss) (h:=[]) (a:=vF) (b:=vF);unfold Yp ZJ2;rw[Bp];simp at h;simp[h,By]
noncomputable def cub(w:Int)(s:Stp):Int:=max 0 (min s.m (w-s.h))
def rv(w:Int):List Stp->Int
 |[]=>0
 |s::r=>(if s.r then cub w s else 0)+rv w r
def pm(w:Int):List Stp->Int
 |[]=>0
 |s::r=>(if s.r then 0 else cub w s)+pm w r
theorem ZFu{c:D}{w:Int}{G:DH}:∀{st:List Stp}{a b:Int}{e f g h:Option D},∃e' f' g' h',Bq (Bg 3 (Am (gV 4) (Am (gV 5) (Am (gV 6) Bj)))) Z7 (st.map Stp.enc) [vE c,vE (.int w),vE (.int a),vE (.int b),e,f,g,h] G=
  .nx [vE c,vE (.int w),vE (.int (a+rv w st)),vE (.int (b+pm w st)),e',f',g',h'] G
 |[],a,b,e,f,g,h=>⟨e,f,g,h,by simp[Ei,rv,pm]⟩
 | s::r,a,b,e,f,g,h=>by
  obtain⟨e',f',g',h',ih⟩:=ZFu (c:=c) (w:=w) (G:=G) (st:=r) (a:=a+(if s.r then cub w s else 0)) (b:=b+(if s.r then 0 else cub w s)) (e:=vE (.int s.h)) (f:=vE (.int s.m)) (g:=vE (.str (wy s.r))) (h:=vE (.int (cub w s)));refine⟨e',f',g',h',?_⟩;have hb:Z7 [vE c,vE (.int w),vE (.int a),vE (.int b),vE (.int s.h),vE (.int s.m),vE (.str (wy s.r)),h] G=.nx [vE c,vE (.int w),vE (.int (a+(if s.r then cub w s else 0))),vE (.int (b+(if s.r then 0 else cub w s))),vE (.int s.h),vE (.int s.m),vE (.str (wy s.r)),vE (.int (cub w s))] G:=by
   unfold Z7 cub
   cases s.r<;>simp
  rw[zk,Dg];simp[Stp.enc,hb];rw[ih];simp[rv,pm,Int.add_assoc]
theorem ZGP{w:Int}:Y8 [.tup (st.map Stp.enc),.int w] G=.ok (.tup [.int (rv w st),.int (pm w st),.int (w-rv w st-pm w st)]) G:=by obtain⟨e,f,g,h,hl⟩:=ZFu (c:=.tup (st.map Stp.enc)) (w:=w) (G:=G) (st:=st) (a:=0) (b:=0) (e:=vF) (f:=vF) (g:=vF) (h:=vF);unfold Y8 ZHl;rw[Bp];simp at hl;simp[hl,By]
inductive Kd where
 |basin (brim:Int) (rule:List Ssn) (pump:Option (Nat×Nat×Int))
 |town (need rank:Int)
 |mill (most:Int)
structure Pl where
 nm:Str
 dn:Option Nat
 dl:Nat
 kd:Kd
noncomputable def ZAy:Pl:=⟨"",vF,0,.mill 0⟩
structure Hs where
 yr:Int
 ps:List Pl
variable{h:Hs}
noncomputable def Kd.txt:Kd->Str
 |.basin ..=>"basin"
 |.town ..=>"town"
 |.mill ..=>"mill"
noncomputable def Kd.isB:Kd->Bool
 |.basin ..=>vG
 |_=>vH
noncomputable def Kd.isT:Kd->Bool
 |.town ..=>vG
 |_=>vH
def Hs.pl(h:Hs)(k:Nat):Pl:=h.ps.getD k ZAy
noncomputable def Hs.n(h:Hs):Nat:=h.ps.length
def Hs.dnT(h:Hs):Option Nat->Str
 |none=>"sea"
 |some d=>(h.pl d).nm
def Hs.N8(h:Hs):Option (Nat×Nat×Int)->D
 |none=>.non
 |some (to,dl,m)=>.tup [.str (h.pl to).nm,.int dl,.int m]
def Hs.encP(h:Hs)(p:Pl):D:=match p.kd with
 |.basin b r q=>.tup [.str "basin",.str p.nm,.str (h.dnT p.dn),.int p.dl,.int b,.tup (r.map Cp),h.N8 q]
 |.town a b=>.tup [.str "town",.str p.nm,.str (h.dnT p.dn),.int p.dl,.int a,.int b]
 |.mill a=>.tup [.str "mill",.str p.nm,.str (h.dnT p.dn),.int p.dl,.int a]
def Hs.Do(h:Hs):List D:=h.ps.map h.encP
def Hs.enc(h:Hs):D:=.tup [.int h.yr,.tup h.Do]
def Good:Int->List Stp->Prop
 |_,[]=>True
 |t,s::r=>t<=s.h/\1<=s.m/\Good (s.h+s.m) r
structure GoodH (h:Hs):Prop where
 yr:0<h.yr
 len:h.n<=12
 inj:∀i j,i<h.n->j<h.n->(h.pl i).nm=(h.pl j).nm->i=j
 sea:∀i,i<h.n->(h.pl i).nm≠"sea"
 dn:∀k d,k<h.n->(h.pl k).dn=vE d->k<d/\d<h.n
 dl:∀k,k<h.n->(h.pl k).dl<=5
 pump:∀k b r to dl m,k<h.n->(h.pl k).kd=.basin b r (vE (to,dl,m))->to<h.n/\1<=dl/\dl<=5
 brim:∀k b r q,k<h.n->(h.pl k).kd=.basin b r q->0<=b/\∀s∈r,Good 0 s.2
 town:∀k a b,k<h.n->(h.pl k).kd=.town a b->0<=a/\0<=b
theorem Hs.Kl:h.Do.length=h.n:=by simp[Hs.Do,Hs.n]
theorem Hs.ZGr{k:Nat}(hk:k<h.n):h.Do[k]?=vE (h.encP (h.pl k)):=by unfold Hs.Do Hs.pl;rw[zx,zJ hk];simp[zD,zJ hk]
theorem Hs.Fo{k:Nat}(hk:k<h.n):atI h.Do (k:Int)=vE (h.encP (h.pl k)):=Fe rfl (Hs.ZGr hk)
theorem Hs.ZQC{n:Nat}{q:Option (Nat×Nat×Int)}:bel n (h.N8 q)=vG:=by
 cases q with
 |none=>rfl
 |some x=>obtain⟨a,b,c⟩:=x;simp[Hs.N8]
@[simp]theorem Hs.ZOW{n:Nat}{p:Pl}:bel n (h.encP p)=vG:=by
 unfold Hs.encP
 cases p.kd<;>simp[Hs.ZQC]
@[simp]theorem Hs.ZUK{n:Nat}:bels n h.Do=vG:=G9 λ_ _=>Hs.ZOW
section
variable{h:Hs}{p:Pl}{G:DH}
@[simp]theorem encP0:Aj (h.encP p) (.int 0) G=.ok (.str p.kd.txt) G:=by
 unfold Hs.encP
 cases p.kd<;>simp[Kd.txt]
@[simp]theorem encP1:Aj (h.encP p) (.int 1) G=.ok (.str p.nm) G:=by
 unfold Hs.encP
 cases p.kd<;>simp
@[simp]theorem encP2:Aj (h.encP p) (.int 2) G=.ok (.str (h.dnT p.dn)) G:=by
 unfold Hs.encP
 cases p.kd<;>simp
@[simp]theorem encP3:Aj (h.encP p) (.int 3) G=.ok (.int p.dl) G:=by
 unfold Hs.encP
 cases p.kd<;>simp
theorem Dy:Aj h.enc (.int 1) G=.ok (.tup h.Do) G:=by unfold Hs.enc;simp
theorem ZR1:Aj h.enc (.int 0) G=.ok (.int h.yr) G:=by unfold Hs.enc;simp
theorem Jf{k:Kd}:(k.txt="basin")=(k.isB=vG):=by cases k<;>simp[Kd.txt,Kd.isB]<;>decide
theorem ZAb{k:Kd}:(k.txt="town")=(k.isT=vG):=by cases k<;>simp[Kd.txt,Kd.isT]<;>decide
end
theorem ZKB(g:GoodH h)(hd:d<h.n):∀(m k:Nat)(a b:Option D),k+m=d->
  Bq (Bg 2 (Am (gV 2) (Am (gV 3) Bj))) Pr ((Er h.Do).drop k) [vE h.enc,vE (.str (h.pl d).nm),a,b] G=.rt (.int d) G
 | m,k,a,b,e=>by
  have hk:k<h.n:=by lia
  have e0:(Er h.Do).drop k=.tup [.int k,h.encP (h.pl k)]::(Er h.Do).drop (k+1):=by rw[zM (by rw[Lg,Hs.Kl];exact hk)];have:=Hs.ZGr hk;rw[zJ (by rw[Hs.Kl];exact hk)]at this;have e2:=Option.some.inj this;simp[Er,e2]
  rw[e0,Dg];cases m with
  |zero=>
   have e1:k=d:=by lia
   subst e1;have hb:Pr [vE h.enc,vE (.str (h.pl k).nm),vE (.int k),vE (h.encP (h.pl k))] G=.rt (.int k) G:=by unfold Pr;simp
   simp[hb]
  |succ m=>
   have hne:(h.pl k).nm≠(h.pl d).nm:=λz=>by have:=g.inj k d hk hd z;lia
   have hb:Pr [vE h.enc,vE (.str (h.pl d).nm),vE (.int k),vE (h.encP (h.pl k))] G=.nx [vE h.enc,vE (.str (h.pl d).nm),vE (.int k),vE (h.encP (h.pl k))] G:=by unfold Pr;simp[hne]
   simp[hb];exact ZKB g hd m (k+1) _ _ (by lia)
theorem ZI4(g:GoodH h)(hd:d<h.n)(G:DH):T7 [h.enc,.str (h.pl d).nm] G=.ok (.int d) G:=by have hL:=ZKB g hd (G:=G) d 0 vF vF (by lia);rw[jE]at hL;unfold T7 ZKY;rw[Bp];simp[Dy,Ie,Lb,lenOf,hL,By]
def Hs.dn(h:Hs)(k:Nat):Option Nat:=(h.pl k).dn
theorem Oa(g:GoodH h){k:Nat}(hk:k<h.n)(G:DH):Uk [h.enc,.int k] G=.ok (dnD (h.dn k)) G:=by
 unfold Uk ZEx;rw[Bp];cases hd:h.dn k with
 |none=>
  have e:(h.pl k).dn=vF:=hd;simp[Dy,Hs.Fo hk,e,Hs.dnT,dnD,By]
 |some d=>
  have e:(h.pl k).dn=vE d:=hd;have hl:=g.dn k d hk e;simp[Dy,Hs.Fo hk,e,Hs.dnT,g.sea d hl.2,ZI4 g hl.2,dnD,By]
def Hs.dir(h:Hs)(k:Nat):Option Nat:=match h.dn k with
 |none=>vF
 |some d=>if 0<(h.pl k).dl∨(h.pl k).kd.isB=vG∨(h.pl d).kd.isB=vG then vF else vE d
theorem Pz(g:GoodH h){k:Nat}(hk:k<h.n)(G:DH):Rk [h.enc,.int k] G=.ok (dnD (h.dir k)) G:=by
 unfold Rk ZJj;rw[Bp];cases hd:h.dn k with
 |none=>simp[Dy,Oa g hk,hd,Hs.dir,dnD,By]
 | some d=>
  have hl:=g.dn k d hk hd;by_cases h1:0<(h.pl k).dl
  ·simp[Dy,Oa g hk,hd,Hs.dir,dnD,By,Hs.Fo hk,h1]
  ·by_cases h2:(h.pl k).kd.isB=vG
   ·simp[Dy,Oa g hk,hd,Hs.dir,dnD,By,Hs.Fo hk,h1,Jf,h2]
   ·by_cases h3:(h.pl d).kd.isB=vG
    ·simp[Dy,Oa g hk,hd,Hs.dir,dnD,By,Hs.Fo hk,Hs.Fo hl.2,h1,Jf,h2,h3]
    ·simp[Dy,Oa g hk,hd,Hs.dir,dnD,By,Hs.Fo hk,Hs.Fo hl.2,h1,Jf,h2,h3]
theorem ZLB(g:GoodH h){k:Nat}(hk:k<h.n)(e:h.dir k=vE d):k<d/\d<h.n:=by
 unfold Hs.dir at e;cases hd:h.dn k with
 |none=>rw[hd]at e;cases e
 |some d'=>
  rw[hd]at e;simp only at e;split at e
  ·cases e
  ·cases e;exact g.dn k d hk hd
theorem ZK8{k:Nat}(hk:¬k<h.n):h.pl k=ZAy:=by
 unfold Hs.pl;rw[zD,zA (by unfold Hs.n at hk;lia)]
 rfl
theorem Qd{k:Nat}(hk:¬k<h.n):h.dir k=vF:=by
 have e:h.dn k=vF:=by unfold Hs.dn;rw[ZK8 hk];rfl
 unfold Hs.dir;rw[e]
theorem Nb(g:GoodH h){k:Nat}(e:h.dir k=vE d):k<d/\d<h.n/\k<h.n:=by
 by_cases hk:k<h.n
 ·have:=ZLB g hk e;lia
 ·rw[Qd hk]at e;cases e
def Hs.Ko(h:Hs):Nat->Nat->Nat
 |0,k=>k
 |m+1,k=>match h.dir k with
  |none=>k
  |some d=>h.Ko m d
def Hs.last(h:Hs)(k:Nat):Nat:=h.Ko h.n k
theorem ZBW(g:GoodH h):∀(m m' k:Nat),h.n<=m+k->h.n<=m'+k->h.Ko m k=h.Ko m' k
 |0,m',k,e,e'=>by
  have hn:h.dir k=vF:=Qd (by lia);cases m' with
  |zero=>rfl
  |succ m'=>simp[Hs.Ko,hn]
 |m+1,0,k,e,e'=>by have hn:h.dir k=vF:=Qd (by lia);simp[Hs.Ko,hn]
 | m+1,m'+1,k,e,e'=>by
  cases hd:h.dir k with
  |none=>simp[Hs.Ko,hd]
  |some d=>
   have:=Nb g hd;simp[Hs.Ko,hd,ZBW g m m' d (by lia) (by lia)]
theorem Lp(g:GoodH h){k:Nat}(e:h.dir k=vF):h.last k=k:=by unfold Hs.last;rw[ZBW g h.n (h.n+1) k (by lia) (by lia)];simp[Hs.Ko,e]
theorem Q3(g:GoodH h){k:Nat}(e:h.dir k=vE d):h.last k=h.last d:=by unfold Hs.last;rw[ZBW g h.n (h.n+1) k (by lia) (by lia)];simp[Hs.Ko,e]
theorem ZEd(g:GoodH h):∀(m k:Nat),h.n<=m+k->k<=h.last k/\(k<h.n->h.last k<h.n)
 |0,k,e=>by rw[Lp g (Qd (by lia))];lia
 | m+1,k,e=>by
  cases hd:h.dir k with
  |none=>rw[Lp g hd];lia
  |some d=>
   have:=Nb g hd;rw[Q3 g hd];have:=ZEd g m d (by lia);lia
theorem ZEc(g:GoodH h)(k:Nat):k<=h.last k/\(k<h.n->h.last k<h.n):=ZEd g h.n k (by lia)
def Hs.Ho(h:Hs)(j:Nat):Nat->Int:=λi=>if j<=i then h.last i else i
theorem ZF5(g:GoodH h){G:DH}:∀(j:Nat)(x y:Option D),j<=h.n->∃x' y',
  Bq (gV 2) Z5 (Ks ((j:Int)-1) j) [vE h.enc,vE (.ref G.length),x,y] (G++[.lst (tab h.n (h.Ho j))])=.nx [vE h.enc,vE (.ref G.length),x',y'] (G++[.lst (tab h.n (h.Ho 0))])
 |0,x,y,e=>⟨x,y,by rw[ZRq,Ei]⟩
 | j + 1,x,y,e=>by
  have hj:j<h.n:=by lia
  obtain⟨x',y',ih⟩:=ZF5 g (G:=G) j (vE (.int j)) (vE (dnD (h.dir j))) (by lia);refine⟨x',y',?_⟩;have e1:(((j+1:Nat):Int)-1)=j:=by lia
  have hb:Z5 [vE h.enc,vE (.ref G.length),vE (.int j),y] (G++[.lst (tab h.n (h.Ho (j+1)))])=.nx [vE h.enc,vE (.ref G.length),vE (.int j),vE (dnD (h.dir j))] (G++[.lst (tab h.n (h.Ho j))]):=by
   unfold Z5;cases hd:h.dir j with
   | none=>
    have et:tab h.n (h.Ho (j+1))=tab h.n (h.Ho j):=ZFX λi hi=>by
     unfold Hs.Ho;by_cases e2:i=j
     ·subst e2;rw[Lp g hd];simp
     ·by_cases e3:j<=i
      ·rw[if_pos e3,if_pos (by lia)]
      ·rw[if_neg e3,if_neg (by lia)]
    simp[Pz g hj,hd,dnD,et]
   | some d=>
    have hl:=Nb g hd;have et:tab h.n (fset (h.Ho (j+1)) j (h.Ho (j+1) d))=tab h.n (h.Ho j):=ZFX λi hi=>by
     unfold Hs.Ho fset;by_cases e2:i=j
     ·subst e2;rw[if_pos rfl,if_pos (by lia),if_pos (by lia),Q3 g hd]
     ·rw[if_neg e2];dsimp only;by_cases e3:j<=i
      ·rw[if_pos e3,if_pos (by lia)]
      ·rw[if_neg e3,if_neg (by lia)]
    simp[Pz g hj,hd,dnD,Ej,Hg hl.2.1,G7,Jm,hj,R8,et]
  rw[e1,ZRK,Dg];simp only[Dr,R.Dm,qJ,hb,Ea];exact ih
theorem ZSW(g:GoodH h)(G:DH):Wj [h.enc] G=.ok (.ref G.length) (G++[.lst (tab h.n λi=>(h.last i:Int))]):=by
 obtain⟨x',y',hL⟩:=ZF5 g (G:=G) h.n vF vF (zK _);have e0:tab h.n (h.Ho h.n)=Cm 0 h.n:=by
  unfold tab Cm;refine qk λi hi=>?_
  have:=qW.mp hi;unfold Hs.Ho;rw[if_neg (by lia)];simp -implicitDefEqProofs
 have e1:h.Ho 0=λi=>(h.last i:Int):=by funext i;unfold Hs.Ho;simp -implicitDefEqProofs
 rw[e0,e1]at hL;have hn:=g.len;have r1:inR (h.n:Int):=Gu (by lia) (by lia);have r2:inR ((h.n:Int)-1):=Gu (by lia) (by lia);have r3:inR (-1):=Gu (by lia) (by lia);have e2:((h.n:Int)-1 - -1).toNat=h.n:=by lia
 have h6:(h.n:Int)<=1000000:=by lia
 have ebr:bels G.length (Cm 0 h.n)=vG:=G9 λ_ _=>rfl
 unfold Wj ZGy;rw[Bp];simp -implicitDefEqProofs [Dy,Hs.Kl,r1,h6,Ga ebr,r2,r3,ZQ5,e2,hL,Ga]
def Hs.mem(h:Hs)(m:Nat):List Nat:=(zZ h.n).filter λk=>decide (h.last k=m)
theorem mem_iff{k:Nat}:k∈h.mem m↔k<h.n/\h.last k=m:=by unfold Hs.mem;rw[List.mem_filter,qW];simp
theorem ZDA:(h.mem m).Pairwise (· < ·):=List.Pairwise.filter _ List.pairwise_lt_range
theorem ZEk:(h.mem m).length<=h.n:=by have:=List.length_filter_le (λk=>decide (h.last k=m)) (zZ h.n);simpa[Hs.mem]using this
theorem ZNL(hs:ms.Pairwise (· < ·))(hi:i<ms.length)(hj:j<ms.length)(h:ms[i]<ms[j]):i<j:=by
 rcases Nat.lt_trichotomy i j with z|z|z
 ·exact z
 ·subst z;lia
 ·have:=jW.mp hs j i hj hi z;lia
theorem ZOl(g:GoodH h)(hm:m<h.n)(e:h.last m=m):(h.mem m).getLast?=vE m:=by
 have hmem:m∈h.mem m:=mem_iff.mpr ⟨hm,e⟩;have hne:h.mem m≠[]:=λz=>by rw[z]at hmem;cases hmem
 rw[List.getLast?_eq_some_getLast hne]
 congr 1
 have h1:=mem_iff.mp (List.getLast_mem hne);have h2:=(ZEc g ((h.mem m).getLast hne)).1;obtain⟨i,hi,ei⟩:=q9 hmem;have h3:m<=(h.mem m).getLast hne:=by
  rw[List.getLast_eq_getElem];by_cases e4:i=(h.mem m).length-1
  ·subst e4;lia
  ·have:=jW.mp (ZDA (h:=h) (m:=m)) i ((h.mem m).length-1) hi (by lia) (by lia);lia
 lia
def Hs.need(h:Hs)(k:Nat):Int:=match(h.pl k).kd with
 |.town a _=>a
 |_=>0
def Hs.rank(h:Hs)(k:Nat):Int:=match(h.pl k).kd with
 |.town _ b=>b
 |_=>0
def Hs.row(h:Hs)(ms:List Nat)(ca:Nat->Int)(k:Nat):Row:=⟨(h.dir k).map λd=>ms.idxOf d,ca k,h.need k,h.rank k⟩
def Hs.rows(h:Hs)(ms:List Nat)(ca:Nat->Int):List Row:=ms.map (h.row ms ca)
theorem idx_map(d:Nat):∀ms:List Nat,(ms.map λ(i:Nat)=>(i:Int)).idxOf (d:Int)=ms.idxOf d
 |[]=>rfl
 | m::ms=>by
  rw[zk,jA,jA,idx_map d ms];by_cases e:m=d
  ·subst e;simp
  ·have e2:¬((m:Int)=d):=by lia
   have b1:((m:Int)==(d:Int))=vH:=by simp[e2]
   have b2:(m==d)=vH:=by simp[e]
   rw[b1,b2]
theorem ZJ8(g:GoodH h)(hm:∀k∈ms,k<h.n/\∀d,h.dir k=vE d->d∈ms)(hl:ms.length<=40)(hp:G[p]?=vE (.lst (tab h.n ca))):∀(ks:List Nat)(acc:List Row)(x1 x2 x3 x4:Option D),(∀k∈ks,k∈ms)->acc.length+ks.length<=40->∃y1 y2 y3 y4,
  Bq (gV 4) Te (Bf ks) [vE h.enc,vE (.fl (Bf ms)),vE (.ref p),vE (.ref G.length),x1,x2,x3,x4] (G++[.lst (acc.map Row.enc)])=
   .nx [vE h.enc,vE (.fl (Bf ms)),vE (.ref p),vE (.ref G.length),y1,y2,y3,y4] (G++[.lst ((acc++ks.map (h.row ms ca)).map Row.enc)])
 |[],acc,x1,x2,x3,x4,_,_=>⟨x1,x2,x3,x4,by simp[Bf,Ei]⟩
 | k::ks,acc,x1,x2,x3,x4,hk,ha=>by
  obtain⟨hkn,hkd⟩:=hm k (hk k zW);obtain⟨y1,y2,y3,y4,ih⟩:=ZJ8 g hm hl hp ks (acc++[h.row ms ca k]) (vE (.int k)) (vE (h.encP (h.pl k))) (vE (dnD (h.dir k))) (vE (dnD ((h.dir k).map λd=>ms.idxOf d))) (λj hj=>hk j (zX _ hj)) (by simp at ha⊢;lia);refine⟨y1,y2,y3,y4,?_⟩;have hpl:p<G.length:=(zF.mp hp).1;have hgp:∀L:DH,(G++L)[p]?=vE (.lst (tab h.n ca)):=λL=>by rw[zR hpl];exact hp
  have ha2:acc.length<1000000:=by simp at ha;lia
  have ht:h.row ms ca k=⟨(h.dir k).map λd=>ms.idxOf d,ca k,h.need k,h.rank k⟩:=rfl;have hb:Te [vE h.enc,vE (.fl (Bf ms)),vE (.ref p),vE (.ref G.length),vE (.int k),x2,x3,x4] (G++[.lst (acc.map Row.enc)])=
    .nx [vE h.enc,vE (.fl (Bf ms)),vE (.ref p),vE (.ref G.length),vE (.int k),vE (h.encP (h.pl k)),vE (dnD (h.dir k)),vE (dnD ((h.dir k).map λd=>ms.idxOf d))] (G++[.lst ((acc++[h.row ms ca k]).map Row.enc)]):=by
   have hix:∀d,h.dir k=vE d->∀G',Mg (.fl (Bf ms)) [.int (d:Int)] G'=.ok (.int (ms.idxOf d:Nat)) G':=λd hd G'=>by
    have e:Bf ms=(ms.map λ(i:Nat)=>(i:Int)).map D.int:=by simp[Bf]
    rw[e,ZIK (ns:=ms.map λ(i:Nat)=>(i:Int)) (by simp[J6]) (zH.mpr ⟨d,hkd d hd,rfl⟩) (by simp;lia),idx_map]
   unfold Te;by_cases hT:(h.pl k).kd.isT=vG
   ·obtain⟨a,b,ek⟩:∃a b,(h.pl k).kd=.town a b:=by
     cases e:(h.pl k).kd with
     |town a b=>exact⟨a,b,rfl⟩
     |basin _ _ _=>rw[e]at hT;cases hT
     |mill _=>rw[e]at hT;cases hT
    have e4:∀G',Aj (h.encP (h.pl k)) (.int 4) G'=.ok (.int a) G':=λG'=>by unfold Hs.encP;rw[ek];simp
    have e5:∀G',Aj (h.encP (h.pl k)) (.int 5) G'=.ok (.int b) G':=λG'=>by unfold Hs.encP;rw[ek];simp
    have en:h.need k=a:=by unfold Hs.need;rw[ek]
    have er:h.rank k=b:=by unfold Hs.rank;rw[ek]
    cases hd:h.dir k with
    |none=>simp[Dy,Hs.Fo hkn,Pz g hkn,hd,dnD,ZAb,hT,hgp,Hg hkn,e4,e5,Bb,Ej,G7,ha2,ht,Row.enc,en,er]
    |some d=>simp[Dy,Hs.Fo hkn,Pz g hkn,hd,dnD,hix d hd,ZAb,hT,hgp,Hg hkn,e4,e5,Bb,Ej,G7,ha2,ht,Row.enc,en,er]
   ·have en:h.need k=0:=by
     unfold Hs.need;cases e:(h.pl k).kd with
     |town a b=>rw[e]at hT;exact absurd rfl hT
     |basin _ _ _=>rfl
     |mill _=>rfl
    have er:h.rank k=0:=by
     unfold Hs.rank;cases e:(h.pl k).kd with
     |town a b=>rw[e]at hT;exact absurd rfl hT
     |basin _ _ _=>rfl
     |mill _=>rfl
    cases hd:h.dir k with
    |none=>simp[Dy,Hs.Fo hkn,Pz g hkn,hd,dnD,ZAb,hT,hgp,Hg hkn,Bb,Ej,G7,ha2,ht,Row.enc,en,er]
    |some d=>simp[Dy,Hs.Fo hkn,Pz g hkn,hd,dnD,hix d hd,ZAb,hT,hgp,Hg hkn,Bb,Ej,G7,ha2,ht,Row.enc,en,er]
  show Bq _ _ (.int k::Bf ks) _ _=_;rw[Dg];simp only[Dr,R.Dm,qJ,hb,Ea];rw[ih];simp
theorem ZQz(g:GoodH h)(hm:∀k∈ms,k<h.n/\∀d,h.dir k=vE d->d∈ms)(hl:ms.length<=40)(hp:G[p]?=vE (.lst (tab h.n ca))):
  ZAS [h.enc,.fl (Bf ms),.ref p] G=.ok (.ref G.length) (G++[.lst ((h.rows ms ca).map Row.enc)]):=by
 obtain⟨y1,y2,y3,y4,hL⟩:=ZJ8 g hm hl hp ms [] vF vF vF vF (λk hk=>hk) (by simpa using hl);have hL':Bq (gV 4) Te (Bf ms) [vE h.enc,vE (.fl (Bf ms)),vE (.ref p),vE (.ref G.length),vF,vF,vF,vF] (G++[.lst []])=.nx [vE h.enc,vE (.fl (Bf ms)),vE (.ref p),vE (.ref G.length),y1,y2,y3,y4] (G++[.lst ((h.rows ms ca).map Row.enc)]):=hL;unfold ZAS ZHQ;rw[Bp];simp[Av,Ga,hL']
theorem ZE0(g:GoodH h)(hc:∀k,k<h.n->0<=ca k):Reach (h.rows (h.mem m) ca):=λi r hr=>by
 have hil:i<(h.mem m).length:=by have:=(zF.mp hr).1;simpa[Hs.rows]using this
 have e:r=h.row (h.mem m) ca (h.mem m)[i]:=by unfold Hs.rows at hr;rw[zx,zJ hil]at hr;simpa using hr.symm
 obtain⟨hk,hlast⟩:=mem_iff.mp (qx hil);subst e;refine⟨λd hd=>?_,hc _ hk,?_,?_⟩
 ·have hd':(h.dir (h.mem m)[i]).map (λd=>(h.mem m).idxOf d)=vE d:=hd;cases e:h.dir (h.mem m)[i]with
  |none=>rw[e]at hd';cases hd'
  |some d0=>
   rw[e]at hd';have ed:(h.mem m).idxOf d0=d:=by simpa using hd'
   have hl:=Nb g e;have hmem:d0∈h.mem m:=mem_iff.mpr ⟨hl.2.1,by rw[<-Q3 g e];exact hlast⟩;have hlt:=j2 hmem;have hg:(h.mem m)[(h.mem m).idxOf d0]=d0:=List.getElem_idxOf hlt;subst ed;refine⟨ZNL ZDA hil hlt (by rw[hg];exact hl.1),by simpa[Hs.rows]using hlt⟩
 ·show 0<=h.need _;unfold Hs.need;cases e:(h.pl (h.mem m)[i]).kd with
  |town a b=>exact(g.town _ a b hk e).1
  |basin _ _ _=>exact qq _
  |mill _=>exact qq _
 ·show 0<=h.rank _;unfold Hs.rank;cases e:(h.pl (h.mem m)[i]).kd with
  |town a b=>exact(g.town _ a b hk e).2
  |basin _ _ _=>exact qq _
  |mill _=>exact qq _
structure Cs where
 came:Nat->Int
 coming:Nat->Nat->Int
 page:Nat->List Int
 rea:List D
variable{s:Cs}
noncomputable def Ky(l:List Int):D:=match l with
 |[]=>.non
 |_=>.tup (l.map D.int)
@[simp]theorem ZM8{n:Nat}:bel n (Ky l)=vG:=by
 cases l with
 |nil=>rfl
 |cons a l=>simp only[Ky,DL.bel];exact ZJP
noncomputable def cfl(ds:List D):List (Str×D):=(["house","levels","year_turn","came","coming","page","reaches"]:List Str).zip ds
def cflds(i n:Nat)(H LV:D)(yt:Int):List (Str×D):=cfl [H,LV,.int yt,.ref (i+1),.ref (i+(2+n)),.ref (i+(3+n)),.ref (i+(4+n))]
def Dl(n:Nat)(pg:Nat->List Int):List D:=(zZ n).map λk=>Ky (pg k)
def Et(i n:Nat):List D:=(zZ n).map λk=>D.ref (i+(2+k))
def csT(i n:Nat)(H LV:D)(yt:Int)(s:Cs):DH:=.ins "Course" (cflds i n H LV yt):: .lst (tab n s.came)::((zZ n).map (λk=>DO.lst (tab 5 (s.coming k)))++[.lst (Et i n),.lst (Dl n s.page),.lst s.rea])
def csH(G:DH)(n:Nat)(H LV:D)(yt:Int)(s:Cs):DH:=G++csT G.length n H LV yt s
theorem ZQN{n:Nat}{yt:Int}:(csT i n H LV yt s).length=n+5:=by simp[csT]
theorem ZKg{n:Nat}{yt:Int}:(csH G n H LV yt s).length=G.length+(n+5):=by unfold csH;rw[qZ,ZQN]
section
variable{G:DH}{n:Nat}{H LV:D}{yt:Int}{s:Cs}
theorem Qm(j:Nat):(csH G n H LV yt s)[G.length+j]?=(csT G.length n H LV yt s)[j]? :=Z1 _ j
theorem Li:(csH G n H LV yt s)[G.length]?=vE (.ins "Course" (cflds G.length n H LV yt)):=Qm 0
theorem Uv:(csH G n H LV yt s)[G.length+1]?=vE (.lst (tab n s.came)):=Qm 1
theorem ZAB:(csT i n H LV yt s)[2+j]?=((zZ n).map (λk=>DO.lst (tab 5 (s.coming k)))++[.lst (Et i n),.lst (Dl n s.page),.lst s.rea])[j]? :=by
 have e:2+j=j+1+1:=by lia
 rw[e]
 rfl
theorem ZC0{k:Nat}(hk:k<n):(csH G n H LV yt s)[G.length+(2+k)]?=vE (.lst (tab 5 (s.coming k))):=by
 rw[Qm,ZAB,zR (by simpa using hk),zx,zL hk]
 rfl
theorem Vj:(csH G n H LV yt s)[G.length+(2+n)]?=vE (.lst (Et G.length n)):=by rw[Qm,ZAB,zG (by simp)];simp
theorem Lw:(csH G n H LV yt s)[G.length+(3+n)]?=vE (.lst (Dl n s.page)):=by
 have e:3+n=2+(n+1):=by lia
 rw[e,Qm,ZAB,zG (by simp)];simp
theorem csHe:(csH G n H LV yt s)[G.length+(4+n)]?=vE (.lst s.rea):=by
 have e:4+n=2+(n+2):=by lia
 rw[e,Qm,ZAB,zG (by simp)];simp
theorem ZAa(j:Nat)(o:DO):(csH G n H LV yt s).set (G.length+j) o=G++(csT G.length n H LV yt s).set j o:=ZCh _ j o
theorem csS1:(csH G n H LV yt s).set (G.length+1) (.lst (tab n ca))=csH G n H LV yt {s with came:=ca}:=ZAa 1 _
def upd2(co:Nat->Nat->Int)(k:Nat)(r:Nat->Int):Nat->Nat->Int:=λi=>if i=k then r else co i
theorem ZDJ{o:DO}:(csT i n H LV yt s).set (2+j) o=.ins "Course" (cflds i n H LV yt):: .lst (tab n s.came)::((zZ n).map (λk=>DO.lst (tab 5 (s.coming k)))++[DO.lst (Et i n),DO.lst (Dl n s.page),DO.lst s.rea]).set j o:=by
 have e:2+j=j+1+1:=by lia
 rw[e]
 rfl
theorem csSr{k:Nat}(hk:k<n){r:Nat->Int}:(csH G n H LV yt s).set (G.length+(2+k)) (.lst (tab 5 r))=csH G n H LV yt {s with coming:=upd2 s.coming k r}:=by
 rw[ZAa,ZDJ,List.set_append_left _ _ (by simpa using hk)];unfold csH csT
 congr 3
 congr 1
 refine j1 λi=>?_
 by_cases hi:i<n
 ·by_cases e:k=i
  ·subst e;rw[qU (by simpa using hi),zx,zL hi];simp[upd2]
  ·rw[qM e,zx,zL hi,zx,zL hi];have:i≠k:=λz=>e z.symm
   simp[upd2,this]
 ·rw[zA (by simp;lia),zA (by simp;lia)]
theorem Xv:(csH G n H LV yt s).set (G.length+(3+n)) (.lst (Dl n pg))=csH G n H LV yt {s with page:=pg}:=by
 have e:3+n=2+(n+1):=by lia
 rw[e,ZAa,ZDJ,jI _ _ (by simp)];unfold csH csT;simp
theorem csSe{re:List D}:(csH G n H LV yt s).set (G.length+(4+n)) (.lst re)=csH G n H LV yt {s with rea:=re}:=by
 have e:4+n=2+(n+2):=by lia
 rw[e,ZAa,ZDJ,jI _ _ (by simp)];unfold csH csT;simp
theorem Lf:K8 "Course" "house" (.ref G.length) (csH G n H LV yt s)=.ok H (csH G n H LV yt s):=Oe Li rfl
theorem ZJT:K8 "Course" "levels" (.ref G.length) (csH G n H LV yt s)=.ok LV (csH G n H LV yt s):=Oe Li rfl
theorem ZKk:K8 "Course" "year_turn" (.ref G.length) (csH G n H LV yt s)=.ok (.int yt) (csH G n H LV yt s):=Oe Li rfl
theorem V8:K8 "Course" "came" (.ref G.length) (csH G n H LV yt s)=.ok (.ref (G.length+1)) (csH G n H LV yt s):=Oe Li rfl
theorem ZIs:K8 "Course" "coming" (.ref G.length) (csH G n H LV yt s)=.ok (.ref (G.length+(2+n))) (csH G n H LV yt s):=Oe Li rfl
theorem Ph:K8 "Course" "page" (.ref G.length) (csH G n H LV yt s)=.ok (.ref (G.length+(3+n))) (csH G n H LV yt s):=Oe Li rfl
theorem ZMN:K8 "Course" "reaches" (.ref G.length) (csH G n H LV yt s)=.ok (.ref (G.length+(4+n))) (csH G n H LV yt s):=Oe Li rfl
theorem Kv{m:Str}{F:List D->DH->R D}{t:DA}(hm:∀i,(cflds i n H LV yt).lookup m=vF):ZAV "Course" m F t S (.ref G.length) (csH G n H LV yt s)=(t S (csH G n H LV yt s)).bind λds G2=>F (.ref G.length::ds) G2:=ZOf Li (hm _)
theorem ZGA:∀i,(cflds i n H LV yt).lookup ("send":Str)=vF:=λ_=>rfl
theorem ZBo:∀i,(cflds i n H LV yt).lookup ("send_down":Str)=vF:=λ_=>rfl
theorem ZRd:∀i,(cflds i n H LV yt).lookup ("go_basin":Str)=vF:=λ_=>rfl
theorem ZPs:∀i,(cflds i n H LV yt).lookup ("go_reach":Str)=vF:=λ_=>rfl
theorem ZTE:∀i,(cflds i n H LV yt).lookup ("go":Str)=vF:=λ_=>rfl
theorem ZPz:∀i,(cflds i n H LV yt).lookup ("state_behind":Str)=vF:=λ_=>rfl
theorem M9{s':Cs}{d:D}(hb:∀m,bel m d=vG):tidy (csH G n H LV yt s) (.ok d (csH G n H LV yt s'))=.ok d (csH G n H LV yt s'):=ZOB (by rw[ZKg,ZKg]) (hb _)
theorem ZRu{k:Nat}(hk:k<n):atI (Et i n) (k:Int)=vE (.ref (i+(2+k))):=Fe rfl (by unfold Et;rw[zx,zL hk];rfl)
theorem ZQS{k:Nat}:(Dl n pg).set k (Ky l)=Dl n λi=>if i=k then l else pg i:=by
 unfold Dl;refine j1 λi=>?_
 by_cases hi:i<n
 ·by_cases e:k=i
  ·subst e;rw[qU (by simpa using hi),zx,zL hi];simp
  ·rw[qM e,zx,zL hi,zx,zL hi];have:i≠k:=λz=>e z.symm
   simp[this]
 ·rw[zA (by simp;lia),zA (by simp;lia)]
@[simp]theorem ZM3:(Dl n pg).length=n:=by simp[Dl]
def Cs.send(s:Cs)(to dl:Nat)(c:Int):Cs:=if dl=0 then{s with came:=fset s.came to (s.came to+c)}else{s with coming:=upd2 s.coming to (fset (s.coming to) (dl-1) (s.coming to (dl-1)+c))}
theorem ZHx(ht:to<n)(hd:dl<=5):Su [.ref G.length,.int to,.int dl,.int c] (csH G n H LV yt s)=.ok .non (csH G n H LV yt (s.send to dl c)):=by
 unfold Su ZFs;rw[Bp];by_cases h0:dl=0
 ·subst h0;simp[V8,Vq Uv (Hg ht),Uv,Jm,ht,R8,csS1,Cs.send,M9]
 ·have e:((dl:Int)-1)=((dl-1:Nat):Int):=by lia
  have h1:dl-1<5:=by lia
  simp[h0,ZIs,Vj,ZRu ht,e,Vq (ZC0 ht) (Hg h1),ZC0 ht,Jm,h1,R8,csSr ht,Cs.send,M9]
end
def Hs.Hh(h:Hs)(s:Cs)(k:Nat)(c:Int):Cs:=match h.dn k with
 |none=>s
 |some d=>s.send d (h.pl k).dl c
section
variable{G:DH}{h:Hs}{lv:Nat->Int}{yt:Int}{s:Cs}
theorem ZB9(g:GoodH h){k:Nat}(hk:k<h.n):Sx [.ref G.length,.int k,.int c] (csH G h.n h.enc LV yt s)=.ok .non (csH G h.n h.enc LV yt (h.Hh s k c)):=by
 unfold Sx ZHo;rw[Bp];cases hd:h.dn k with
 |none=>simp[Lf,Oa g hk,hd,dnD,Hs.Hh,M9]
 |some d=>
  have hl:=g.dn k d hk hd;simp[Lf,Oa g hk,hd,dnD,Kv ZGA,Dy,Hs.Fo hk,ZHx hl.2 (g.dl k hk),Hs.Hh,M9]
theorem Xz{n:Nat}{k:Nat}{b d e f:Int}:(Dl n pg).set k (.tup [.int a,.int b,.int c,.int d,.int e,.int f])=Dl n λi=>if i=k then[a,b,c,d,e,f]else pg i:=ZQS (l:=[a,b,c,d,e,f])
def Hs.basin(h:Hs)(yt:Int)(lv:Nat->Int)(s:Cs)(k:Nat):Cs:=match(h.pl k).kd with
 |.basin brim rule pump=>
  let w:=lv k+s.came k;let st:=held yt rule [];let stays:=w-rv w st-pm w st;let lies:=min stays brim;let s1:Cs:={s with page:=λi=>if i=k then[s.came k,0,stays-lies,rv w st,pm w st,lies]else s.page i};let s2:=h.Hh s1 k (rv w st+(stays-lies))
  match pump with
  |none=>s2
  |some (to,dl,_)=>s2.send to dl (pm w st)
 |_=>s
theorem ZL5(g:GoodH h){k:Nat}(hk:k<h.n)(hB:(h.pl k).kd.isB=vG):Vz [.ref G.length,.int k] (csH G h.n h.enc (.tup (tab h.n lv)) yt s)=.ok .non (csH G h.n h.enc (.tup (tab h.n lv)) yt (h.basin yt lv s k)):=by
 obtain⟨brim,rule,pump,ek⟩:∃a b c,(h.pl k).kd=.basin a b c:=by
  cases e:(h.pl k).kd with
  |basin a b c=>exact⟨a,b,c,rfl⟩
  |town _ _=>rw[e]at hB;cases hB
  |mill _=>rw[e]at hB;cases hB
 have e4:∀G',Aj (h.encP (h.pl k)) (.int 4) G'=.ok (.int brim) G':=λG'=>by unfold Hs.encP;rw[ek];simp
 have e5:∀G',Aj (h.encP (h.pl k)) (.int 5) G'=.ok (.tup (rule.map Cp)) G':=λG'=>by unfold Hs.encP;rw[ek];simp
 have e6:∀G',Aj (h.encP (h.pl k)) (.int 6) G'=.ok (h.N8 pump) G':=λG'=>by unfold Hs.encP;rw[ek];simp
 simp only[Hs.basin,ek];unfold Vz ZEr;rw[Bp];cases hp:pump with
 |none=>simp[Lf,Dy,Hs.Fo hk,V8,Uv,Hg hk,e5,ZKk,c_at,ZJT,ZGP,e4,Bb,Ph,Lw,Jm,hk,Xz,Xv,Kv ZBo,ZB9 g hk,e6,hp,Hs.N8,M9]
 |some q=>
  obtain⟨to,dl,mo⟩:=q;have hl:=g.pump k brim rule to dl mo hk (by rw[ek,hp]);simp[Lf,Dy,Hs.Fo hk,V8,Uv,Hg hk,e5,ZKk,c_at,ZJT,ZGP,e4,Bb,Ph,Lw,Jm,hk,Xz,Xv,Kv ZBo,ZB9 g hk,e6,hp,Hs.N8,Kv ZGA,ZI4 g hl.1,ZHx hl.1 hl.2.2,M9]
end
noncomputable def z3(ms:List Nat)(T L:Nat->Int):List D:=(zZ ms.length).map λi=>D.tup [.int (ms.getD i 0:Nat),.int (T i),.int (L i)]
theorem ZNJ{L:Nat->Int}(j:Nat)(G:DH):Gz [.fl (Bf ms),.fl (tab ms.length T),.fl (tab ms.length L)] j G=vE (z3 ms T L)[j]? :=by
 unfold Gz z3;by_cases hj:j<ms.length
 ·have e1:(Bf ms)[j]?=vE (.int (ms.getD j 0:Nat)):=by unfold Bf;rw[zx,zJ hj];simp[zD,zJ hj]
  simp[Ja,e1,Mz hj,zL hj]
 ·have e1:(Bf ms)[j]?=vF:=zA (by simp;lia);have e2:(zZ ms.length)[j]?=vF:=zA (by simp;lia);simp[Ja,e1,e2]
noncomputable def rrow(T L:Nat->Int)(i:Nat):List Int:=[T i+L i,T i,0,L i,0,0]
def pgM(ms:List Nat)(T L:Nat->Int)(pg:Nat->List Int)(i:Nat):Nat->List Int:=λk=>if k∈ms.take i then rrow T L (ms.idxOf k)else pg k
theorem ZRO{L:Nat->Int}:pgM ms T L pg 0=pg:=by funext k;simp[pgM]
theorem ZGt(nd:ms.Nodup)(hi:i<ms.length)(hj:j<ms.length)(e:ms[i]=ms[j]):i=j:=by
 rcases Nat.lt_trichotomy i j with z|z|z
 ·exact absurd e (jW.mp nd i j hi hj z)
 ·exact z
 ·exact absurd e.symm (jW.mp nd j i hj hi z)
theorem ZSf(nd:ms.Nodup)(hi:i<ms.length):ms.idxOf ms[i]=i:=by have hl:=j2 (qx hi);exact ZGt nd hl hi (List.getElem_idxOf hl)
theorem ZM0(nd:ms.Nodup){L:Nat->Int}(hi:i<ms.length):pgM ms T L pg (i+1)=λk=>if k=ms.getD i 0 then rrow T L i else pgM ms T L pg i k:=by
 have eg:ms.getD i 0=ms[i]:=by simp[zD,zJ hi]
 funext k;rw[eg];unfold pgM;rw[List.take_succ_eq_append_getElem hi];by_cases e:k=ms[i]
 ·subst e;rw[if_pos rfl,if_pos (j7.mpr (.inr (qI.mpr rfl))),ZSf nd hi]
 ·rw[if_neg e];have:(k∈ms.take i++[ms[i]])↔k∈ms.take i:=by rw[j7,qI];exact⟨λh=>h.elim id λz=>absurd z e,.inl⟩
  simp only[this]
section
variable{G:DH}{h:Hs}{LV:D}{yt:Int}
theorem ZIl(g:GoodH h)(hms:∀k∈ms,k<h.n)(nd:ms.Nodup)(hlast:ms.getLast?=vE m){T L:Nat->Int}{s:Cs}{r t:D}:∀(q i:Nat)(x y z:Option D),i+q=ms.length->0<q->∃x' y' z',
  Bq (Bg 3 (Am (gV 4) (Am (gV 5) (Am (gV 6) Bj)))) M6 ((z3 ms T L).drop i) [vE (.ref G.length),vE (.fl (Bf ms)),vE r,vE t,x,y,z] (csH G h.n h.enc LV yt {s with page:=pgM ms T L s.page i})=
   .nx [vE (.ref G.length),vE (.fl (Bf ms)),vE r,vE t,x',y',z'] (csH G h.n h.enc LV yt (h.Hh {s with page:=pgM ms T L s.page ms.length} m (L (ms.length-1))))
 |0,i,x,y,z,e,h0=>by lia
 | q + 1,i,x,y,z,e,h0=>by
  have hi:i<ms.length:=by lia
  have eg:ms.getD i 0=ms[i]:=by simp[zD,zJ hi]
  have hk:ms.getD i 0<h.n:=by rw[eg];exact hms _ (qx hi)
  have hmn:m<h.n:=hms m (List.mem_of_getLast? hlast);have e0:(z3 ms T L).drop i=.tup [.int (ms.getD i 0:Nat),.int (T i),.int (L i)]::(z3 ms T L).drop (i+1):=by rw[zM (by simp[z3];exact hi)];simp[z3]
  have hneg:atI (Bf ms) (-1)=vE (.int (m:Nat)):=by
   have hl:0<ms.length:=by lia
   rw[ZSh (by decide) (by simp;lia)]
   congr 1
   have e3:((-1:Int)+((Bf ms).length:Int)).toNat=ms.length-1:=by simp;lia
   simp only[e3];unfold Bf;rw[List.getElem_map];have e4:ms[ms.length-1]'(by lia)=m:=by have:=j6 (l:=ms);rw[hlast,zJ (by lia)]at this;exact(Option.some.inj this).symm
   rw[e4]
  have hpg:(λk=>if k=ms.getD i 0 then[T i+L i,T i,0,L i,0,0]else pgM ms T L s.page i k)=pgM ms T L s.page (i+1):=(ZM0 nd hi).symm;rw[e0,Dg];cases q with
  | zero=>
   have ei:i=ms.length-1:=by lia
   have em:ms.getD i 0=m:=by have:=j6 (l:=ms);rw[hlast,zJ (by lia)]at this;rw[eg];subst ei;exact(Option.some.inj this).symm
   have hb:M6 [vE (.ref G.length),vE (.fl (Bf ms)),vE r,vE t,vE (.int (ms.getD i 0:Nat)),vE (.int (T i)),vE (.int (L i))] (csH G h.n h.enc LV yt {s with page:=pgM ms T L s.page i})=
     .nx [vE (.ref G.length),vE (.fl (Bf ms)),vE r,vE t,vE (.int (ms.getD i 0:Nat)),vE (.int (T i)),vE (.int (L i))] (csH G h.n h.enc LV yt (h.Hh {s with page:=pgM ms T L s.page ms.length} m (L (ms.length-1)))):=by
    have e5:i+1=ms.length:=by lia
    rw[e5]at hpg;unfold M6;simp only[em]at hk hpg⊢;simp[Bb,Ph,Lw,Jm,hk,Xz,hpg,Xv,hneg,Kv ZBo,ZB9 g hmn,<-ei]
   refine⟨vE (.int (ms.getD i 0:Nat)),vE (.int (T i)),vE (.int (L i)),?_⟩;rw[zP (by simp[z3];lia)];simp only[Qt,Qo,Q8,Dr,R.Jo,R.Dm,qJ,hb,Ea,zO,qN,Nat.reduceAdd,if_true,Ei]
  | succ q=>
   have hne:ms.getD i 0≠m:=λz=>by have h1:=j6 (l:=ms);rw[hlast,zJ (by lia)]at h1;have h2:=Option.some.inj h1;rw[eg,h2]at z;have:=ZGt nd hi (by lia) z;lia
   have hne':¬((ms.getD i 0:Nat):Int)=(m:Int):=by lia
   have hb:M6 [vE (.ref G.length),vE (.fl (Bf ms)),vE r,vE t,vE (.int (ms.getD i 0:Nat)),vE (.int (T i)),vE (.int (L i))] (csH G h.n h.enc LV yt {s with page:=pgM ms T L s.page i})=
     .nx [vE (.ref G.length),vE (.fl (Bf ms)),vE r,vE t,vE (.int (ms.getD i 0:Nat)),vE (.int (T i)),vE (.int (L i))] (csH G h.n h.enc LV yt {s with page:=pgM ms T L s.page (i+1)}):=by
    unfold M6;generalize ms.getD i 0=a at hk hpg hne';simp[Bb,Ph,Lw,Jm,hk,Xz,hpg,Xv,hneg,hne']
   obtain⟨x',y',z',ih⟩:=ZIl g hms nd hlast (T:=T) (L:=L) (s:=s) (r:=r) (t:=t) (q+1) (i+1) (vE (.int (ms.getD i 0:Nat))) (vE (.int (T i))) (vE (.int (L i))) (by lia) (by lia);refine⟨x',y',z',?_⟩;simp only[Qt,Qo,Q8,Dr,R.Jo,R.Dm,qJ,hb,Ea,zO,qN,Nat.reduceAdd,if_true];exact ih
def Hs.Jb(h:Hs)(s:Cs)(m:Nat):Nat->Int:=shr (h.rows (h.mem m) s.came)
def Hs.Ip(h:Hs)(s:Cs)(m:Nat):Nat->Int:=gath (h.rows (h.mem m) s.came) λi=>col Row.water (h.rows (h.mem m) s.came) i-h.Jb s m i
def Hs.reach(h:Hs)(s:Cs)(m:Nat):Cs:=
 let s1:=h.Hh {s with page:=pgM (h.mem m) (h.Jb s m) (h.Ip s m) s.page (h.mem m).length} m (h.Ip s m ((h.mem m).length-1))
 {s1 with rea:=s1.rea++[.tup [.fl (Bf (h.mem m)),.fl ((h.rows (h.mem m) s.came).map Row.enc)]]}
theorem Yz{n:Nat}(hb:∀m,bels m ds=vG):freeze (csH G n H LV yt s) (.ok (.ref (csH G n H LV yt s).length) (csH G n H LV yt s++[.lst ds]))=.ok (.fl ds) (csH G n H LV yt s):=Fb (hb _)
theorem W0:(h.rows ms ca).length=ms.length:=by simp[Hs.rows]
theorem ZOa(g:GoodH h)(hm:m<h.n)(hl:h.last m=m)(hc:∀k,k<h.n->0<=s.came k)(hre:s.rea.length<=100):ZAc [.ref G.length,.fl (Bf (h.mem m))] (csH G h.n h.enc LV yt s)=.ok .non (csH G h.n h.enc LV yt (h.reach s m)):=by
 have hR:=ZE0 g (m:=m) hc;have hlen:(h.rows (h.mem m) s.came).length<=40:=by have:=ZEk (h:=h) (m:=m);have:=g.len;rw[W0];lia
 have hmem:m∈h.mem m:=mem_iff.mpr ⟨hm,hl⟩;have hpos:0<(h.mem m).length:=List.length_pos_of_mem hmem;have nd:(h.mem m).Nodup:=(ZDA (h:=h) (m:=m)).imp λhab=>zE hab
 have cr:=ZQz g (ms:=h.mem m) (λk hk=>⟨(mem_iff.mp hk).1,λd hd=>by have h1:=mem_iff.mp hk;have h2:=Nb g hd;exact mem_iff.mpr ⟨h2.2.1,by rw[<-Q3 g hd];exact h1.2⟩⟩) (by rw[<-W0 (h:=h) (ca:=s.came)];exact hlen) (p:=G.length+1) (ca:=s.came) (G:=csH G h.n h.enc LV yt s) Uv
 have cs:=ZSM hR hlen (csH G h.n h.enc LV yt s);have cp:=ZIo hR hlen (t:=.fl (tab (h.rows (h.mem m) s.came).length (shr (h.rows (h.mem m) s.came)))) (T:=shr (h.rows (h.mem m) s.came)) (G:=csH G h.n h.enc LV yt s) rfl;rw[W0]at cs cp;obtain⟨x',y',z',hL⟩:=ZIl (G:=G) (LV:=LV) (yt:=yt) g (ms:=h.mem m) (λk hk=>(mem_iff.mp hk).1) nd (ZOl g hm hl) (T:=h.Jb s m) (L:=h.Ip s m) (s:=s) (r:=.fl ((h.rows (h.mem m) s.came).map Row.enc)) (t:=.fl (tab (h.mem m).length (h.Jb s m))) (h.mem m).length 0 vF vF vF (by lia) hpos
 rw[ZRO,jE]at hL;have hz:∀S G',El (Gz [.fl (Bf (h.mem m)),.fl (tab (h.mem m).length (h.Jb s m)),.fl (tab (h.mem m).length (h.Ip s m))]) (Bg 3 (Am (gV 4) (Am (gV 5) (Am (gV 6) Bj)))) M6 (h.mem m).length 0 S G'=Bq (Bg 3 (Am (gV 4) (Am (gV 5) (Am (gV 6) Bj)))) M6 (z3 (h.mem m) (h.Jb s m) (h.Ip s m)) S G':=λS G'=>Uo ZNJ (by simp[z3])
 have eT:shr (h.rows (h.mem m) s.came)=h.Jb s m:=rfl;have eL:gath (h.rows (h.mem m) s.came) (λi=>col Row.water (h.rows (h.mem m) s.came) i-h.Jb s m i)=h.Ip s m:=rfl;rw[eT]at cs cp;rw[eL]at cp;have hre2:∀s':Cs,s'.rea=s.rea->s'.rea.length<1000000:=λs' e=>by rw[e];lia
 have ers:∀s':Cs,∀k c,(h.Hh s' k c).rea=s'.rea:=λs' k c=>by
  unfold Hs.Hh;cases h.dn k with
  |none=>rfl
  |some d=>simp only[Cs.send];split <;> rfl
 have el1:=hre2 _ (ers {s with page:=pgM (h.mem m) (h.Jb s m) (h.Ip s m) s.page (h.mem m).length} m (h.Ip s m ((h.mem m).length-1)));simp only[Hs.reach];generalize h.Hh {s with page:=pgM (h.mem m) (h.Jb s m) (h.Ip s m) s.page (h.mem m).length} m (h.Ip s m ((h.mem m).length-1))=s1 at hL el1;have hS:{s with page:=s.page}=s:=rfl;have ht:∀G',tidy G' (.ok (.tup [.fl (Bf (h.mem m)),.fl ((h.rows (h.mem m) s.came).map Row.enc)]) G')=.ok (.tup [.fl (Bf (h.mem m)),.fl ((h.rows (h.mem m) s.came).map Row.enc)]) G':=λG'=>By (by simp)
 unfold ZAc ZIv;rw[Bp];simp[Lf,V8,cr,Yz,cs,cp,I9,Lb,lenOf,hz,hL,Bb,ht,ZMN,csHe,el1,csSe,M9]
end
def Cs.NN(n:Nat)(s:Cs):Prop:=(∀k,k<n->0<=s.came k)/\∀k j,k<n->j<5->0<=s.coming k j
theorem Cs.NN.send{n:Nat}(h:s.NN n)(hc:0<=c):(s.send to dl c).NN n:=by
 unfold Cs.send;split
 ·refine⟨λk hk=>?_,h.2⟩;simp only[fset];split
  ·rename_i e;subst e;have:=h.1 k hk;lia
  ·exact h.1 k hk
 ·refine⟨h.1,λk j hk hj=>?_⟩;simp only[upd2];split
  ·rename_i e;subst e;simp only[fset];split
   ·rename_i e2;subst e2;have:=h.2 k _ hk hj;lia
   ·exact h.2 k j hk hj
  ·exact h.2 k j hk hj
theorem Cs.NN.down{n:Nat}(h:s.NN n){hs:Hs}{k:Nat}(hc:0<=c):(hs.Hh s k c).NN n:=by
 unfold Hs.Hh;cases hs.dn k with
 |none=>exact h
 |some d=>exact h.send hc
theorem ZKb{w:Int}{s:Stp}:0<=cub w s:=by unfold cub;lia
theorem ZFS{w:Int}:∀{st:List Stp},0<=rv w st
 |[]=>qq _
 |s::r=>by
  have h1:=ZFS (w:=w) (st:=r);have h2:=ZKb (w:=w) (s:=s);unfold rv
  split <;> lia
theorem ZFO{w:Int}:∀{st:List Stp},0<=pm w st
 |[]=>qq _
 |s::r=>by
  have h1:=ZFO (w:=w) (st:=r);have h2:=ZKb (w:=w) (s:=s);unfold pm
  split <;> lia
theorem Cs.NN.page{n:Nat}(h:s.NN n):({s with page:=pg}:Cs).NN n:=h
theorem ZDc:(s.send to dl c).rea=s.rea/\(s.send to dl c).page=s.page:=by
 unfold Cs.send
 split <;> exact⟨rfl,rfl⟩
theorem P0{k:Nat}:(h.Hh s k c).rea=s.rea/\(h.Hh s k c).page=s.page:=by
 unfold Hs.Hh;cases h.dn k with
 |none=>exact⟨rfl,rfl⟩
 |some d=>exact ZDc
section
variable{h:Hs}{yt:Int}{lv:Nat->Int}{s:Cs}
theorem ZO3{k:Nat}(hs:s.NN h.n):(h.basin yt lv s k).NN h.n:=by
 unfold Hs.basin;cases(h.pl k).kd with
 | basin brim rule pump=>
  simp only;have a1:=ZFS (w:=lv k+s.came k) (st:=held yt rule []);have a2:=ZFO (w:=lv k+s.came k) (st:=held yt rule []);cases pump with
  |none=>exact hs.page.down (by lia)
  |some q=>
   obtain⟨to,dl,mo⟩:=q;exact Cs.NN.send (hs.page.down (by lia)) a2
 |town _ _=>exact hs
 |mill _=>exact hs
theorem ZRv{k:Nat}:(h.basin yt lv s k).rea=s.rea:=by
 unfold Hs.basin;cases(h.pl k).kd with
 |basin brim rule pump=>
  simp only;cases pump with
  |none=>rw[P0.1]
  |some q=>obtain⟨to,dl,mo⟩:=q;simp only;rw[ZDc.1,P0.1]
 |town _ _=>rfl
 |mill _=>rfl
theorem ZKI{k:Nat}(hB:(h.pl k).kd.isB=vG):((h.basin yt lv s k).page k).length=6/\∀i,i≠k->(h.basin yt lv s k).page i=s.page i:=by
 unfold Hs.basin;cases e:(h.pl k).kd with
 | basin brim rule pump=>
  simp only;cases pump with
  |none=>
   simp only;rw[P0.2];exact⟨by simp,λi hi=>by simp[hi]⟩
  |some q=>
   obtain⟨to,dl,mo⟩:=q;simp only;rw[ZDc.2,P0.2];exact⟨by simp,λi hi=>by simp[hi]⟩
 |town _ _=>rw[e]at hB;cases hB
 |mill _=>rw[e]at hB;cases hB
theorem ZLy(g:GoodH h)(hs:s.NN h.n)(hi:i<(h.mem m).length):0<=h.Ip s m i:=by have hR:=ZE0 g (m:=m) hs.1;have hsi:=ZR9 hR;have:=hsi.p0 i (by rw[W0];exact hi);rw[hsi.pg]at this;exact this
theorem ZOr(g:GoodH h)(hm:m<h.n)(hl:h.last m=m)(hs:s.NN h.n):(h.reach s m).NN h.n:=by have hpos:0<(h.mem m).length:=List.length_pos_of_mem (mem_iff.mpr ⟨hm,hl⟩);unfold Hs.reach;exact Cs.NN.down (s:={s with page:=pgM (h.mem m) (h.Jb s m) (h.Ip s m) s.page (h.mem m).length}) hs.page (ZLy g hs (by lia))
theorem ZNm:(h.reach s m).rea.length=s.rea.length+1:=by unfold Hs.reach;simp only[qZ,j0];rw[P0.1]
theorem ZNH{k:Nat}:(h.reach s m).page k=if k∈h.mem m then rrow (h.Jb s m) (h.Ip s m) ((h.mem m).idxOf k)else s.page k:=by unfold Hs.reach;simp only;rw[P0.2];unfold pgM;rw[List.take_of_length_le (zK _)]
def Hs.step(h:Hs)(yt:Int)(lv:Nat->Int)(s:Cs)(k:Nat):Cs:=if(h.pl k).kd.isB=vG then h.basin yt lv s k else if h.last k=k then h.reach s k else s
def Hs.goF(h:Hs)(yt:Int)(lv:Nat->Int):Nat->Nat->Cs->Cs
 |0,_,s=>s
 |m+1,k,s=>h.goF yt lv m (k+1) (h.step yt lv s k)
theorem ZFc(g:GoodH h){k:Nat}(hk:k<h.n)(hs:s.NN h.n):(h.step yt lv s k).NN h.n:=by
 unfold Hs.step;split
 ·exact ZO3 hs
 ·split
  ·rename_i e;exact ZOr g hk e hs
  ·exact hs
theorem ZMY{k:Nat}:(h.step yt lv s k).rea.length<=s.rea.length+1:=by
 unfold Hs.step;split
 ·rw[ZRv];lia
 ·split
  ·rw[ZNm];lia
  ·lia
end
section
variable{G:DH}{h:Hs}{yt:Int}{lv:Nat->Int}
theorem Z9{β:Type}{f f':α->Option β}:∀{l:List α},(∀x∈l,f x=f' x)->l.filterMap f=l.filterMap f'
 |[],_=>rfl
 |x::l,hl=>by rw[qY,qY,hl x zW,Z9 λy hy=>hl y (zX _ hy)]
theorem ZSC{k:Nat}(hS:Bm 2 [2] S=[vF,vF,vE (.int k)])(G:DH):Dw (Ez 0 (.fl (tab h.n λi=>(h.last i:Int)))) (Bg 2 (Am (gV 0) (Am (gV 1) Bj))) U6 Xf (Bm 2 [2] S) h.n 0 G=.ok (Bf (h.mem k)) G:=by
 have he:Er (tab h.n λi=>(h.last i:Int))=(zZ h.n).map λ(i:Nat)=>D.tup [.int (i:Int),.int (h.last i:Int)]:=by refine qA (by simp[Er]) λi h1 h2=>by simp[Er,tab]
 rw[Vw (F:=λd=>match d with | .tup [.int i,.int e]=>if e=(k:Int)then vE (.int i)else vF|_=>vF) (λj=>Y7 j G) (λx hx=>?_) (by rw[Lg];simp)]
 ·congr 1
  rw[he,qX];unfold Hs.mem Bf;rw[<-List.filterMap_eq_filter,List.map_filterMap];refine Z9 λi _=>?_
  by_cases e:h.last i=k
  ·subst e;simp[Option.guard]
  ·have e2:¬((h.last i:Int)=(k:Int)):=by lia
   simp[Option.guard,e,e2]
 ·rw[he]at hx;obtain⟨i,_,rfl⟩:=zH.mp hx;refine⟨[vE (.int i),vE (.int (h.last i:Int)),vE (.int k)],by rw[hS];simp,?_⟩;by_cases e:h.last i=k
  ·refine .inr ⟨by unfold U6;simp[e],.int i,by unfold Xf;simp,by simp[e]⟩
  ·have e2:¬((h.last i:Int)=(k:Int)):=by lia
   exact .inl ⟨by unfold U6;simp[e2],by simp[e2]⟩
theorem ZH2(g:GoodH h):∀(m k:Nat)(s:Cs)(x y:Option D),k+m=h.n->s.NN h.n->s.rea.length<=k->∃x' y',
  Bq (Bg 2 (Am (gV 2) (Am (gV 3) Bj))) Qh ((Er (tab h.n λi=>(h.last i:Int))).drop k) [vE (.ref G.length),vE (.fl (tab h.n λi=>(h.last i:Int))),x,y] (csH G h.n h.enc (.tup (tab h.n lv)) yt s)=
   .nx [vE (.ref G.length),vE (.fl (tab h.n λi=>(h.last i:Int))),x',y'] (csH G h.n h.enc (.tup (tab h.n lv)) yt (h.goF yt lv m k s))
 |0,k,s,x,y,e,_,_=>⟨x,y,by rw[zP (by rw[Lg];simp;lia),Ei];rfl⟩
 | m + 1,k,s,x,y,e,hs,hre=>by
  have hk:k<h.n:=by lia
  have hn:=g.len;have hre2:=ZMY (h:=h) (yt:=yt) (lv:=lv) (s:=s) (k:=k);obtain⟨x',y',ih⟩:=ZH2 g m (k+1) (h.step yt lv s k) (vE (.int k)) (vE (.int (h.last k:Int))) (by lia) (ZFc g hk hs) (by lia);refine⟨x',y',?_⟩;have e0:(Er (tab h.n λi=>(h.last i:Int))).drop k=.tup [.int k,.int (h.last k:Int)]::(Er (tab h.n λi=>(h.last i:Int))).drop (k+1):=by rw[zM (by rw[Lg];simpa using hk)];simp[Er,tab]
  have hml:(h.mem k).length<=1000000:=by have:=ZEk (h:=h) (m:=k);lia
  have hb:Qh [vE (.ref G.length),vE (.fl (tab h.n λi=>(h.last i:Int))),vE (.int k),vE (.int (h.last k:Int))] (csH G h.n h.enc (.tup (tab h.n lv)) yt s)=
    .nx [vE (.ref G.length),vE (.fl (tab h.n λi=>(h.last i:Int))),vE (.int k),vE (.int (h.last k:Int))] (csH G h.n h.enc (.tup (tab h.n lv)) yt (h.step yt lv s k)):=by
   unfold Qh Hs.step;by_cases hB:(h.pl k).kd.isB=vG
   ·simp[Lf,Dy,Hs.Fo hk,Jf,hB,Kv ZRd,ZL5 g hk hB]
   ·by_cases hl:h.last k=k
    ·have hc:Dw (Ez 0 (.fl (tab h.n λi=>(h.last i:Int)))) (Bg 2 (Am (gV 0) (Am (gV 1) Bj))) U6 Xf (Bm 2 [2] [vE (.ref G.length),vE (.fl (tab h.n λi=>(h.last i:Int))),vE (.int k),vE (.int (k:Int))]) h.n 0 (csH G h.n h.enc (.tup (tab h.n lv)) yt s)=.ok (Bf (h.mem k)) (csH G h.n h.enc (.tup (tab h.n lv)) yt s):=ZSC rfl _;simp[Lf,Dy,Hs.Fo hk,Jf,hB,hl,Kv ZPs,Ie,Lb,lenOf,hc,Av,hml,Yz,ZOa g hk hl hs.1 (by lia)]
    ·have hl':¬((h.last k:Int)=(k:Int)):=by lia
     simp[Lf,Dy,Hs.Fo hk,Jf,hB,hl,hl']
  rw[e0,Dg];simp only[Qt,Qo,Q8,Dr,R.Jo,R.Dm,qJ,hb,Ea,zO,qN,Nat.reduceAdd,if_true];exact ih
theorem ZNO(g:GoodH h)(hs:s.NN h.n)(hre:s.rea=[]):Wf [.ref G.length] (csH G h.n h.enc (.tup (tab h.n lv)) yt s)=.ok .non (csH G h.n h.enc (.tup (tab h.n lv)) yt (h.goF yt lv h.n 0 s)):=by
 obtain⟨x',y',hL⟩:=ZH2 (G:=G) (yt:=yt) (lv:=lv) g h.n 0 s vF vF (by lia) hs (by rw[hre];simp);rw[jE]at hL;unfold Wf ZFe;rw[Bp];have hz:∀S G',El (Ez 0 (.fl (tab h.n λi=>(h.last i:Int)))) (Bg 2 (Am (gV 2) (Am (gV 3) Bj))) Qh h.n 0 S G'=Bq (Bg 2 (Am (gV 2) (Am (gV 3) Bj))) Qh (Er (tab h.n λi=>(h.last i:Int))) S G':=λS G'=>Uo Y7 (by rw[Lg];simp)
 simp[Lf,ZSW g,Yz,Ie,Lb,lenOf,hz,hL,M9]
end
def Br(n:Nat)(co:Nat->Nat->Int):List D:=(zZ n).map λk=>D.tup (tab 5 (co k))
def stD(n:Nat)(lv:Nat->Int)(co:Nat->Nat->Int):D:=.tup [.tup (tab n lv),.tup (Br n co)]
@[simp]theorem ZTu{n:Nat}:bels m (Br n co)=vG:=G9 λk _=>by simp[Jj]
@[simp]theorem ZPN{n:Nat}:bels m (Dl n pg)=vG:=G9 λk _=>ZM8
@[simp]theorem ZTn{n:Nat}:(Br n co).length=n:=by simp[Br]
def Nh(co:Nat->Nat->Int):Nat->Nat->Int:=λk j=>if j<4 then co k (j+1)else 0
def cs0(co:Nat->Nat->Int)(fl:Nat->Int):Cs:=⟨λk=>fl k+co k 0,Nh co,λ_=>[],[]⟩
theorem tab5:tab 5 F=[.int (F 0),.int (F 1),.int (F 2),.int (F 3),.int (F 4)]:=rfl
theorem Ol{c f:Str}{fs:List (Str×D)}{d:D}(hl:fs.length<1000):Px c f (.ref G.length) d S (G++ .ins c fs::L)=.nx S (G++ .ins c (Hv f d fs)::L):=by
 rw[ZMb (fs:=fs) (by rw[Ej];rfl) hl,G7]
 rfl
theorem ZPo{n:Nat}(G:DH):Dw (Gz [.tup (tab n fl),.tup (Br n co)]) (Bg 2 (Am (gV 0) (Am (gV 1) Bj))) Cd X4 (Bm 2 [] S) n 0 G=.ok (tab n λk=>fl k+co k 0) G:=by
 have he:Oq (tab n fl) (Br n co)=(zZ n).map λ(i:Nat)=>D.tup [.int (fl i),.tup (tab 5 (co i))]:=by refine qA (by simp[Oq]) λi h1 h2=>by simp[Oq,tab,Br]
 rw[Vw (F:=λd=>match d with | .tup [.int c,.tup (.int a::_)]=>vE (.int (c+a))|_=>vF) (λj=>ZB4 (M5 (xs:=tab n fl)) (M5 (xs:=Br n co)) j) (λx hx=>?_) (by rw[he];simp)]
 ·congr 1
  rw[he,qX];show(zZ n).filterMap (λi=>vE (D.int (fl i+co i 0)))=_;rw[qz]
  rfl
 ·rw[he]at hx;obtain⟨i,_,rfl⟩:=zH.mp hx;refine⟨[vE (.int (fl i)),vE (.tup (tab 5 (co i)))],by simp[Bm],.inr ⟨rfl,.int (fl i+co i 0),?_,by simp[tab5]⟩⟩;unfold X4;simp[tab5]
theorem ZNe{k:Nat}(G:DH):Sw [vE (.tup (tab 5 (co k)))] G=.ok (.ref G.length) (G++[.lst (tab 5 (Nh co k))]):=by
 have hcut:cutD (tab 5 (co k)) (vE 1) vF=[.int (co k 1),.int (co k 2),.int (co k 3),.int (co k 4)]:=rfl;have h1:Mx [.tup [.int (co k 1),.int (co k 2),.int (co k 3),.int (co k 4)]] G=.ok (.ref G.length) (G++[.lst [.int (co k 1),.int (co k 2),.int (co k 3),.int (co k 4)]]):=rfl;have h2:Ay (.fl [.int (co k 1),.int (co k 2),.int (co k 3),.int (co k 4)]) (.fl [.int 0]) G=.ok (.ref G.length) (G++[.lst (tab 5 (Nh co k))]):=rfl
 have hf:∀ds:List D,bels G.length ds=vG->freeze G (.ok (.ref G.length) (G++[.lst ds]))=.ok (.fl ds) G:=λds hb=>Fb hb
 unfold Sw;simp[Ly,Yd,hcut,Jx,h1,hf,Av,h2,Ga]
theorem ZHu{n:Nat}{co:Nat->Nat->Int}:∀(m k:Nat)(G:DH),k+m=n->Du (gV 0) Cd Sw [vF] ((Br n co).drop k) G=.ok ((zZ m).map λj=>D.ref (G.length+j)) (G++(zZ m).map λj=>DO.lst (tab 5 (Nh co (k+j))))
 |0,k,G,e=>by rw[zP (by simp;lia)];simp[Du]
 | m+1,k,G,e=>by
  have e0:(Br n co).drop k=.tup (tab 5 (co k))::(Br n co).drop (k+1):=by rw[zM (by simp;lia)];simp[Br]
  have ih:=ZHu (n:=n) (co:=co) m (k+1) (G++[.lst (tab 5 (Nh co k))]) (by lia);rw[e0,ZAs];simp only[Dr,R.Jo,qJ,ZGC,if_true,ZNe,ih]
  congr 1
  ·rw[qE,zk,qF]
   congr 1
   refine qk λj _=>?_
   simp only[Function.comp,qZ,j0]
   congr 1
   lia
  ·rw[qE,zk,qF,jy]
   congr 1
   show _::_=_::_
   congr 1
   refine qk λj _=>?_
   simp only[Function.comp]
   congr 3
   lia
theorem ZQk(g:GoodH h):
  S7 [.ref G.length,h.enc,stD h.n lv co,.int at_,.tup (tab h.n fl)] (G++[.ins "Course" []])=.ok .non (csH G h.n h.enc (.tup (tab h.n lv)) (at_%h.yr) (cs0 co fl)):=by
 have hn:=g.len;have hyr:=g.yr;have hnl:h.n<=1000000:=by lia
 have p1:∀a:D,Hv "house" a (cfl [])=cfl [a]:=λ_=>rfl
 have p2:∀a b:D,Hv "levels" b (cfl [a])=cfl [a,b]:=λ_ _=>rfl
 have p3:∀a b c:D,Hv "year_turn" c (cfl [a,b])=cfl [a,b,c]:=λ_ _ _=>rfl
 have p4:∀a b c d:D,Hv "came" d (cfl [a,b,c])=cfl [a,b,c,d]:=λ_ _ _ _=>rfl
 have p5:∀a b c d e:D,Hv "coming" e (cfl [a,b,c,d])=cfl [a,b,c,d,e]:=λ_ _ _ _ _=>rfl
 have p6:∀a b c d e f:D,Hv "page" f (cfl [a,b,c,d,e])=cfl [a,b,c,d,e,f]:=λ_ _ _ _ _ _=>rfl
 have p7:∀a b c d e f q:D,Hv "reaches" q (cfl [a,b,c,d,e,f])=cfl [a,b,c,d,e,f,q]:=λ_ _ _ _ _ _ _=>rfl
 have hl:∀ds,(cfl ds).length<1000:=λds=>by unfold cfl;rw[List.length_zip];have:(["house","levels","year_turn","came","coming","page","reaches"]:List Str).length=7:=rfl;lia
 have hz:∀G',I9 2 [.tup (tab h.n fl),.tup (Br h.n co)] G'=.ok (.fn h.n (Gz [.tup (tab h.n fl),.tup (Br h.n co)])) G':=λG'=>by rw[Vi M5 M5];simp
 have hcc:=λG'=>ZHu (n:=h.n) (co:=co) h.n 0 G' (by lia)
 simp only[jE,Nat.zero_add]at hcc;have hcs:∀S:DSt,Bm 1 [] S=[vF]:=λ_=>rfl
 have epg:zV h.n D.non=Dl h.n λ_=>[]:=by unfold Dl;refine qA (by simp) λi h1 h2=>by simp[Ky]
 let S:DSt:=[vE (.ref G.length),vE h.enc,vE (stD h.n lv co),vE (.int at_),vE (.tup (tab h.n fl)),vE (.tup (tab h.n lv)),vE (.tup (Br h.n co))];have hS:S=[vE (.ref G.length),vE h.enc,vE (stD h.n lv co),vE (.int at_),vE (.tup (tab h.n fl)),vE (.tup (tab h.n lv)),vE (.tup (Br h.n co))]:=rfl;let R5:DH:=(zZ h.n).map λk=>DO.lst (tab 5 (Nh co k))
 have hR5:R5.length=h.n:=by simp[R5]
 have q1:H9 "Course" (dV 0) (dV 1) "house" S (G++ .ins "Course" (cfl [])::[])=.nx S (G++ .ins "Course" (cfl [h.enc])::[]):=by rw[Ni,hS];simp only[ZBr,jD,jz,R.Dm,Ol (hl _),p1]
 have q2:H9 "Course" (dV 0) (dV 5) "levels" S (G++ .ins "Course" (cfl [h.enc])::[])=.nx S (G++ .ins "Course" (cfl [h.enc,.tup (tab h.n lv)])::[]):=by rw[Ni,hS];simp only[ZBr,jD,jz,R.Dm,Ol (hl _),p2]
 have q3:H9 "Course" (dV 0) (dOp Bo (dV 3) (dOp Aj (dV 1) (dC (.int 0)))) "year_turn" S (G++ .ins "Course" (cfl [h.enc,.tup (tab h.n lv)])::[])=.nx S (G++ .ins "Course" (cfl [h.enc,.tup (tab h.n lv),.int (at_%h.yr)])::[]):=by rw[Ni,hS];simp[ZR1,hyr,Ol (hl _),p3]
 have q4:H9 "Course" (dV 0) (Ec (Cy (I9 2) (Ab (dV 4) (Ab (dV 6) Ad))) 2 [] (Bg 2 (Am (gV 0) (Am (gV 1) Bj))) Cd X4) "came" S (G++ .ins "Course" (cfl [h.enc,.tup (tab h.n lv),.int (at_%h.yr)])::[])=
   .nx S (G++ .ins "Course" (cfl [h.enc,.tup (tab h.n lv),.int (at_%h.yr),.ref (G.length+1)]):: .lst (tab h.n λk=>fl k+co k 0)::[]):=by
  rw[Ni,hS];simp[hz,ZPo,Av,hnl,Ol (hl _),p4]
 have q5:H9 "Course" (dV 0) (Ec (Fx (dV 6)) 1 [] (gV 0) Cd Sw) "coming" S (G++ .ins "Course" (cfl [h.enc,.tup (tab h.n lv),.int (at_%h.yr),.ref (G.length+1)]):: .lst (tab h.n λk=>fl k+co k 0)::[])=
   .nx S (G++ .ins "Course" (cfl [h.enc,.tup (tab h.n lv),.int (at_%h.yr),.ref (G.length+1),.ref (G.length+(2+h.n))]):: .lst (tab h.n λk=>fl k+co k 0)::(R5++[.lst (Et G.length h.n)])):=by
  have hi:Ib (.tup (Br h.n co)) (G++ .ins "Course" (cfl [h.enc,.tup (tab h.n lv),.int (at_%h.yr),.ref (G.length+1)]):: .lst (tab h.n λk=>fl k+co k 0)::[])=.ok (.pure (Br h.n co)) (G++ .ins "Course" (cfl [h.enc,.tup (tab h.n lv),.int (at_%h.yr),.ref (G.length+1)]):: .lst (tab h.n λk=>fl k+co k 0)::[]):=rfl;have er:∀L:DH,L.length=2->(zZ h.n).map (λj=>D.ref ((G++L).length+j))=Et G.length h.n:=λL e=>by
   unfold Et;refine qk λj _=>?_
   rw[qZ,e,Nat.add_assoc]
  have hc2:=hcc (G++ .ins "Course" (cfl [h.enc,.tup (tab h.n lv),.int (at_%h.yr),.ref (G.length+1)]):: .lst (tab h.n λk=>fl k+co k 0)::[]);rw[er _ rfl]at hc2;have hml:∀G',Av (Et G.length h.n) G'=.ok (.ref G'.length) (G'++[.lst (Et G.length h.n)]):=λG'=>by simp[Av,Et,hnl]
  rw[Ni,hS];simp only[ZMF,ZS4,ZBr,jD,jz,R.Jo,hi,hcs,hc2,hml,R.Dm];have e2:(G++DO.ins "Course" (cfl [h.enc,.tup (tab h.n lv),.int (at_%h.yr),.ref (G.length+1)]):: .lst (tab h.n λk=>fl k+co k 0)::[]++(zZ h.n).map λj=>DO.lst (tab 5 (Nh co j))).length=G.length+(2+h.n):=by simp;lia
  rw[e2];simp only[jy,List.cons_append,jP];rw[Ol (hl _),p5]
 have q6:H9 "Course" (dV 0) (Fd (dOp Ln (dFn Av (Ab (dC .non) Ad)) (dFn Cz (Ab (dV 5) Ad)))) "page" S (G++ .ins "Course" (cfl [h.enc,.tup (tab h.n lv),.int (at_%h.yr),.ref (G.length+1),.ref (G.length+(2+h.n))]):: .lst (tab h.n λk=>fl k+co k 0)::(R5++[.lst (Et G.length h.n)]))=
   .nx S (G++ .ins "Course" (cfl [h.enc,.tup (tab h.n lv),.int (at_%h.yr),.ref (G.length+1),.ref (G.length+(2+h.n)),.ref (G.length+(3+h.n))]):: .lst (tab h.n λk=>fl k+co k 0)::(R5++[.lst (Et G.length h.n),.lst (Dl h.n λ_=>[])])):=by
  rw[Ni,hS];generalize hQ:G++DO.ins "Course" (cfl [h.enc,.tup (tab h.n lv),.int (at_%h.yr),.ref (G.length+1),.ref (G.length+(2+h.n))]):: .lst (tab h.n λk=>fl k+co k 0)::(R5++[.lst (Et G.length h.n)])=Q;have eQ:Q.length=G.length+(3+h.n):=by rw[<-hQ];simp[hR5];lia
  have hrep:Ln (.ref Q.length) (.int (h.n:Int)) (Q++[.lst [.non]])=.ok (.ref (Q.length+1)) (Q++[.lst [.non],.lst (Dl h.n λ_=>[])]):=by rw[ZG4 (d:=.non) (by rw[Ej];rfl) (by lia),epg];simp
  have ht:tidy Q (.ok (.ref (Q.length+1)) (Q++[.lst [.non],.lst (Dl h.n λ_=>[])]))=.ok (.ref Q.length) (Q++[.lst (Dl h.n λ_=>[])]):=ZC3 _ (k:=1) rfl ZPN;have hst:Px "Course" "page" (.ref G.length) (.ref Q.length) S (Q++[.lst (Dl h.n λ_=>[])])=.nx S (G++ .ins "Course" (cfl [h.enc,.tup (tab h.n lv),.int (at_%h.yr),.ref (G.length+1),.ref (G.length+(2+h.n)),.ref (G.length+(3+h.n))]):: .lst (tab h.n λk=>fl k+co k 0)::(R5++[.lst (Et G.length h.n),.lst (Dl h.n λ_=>[])])):=by rw[eQ,<-hQ];simp only[jy,List.cons_append,jP];rw[Ol (hl _),p6]
  rw[hS]at hst;simp[Av,hrep,ht,hst]
 have q7:H9 "Course" (dV 0) (Fd (dFn Av Ad)) "reaches" S (G++ .ins "Course" (cfl [h.enc,.tup (tab h.n lv),.int (at_%h.yr),.ref (G.length+1),.ref (G.length+(2+h.n)),.ref (G.length+(3+h.n))]):: .lst (tab h.n λk=>fl k+co k 0)::(R5++[.lst (Et G.length h.n),.lst (Dl h.n λ_=>[])]))=
   .nx S (G++ .ins "Course" (cfl [h.enc,.tup (tab h.n lv),.int (at_%h.yr),.ref (G.length+1),.ref (G.length+(2+h.n)),.ref (G.length+(3+h.n)),.ref (G.length+(4+h.n))]):: .lst (tab h.n λk=>fl k+co k 0)::(R5++[.lst (Et G.length h.n),.lst (Dl h.n λ_=>[]),.lst []])):=by
  rw[Ni,hS];generalize hQ:G++DO.ins "Course" (cfl [h.enc,.tup (tab h.n lv),.int (at_%h.yr),.ref (G.length+1),.ref (G.length+(2+h.n)),.ref (G.length+(3+h.n))]):: .lst (tab h.n λk=>fl k+co k 0)::(R5++[.lst (Et G.length h.n),.lst (Dl h.n λ_=>[])])=Q;have eQ:Q.length=G.length+(4+h.n):=by rw[<-hQ];simp[hR5];lia
  have ht:tidy Q (.ok (.ref Q.length) (Q++[.lst []]))=.ok (.ref Q.length) (Q++[.lst []]):=Ga rfl;have hst:Px "Course" "reaches" (.ref G.length) (.ref Q.length) S (Q++[.lst []])=.nx S (G++ .ins "Course" (cfl [h.enc,.tup (tab h.n lv),.int (at_%h.yr),.ref (G.length+1),.ref (G.length+(2+h.n)),.ref (G.length+(3+h.n)),.ref (G.length+(4+h.n))]):: .lst (tab h.n λk=>fl k+co k 0)::(R5++[.lst (Et G.length h.n),.lst (Dl h.n λ_=>[]),.lst []])):=by rw[eQ,<-hQ];simp only[jy,List.cons_append,jP];rw[Ol (hl _),p7]
  rw[hS]at hst;simp[Av,ht,hst]
 have htd:tidy (G++[.ins "Course" []]) (.ok .non (csH G h.n h.enc (.tup (tab h.n lv)) (at_%h.yr) (cs0 co fl)))=.ok .non (csH G h.n h.enc (.tup (tab h.n lv)) (at_%h.yr) (cs0 co fl)):=ZKz λz=>by
  have h1:=congrArg (λl:DH=>l[G.length]?) z;simp only[qZ,j0]at h1;rw[jY (by lia),Li]at h1;have h2:(G++[DO.ins "Course" []])[G.length]?=vE (.ins "Course" []):=by rw[Ej];rfl
  rw[h2]at h1;simp[cflds,cfl]at h1
 have hfin:G++DO.ins "Course" (cfl [h.enc,.tup (tab h.n lv),.int (at_%h.yr),.ref (G.length+1),.ref (G.length+(2+h.n)),.ref (G.length+(3+h.n)),.ref (G.length+(4+h.n))]):: .lst (tab h.n λk=>fl k+co k 0)::(R5++[.lst (Et G.length h.n),.lst (Dl h.n λ_=>[]),.lst []])=csH G h.n h.enc (.tup (tab h.n lv)) (at_%h.yr) (cs0 co fl):=rfl;have q0:sAs (dV 2) (Bg 2 (Am (gV 5) (Am (gV 6) Bj))) [vE (.ref G.length),vE h.enc,vE (stD h.n lv co),vE (.int at_),vE (.tup (tab h.n fl)),vF,vF] (G++[.ins "Course" []])=.nx S (G++ .ins "Course" (cfl [])::[]):=by
  simp[stD,hS]
  rfl
 unfold S7 ZF9;rw[Bp];have h5: [D.ref G.length,h.enc,stD h.n lv co,.int at_,.tup (tab h.n fl)].length=5:=rfl;rw[if_pos h5];have hd:([D.ref G.length,h.enc,stD h.n lv co,.int at_,.tup (tab h.n fl)].map vE++zV 2 vF)=[vE (.ref G.length),vE h.enc,vE (stD h.n lv co),vE (.int at_),vE (.tup (tab h.n fl)),vF,vF]:=rfl;rw[hd];simp only[Ut,q0,Wt,q1,q2,q3,q4,q5,q6,q7,hfin,ZNT]
 exact htd
section
variable{h:Hs}{yt:Int}{lv:Nat->Int}
theorem ZFF(g:GoodH h):∀(m k:Nat),h.n<=m+k->h.last k=k∨(h.pl (h.last k)).kd.isB=vH
 |0,k,e=>.inl (Lp g (Qd (by lia)))
 | m + 1,k,e=>by
  cases hd:h.dir k with
  |none=>exact .inl (Lp g hd)
  | some d=>
   have hl:=Nb g hd;rw[Q3 g hd];rcases ZFF g m d (by lia)with z|z
   ·refine .inr ?_;rw[z];unfold Hs.dir at hd;cases h1:h.dn k with
    |none=>rw[h1]at hd;cases hd
    | some d'=>
     rw[h1]at hd;simp only at hd;split at hd
     ·cases hd
     ·rename_i hn;cases hd;cases e2:(h.pl d).kd.isB with
      |false=>rfl
      |true=>exact absurd (.inr (.inr e2)) hn
   ·exact .inr z
theorem ZIU(g:GoodH h):∀(m k:Nat),h.n<=m+k->h.last (h.last k)=h.last k
 |0,k,e=>by have h1:=Lp g (h:=h) (k:=k) (Qd (by lia));rw[h1,h1]
 | m+1,k,e=>by
  cases hd:h.dir k with
  |none=>rw[Lp g hd,Lp g hd]
  |some d=>
   have hl:=Nb g hd;rw[Q3 g hd];exact ZIU g m d (by lia)
def Hs.done(h:Hs)(j k:Nat):Prop:=if(h.pl k).kd.isB=vG then k<j else h.last k<j
theorem ZP6(g:GoodH h){k:Nat}(hk:k<h.n)(hf:∀i,i<h.n->h.done k i->(s.page i).length=6):∀i,i<h.n->h.done (k+1) i->((h.step yt lv s k).page i).length=6:=λi hi hd=>by
 unfold Hs.step;split
 ·rename_i hB;by_cases e:i=k
  ·subst e;exact(ZKI hB).1
  ·rw[(ZKI hB).2 i e];refine hf i hi ?_;unfold Hs.done at hd⊢;by_cases hiB:(h.pl i).kd.isB=vG
   ·rw[if_pos hiB]at hd⊢;lia
   ·rw[if_neg hiB]at hd⊢;rcases jS (h.last i) k with z|z
    ·exact z
    ·have e2:h.last i=k:=by lia
     rcases ZFF g h.n i (by lia)with z2|z2
     ·rw[z2]at e2;exact absurd e2 e
     ·rw[e2,hB]at z2;cases z2
 ·rename_i hB;split
  ·rename_i hl;rw[ZNH];split
   ·rfl
   ·rename_i hm;refine hf i hi ?_;unfold Hs.done at hd⊢;by_cases hiB:(h.pl i).kd.isB=vG
    ·rw[if_pos hiB]at hd⊢;rcases jS i k with z|z
     ·exact z
     ·have e2:i=k:=by lia
      rw[e2]at hiB;exact absurd hiB hB
    ·rw[if_neg hiB]at hd⊢;rcases jS (h.last i) k with z|z
     ·exact z
     ·exact absurd (mem_iff.mpr ⟨hi,by lia⟩) hm
  ·rename_i hl;refine hf i hi ?_;unfold Hs.done at hd⊢;by_cases hiB:(h.pl i).kd.isB=vG
   ·rw[if_pos hiB]at hd⊢;rcases jS i k with z|z
    ·exact z
    ·have e2:i=k:=by lia
     rw[e2]at hiB;exact absurd hiB hB
   ·rw[if_neg hiB]at hd⊢;rcases jS (h.last i) k with z|z
    ·exact z
    ·have e2:h.last i=k:=by lia
     have:=ZIU g h.n i (by lia);rw[e2]at this;exact absurd this hl
theorem ZA9(g:GoodH h):∀(m k:Nat)(s:Cs),k+m=h.n->(∀i,i<h.n->h.done k i->(s.page i).length=6)->∀i,i<h.n->((h.goF yt lv m k s).page i).length=6
 | 0,k,s,e,hf,i,hi=>hf i hi (by
   unfold Hs.done;split
   ·lia
   ·have:=(ZEc g i).2 hi;lia)
 |m+1,k,s,e,hf,i,hi=>ZA9 g m (k+1) _ (by lia) (ZP6 g (by lia) hf) i hi
theorem ZJ5(g:GoodH h):∀(m k:Nat)(s:Cs),k+m=h.n->s.NN h.n->(h.goF yt lv m k s).NN h.n
 |0,k,s,e,hs=>hs
 |m+1,k,s,e,hs=>ZJ5 g m (k+1) _ (by lia) (ZFc g (by lia) hs)
end
noncomputable def lies(pg:Nat->List Int):Nat->Int:=λk=>(pg k).getD 5 0
theorem row6(h:l.length=6):∃a b c d e f,l=[a,b,c,d,e,f]:=by
 match l,h with
 |[a,b,c,d,e,f],_=>exact⟨a,b,c,d,e,f,rfl⟩
section
variable{G:DH}{h:Hs}{LV:D}{yt:Int}{s:Cs}
theorem ZRp(hf:∀k,k<h.n->(s.page k).length=6):Hy (G.length+(3+h.n)) (gV 0) Cd Ye (Bm 1 [] S) h.n 0 (csH G h.n h.enc LV yt s)=.ok (tab h.n (lies s.page)) (csH G h.n h.enc LV yt s):=by
 have hx:=ZF7 (i:=G.length+(3+h.n)) (g:=gV 0) (c:=Cd) (te:=Ye) (S:=Bm 1 [] S) (G:=csH G h.n h.enc LV yt s) (F:=λd=>match d with | .tup [_,_,_,_,_,x]=>vE x|_=>vF) Lw (λx hx=>by obtain⟨k,hk,rfl⟩:=zH.mp hx;obtain⟨a,b,c,d,e,f,el⟩:=row6 (hf k (qW.mp hk));rw[el];refine⟨[vE (Ky [a,b,c,d,e,f])],by simp[Bm],.inr ⟨rfl,.int f,?_,rfl⟩⟩;unfold Ye;simp[Ky])
 rw[ZM3]at hx;rw[hx]
 congr 1
 unfold Dl;rw[qX];unfold tab;rw[<-qz];refine Z9 λk hk=>?_
 obtain⟨a,b,c,d,e,f,el⟩:=row6 (hf k (qW.mp hk));simp[Function.comp,el,Ky,lies]
theorem ZNo:Hy (G.length+(2+h.n)) (gV 0) Cd Xx (Bm 1 [] S) h.n 0 (csH G h.n h.enc LV yt s)=.ok (Br h.n s.coming) (csH G h.n h.enc LV yt s):=by
 have hlen:(Et G.length h.n).length=h.n:=by simp[Et]
 have hx:=ZF7 (i:=G.length+(2+h.n)) (g:=gV 0) (c:=Cd) (te:=Xx) (S:=Bm 1 [] S) (G:=csH G h.n h.enc LV yt s) (F:=λd=>match d with | .ref j=>vE (.tup (tab 5 (s.coming (j-(G.length+2)))))|_=>vF) Vj (λx hx=>by
  obtain⟨k,hk,rfl⟩:=zH.mp hx;refine⟨[vE (.ref (G.length+(2+k)))],by simp[Bm],.inr ⟨rfl,.tup (tab 5 (s.coming k)),?_,?_⟩⟩
  ·unfold Xx;simp[ZC0 (qW.mp hk)]
  ·have e:G.length+(2+k)-(G.length+2)=k:=by lia
   simp only[e])
 rw[hlen]at hx;rw[hx]
 congr 1
 unfold Et;rw[qX];unfold Br;rw[<-qz];refine Z9 λk hk=>?_
 have e:G.length+(2+k)-(G.length+2)=k:=by lia
 simp only[Function.comp,e]
theorem ZR3(g:GoodH h)(hf:∀k,k<h.n->(s.page k).length=6):Wk [.ref G.length] (csH G h.n h.enc LV yt s)=.ok (stD h.n (lies s.page) s.coming) (csH G h.n h.enc LV yt s):=by
 have hn:=g.len;have hnl:h.n<=1000000:=by lia
 have hl2:(Et G.length h.n).length=h.n:=by simp[Et]
 have hb:bel (csH G h.n h.enc LV yt s).length (stD h.n (lies s.page) s.coming)=vG:=by simp[stD]
 unfold Wk ZGH;rw[Bp];unfold stD at hb⊢;have i1:Ib (.ref (G.length+(3+h.n))) (csH G h.n h.enc LV yt s)=.ok (.mt (G.length+(3+h.n))) (csH G h.n h.enc LV yt s):=by simp[Ib,Lw]
 have i2:Ib (.ref (G.length+(2+h.n))) (csH G h.n h.enc LV yt s)=.ok (.mt (G.length+(2+h.n))) (csH G h.n h.enc LV yt s):=by simp[Ib,Vj]
 simp[i1,i2,Ph,Lw,ZRp hf,Av,hnl,Yz,Bb,ZIs,Vj,hl2,ZNo,By]
def Hs.cs(h:Hs)(lv:Nat->Int)(co:Nat->Nat->Int)(at_:Int)(fl:Nat->Int):Cs:=h.goF (at_%h.yr) lv h.n 0 (cs0 co fl)
theorem ZJI{n:Nat}(hc:∀k j,k<n->j<5->0<=co k j)(hf:∀k,k<n->0<=fl k):(cs0 co fl).NN n:=by
 refine⟨λk hk=>?_,λk j hk hj=>?_⟩
 ·have:=hc k 0 hk (by lia);have:=hf k hk;show 0<=fl k+co k 0;lia
 ·show 0<=if j<4 then co k (j+1)else 0
  split
  ·exact hc k (j+1) hk (by lia)
  ·exact qq _
theorem ZRc(g:GoodH h):∀k,k<h.n->((h.cs lv co at_ fl).page k).length=6:=ZA9 g h.n 0 _ (by lia) λi hi hd=>by
 unfold Hs.done at hd
 split at hd<;>lia
theorem ZNC(g:GoodH h)(hc:∀k j,k<h.n->j<5->0<=co k j)(hf:∀k,k<h.n->0<=fl k)(G:DH):
  Vs [h.enc,stD h.n lv co,.int at_,.tup (tab h.n fl)] G=.ok (.tup [.tup (Dl h.n (h.cs lv co at_ fl).page),stD h.n (lies (h.cs lv co at_ fl).page) (h.cs lv co at_ fl).coming]) G:=by
 have hgo:=ZNO (G:=G) (lv:=lv) (yt:=at_%h.yr) g (ZJI (fl:=fl) hc hf) rfl;have hst:=ZR3 (G:=G) (LV:=.tup (tab h.n lv)) (yt:=at_%h.yr) g (ZRc g (lv:=lv) (fl:=fl) (co:=co) (at_:=at_));have hmk:ZEL S7 "Course" [h.enc,stD h.n lv co,.int at_,.tup (tab h.n fl)] G=.ok (.ref G.length) (csH G h.n h.enc (.tup (tab h.n lv)) (at_%h.yr) (cs0 co fl)):=by
  unfold ZEL;rw[ZQk g]
  rfl
 have egs:h.goF (at_%h.yr) lv h.n 0 (cs0 co fl)=h.cs lv co at_ fl:=rfl;rw[egs]at hgo;have hcH:∀s,csH G h.n h.enc (.tup (tab h.n lv)) (at_%h.yr) s=G++csT G.length h.n h.enc (.tup (tab h.n lv)) (at_%h.yr) s:=λ_=>rfl
 have hbl:bel G.length (.tup [.tup (Dl h.n (h.cs lv co at_ fl).page),stD h.n (lies (h.cs lv co at_ fl).page) (h.cs lv co at_ fl).coming])=vG:=by simp[stD]
 unfold Vs ZHb;rw[Bp];simp[hmk,Kv ZTE,hgo,Ph,Lw,Kv ZPz,hst,Bb];rw[hcH];exact Qs hbl
end
theorem ZMk(hf:∀k:Nat,k<=1000->∀G,Az [.fl (ns.map D.int),.int k] G=.ok (.int (f k)) G):∃u:Int,(u=1∨u=1000000000000000000000000000000)/\∀G,Fj [.fl (ns.map D.int)] G=.ok (.int u) G:=by
 have h0:∀G,Az [.fl (ns.map D.int),.int 0] G=.ok (.int (f 0)) G:=hf 0 (by lia);have fz:∀G:DH,freeze G (.ok (.ref G.length) (G++[.lst [.int 1,.int 1,.int 1000000000000000000000000000000]]))=.ok (.fl [.int 1,.int 1,.int 1000000000000000000000000000000]) G:=λG=>Fb rfl
 rcases(by lia:f 0/840%3=0∨f 0/840%3=1∨f 0/840%3=2)with h|h|h
 ·refine⟨1,.inl rfl,λG=>?_⟩;unfold Fj Zw;rw[Bp];simp[h0,h,Av,fz,By]
 ·refine⟨1,.inl rfl,λG=>?_⟩;unfold Fj Zw;rw[Bp];simp[h0,h,Av,fz,By]
 ·refine⟨1000000000000000000000000000000,.inr rfl,λG=>?_⟩;unfold Fj Zw;rw[Bp];simp[h0,h,Av,fz,By]
noncomputable def amt(c u:Int):Int:=u*(c%7)+c/7%u
theorem Uz(hu:0<u):0<=amt c u:=by unfold amt;have h1:0<=u*(c%7):=j3 (by lia) (by lia);have h2:0<=c/7%u:=qR _ (by lia);lia
theorem Ls(hu:0<u)(G:DH):Kp [.int c,.int u] G=.ok (.int (amt c u)) G:=by
 have m1:∀G,Bk (.int u) (.int (c%7)) G=.ok (.int (u*(c%7))) G:=λG=>Ji (by lia) (by lia)
 unfold Kp ZIL;rw[Bp];simp[m1,hu,By,amt]
def O1(xs:Nat->Int)(u:Int)(p:Bool):Nat->Nat->Int->List Stp
 |0,_,_=>[]
 |n+1,j,low=>⟨low+u*(xs (1+j)%4),1+u*(xs (1+j)/4%4), !(p&&decide (xs (1+j)/16%2=1))⟩::O1 xs u p n (j+1) (low+u*(xs (1+j)%4)+(1+u*(xs (1+j)/4%4)))
theorem ZKn{xs:Nat->Int}(hu:0<u){p:Bool}:∀(n j:Nat)(low:Int),Good low (O1 xs u p n j low)
 |0,_,_=>trivial
 |n+1,j,low=>by have h1:0<=u*(xs (1+j)%4):=j3 (by lia) (by lia);have h2:0<=u*(xs (1+j)/4%4):=j3 (by lia) (by lia);exact⟨by show low<=low+_;lia,by show 1<=1+_;lia,ZKn hu n (j+1) _⟩
theorem ZFh{xs:Nat->Int}:∀(n j:Nat)(low:Int),∀s∈O1 xs u vH n j low,s.r=vG
 |0,_,_,s,h=>by cases h
 |n+1,j,low,s,h=>by
  rcases zw.mp h with rfl|h
  ·simp
  ·exact ZFh n (j+1) _ s h
theorem ZHR{xs:Nat->Int}{u:Int}{p:Bool}{G:DH}:∀(n j:Nat)(low:Int)(acc:List Stp)(x y z:Option D),j+n<=3->acc.length+n<=10->∃x' y' z' l',
  Bq (gV 5) Tt (Cm j n) [vE (.fl (tab 4 xs)),vE (.int u),vE (.bl p),vE (.ref G.length),vE (.int low),x,y,z] (G++[.lst (acc.map Stp.enc)])=
   .nx [vE (.fl (tab 4 xs)),vE (.int u),vE (.bl p),vE (.ref G.length),l',x',y',z'] (G++[.lst ((acc++O1 xs u p n j low).map Stp.enc)])
 |0,j,low,acc,x,y,z,h,ha=>⟨x,y,z,vE (.int low),by rw[Jy,Ei];simp[O1]⟩
 | n+1,j,low,acc,x,y,z,h,ha=>by
  have hj:1+j<4:=by lia
  have a1:atI (tab 4 xs) (1+(j:Int))=vE (.int (xs (1+j))):=Fe (k:=1+j) (by lia) (Mz hj);let s:Stp:=⟨low+u*(xs (1+j)%4),1+u*(xs (1+j)/4%4), !(p&&decide (xs (1+j)/16%2=1))⟩;obtain⟨x',y',z',l',ih⟩:=ZHR (xs:=xs) (u:=u) (p:=p) (G:=G) n (j+1) (s.h+s.m) (acc++[s]) (vE (.int j)) (vE (.int s.m)) (vE (.str (wy s.r))) (by lia) (by simp;lia);refine⟨x',y',z',l',?_⟩
  have m1:∀G,Bk (.int u) (.int (xs (1+j)%4)) G=.ok (.int (u*(xs (1+j)%4))) G:=λG=>Ji (by lia) (by lia)
  have m2:∀G,Bk (.int u) (.int (xs (1+j)/4%4)) G=.ok (.int (u*(xs (1+j)/4%4))) G:=λG=>Ji (by lia) (by lia)
  have hal:acc.length<1000000:=by lia
  have hb:Tt [vE (.fl (tab 4 xs)),vE (.int u),vE (.bl p),vE (.ref G.length),vE (.int low),vE (.int j),y,z] (G++[.lst (acc.map Stp.enc)])=
    .nx [vE (.fl (tab 4 xs)),vE (.int u),vE (.bl p),vE (.ref G.length),vE (.int (s.h+s.m)),vE (.int j),vE (.int s.m),vE (.str (wy s.r))] (G++[.lst ((acc++[s]).map Stp.enc)]):=by
   unfold Tt;cases p with
   |false=>simp[a1,m1,m2,Ej,G7,hal,Bb,s,Stp.enc,wy]
   |true=>
    by_cases h16:xs (1+j)/16%2=1
    ·simp[a1,m1,m2,h16,Ej,G7,hal,Bb,s,Stp.enc,wy]
    ·simp[a1,m1,m2,h16,Ej,G7,hal,Bb,s,Stp.enc,wy]
  rw[Io,Dg];simp only[Dr,R.Dm,qJ,hb,Ea];have e1:((j:Int)+1)=((j+1:Nat):Int):=by lia
  rw[e1,ih];simp[O1,s]
def stps(xs:Nat->Int)(u:Int)(p:Bool):List Stp:=O1 xs u p (xs 0%4).toNat 0 0
theorem ZHs{xs:Nat->Int}{p:Bool}(G:DH):Vy [.fl (tab 4 xs),.int u,.bl p] G=.ok (.tup ((stps xs u p).map Stp.enc)) G:=by
 have hn:(xs 0%4).toNat<=3:=by lia
 obtain⟨x',y',z',l',hL⟩:=ZHR (xs:=xs) (u:=u) (p:=p) (G:=G) (xs 0%4).toNat 0 0 [] vF vF vF (by lia) (by simp;lia);have hL':Bq (gV 5) Tt (Cm 0 (xs 0%4).toNat) [vE (.fl (tab 4 xs)),vE (.int u),vE (.bl p),vE (.ref G.length),vE (.int 0),vF,vF,vF] (G++[.lst []])=.nx [vE (.fl (tab 4 xs)),vE (.int u),vE (.bl p),vE (.ref G.length),l',x',y',z'] (G++[.lst ((stps xs u p).map Stp.enc)]):=hL
 have a0:atI (tab 4 xs) 0=vE (.int (xs 0)):=Fe (k:=0) rfl (Mz (by lia));have hr:inR (xs 0%4):=Gu (by lia) (by lia);unfold Vy ZFo;rw[Bp];simp[Av,Ga,a0,hr,hL',Ej,Qs]
def Ew(st:List Stp):Int:=match st with
 |[]=>0
 |s::r=>(if s.r then 0 else s.m)+Ew r
theorem ZHg{c:D}{G:DH}:∀(st:List Stp)(v:Int)(x y z:Option D),∃x' y' z',Bq (Bg 3 (Am (gV 2) (Am (gV 3) (Am (gV 4) Bj)))) ZAO (st.map Stp.enc) [vE c,vE (.int v),x,y,z] G=.nx [vE c,vE (.int (v+Ew st)),x',y',z'] G
 |[],v,x,y,z=>⟨x,y,z,by simp[Ew,Ei]⟩
 | s::st,v,x,y,z=>by
  let v1:Int:=v+if s.r then 0 else s.m
  obtain⟨x',y',z',ih⟩:=ZHg (c:=c) (G:=G) st v1 (vE (.int s.h)) (vE (.int s.m)) (vE (.str (wy s.r)));refine⟨x',y',z',?_⟩;have hb:ZAO [vE c,vE (.int v),vE (.int s.h),vE (.int s.m),vE (.str (wy s.r))] G=.nx [vE c,vE (.int v1),vE (.int s.h),vE (.int s.m),vE (.str (wy s.r))] G:=by
   unfold ZAO
   cases e:s.r<;>simp[v1,e]
  rw[zk,Dg];simp[Stp.enc,hb];rw[ih];simp[Ew,v1,Int.add_assoc]
theorem ZSq(G:DH):W7 [.tup (st.map Stp.enc)] G=.ok (.int (Ew st)) G:=by obtain⟨x',y',z',hL⟩:=ZHg (c:=.tup (st.map Stp.enc)) (G:=G) st 0 vF vF vF;unfold W7 ZIm;rw[Bp];simp at hL;simp[hL,By]
theorem ZK0(hf:∀k:Nat,k<=1000->∀G,Az [.fl (ns.map D.int),.int k] G=.ok (.int (f k)) G):∃y:Int,(1<=y/\y<=24)/\∀G,Kq [.fl (ns.map D.int)] G=.ok (.int y) G:=by have h1:∀G,Az [.fl (ns.map D.int),.int 1] G=.ok (.int (f 1)) G:=hf 1 (by lia);refine⟨1+f 1%4,by lia,λG=>?_⟩;unfold Kq ZJl;rw[Bp];simp[h1,By]
def Gf(lat:Nat->Int)(cel:Nat->Nat->Int)(u:Int)(p:Bool)(yr:Int):Nat->Nat->Int->List Ssn
 |0,_,_=>[]
 |m+1,j,bg=>if j=0∨(lat j%2=1/\bg+1<yr)then(if 0<j then bg+1+lat j/2%(yr-bg-1)else bg,stps (cel j) u p)::Gf lat cel u p yr m (j+1) (if 0<j then bg+1+lat j/2%(yr-bg-1)else bg)
  else Gf lat cel u p yr m (j+1) bg
theorem ZC5{lat:Nat->Int}{cel:Nat->Nat->Int}(hu:0<u){p:Bool}:∀(m j:Nat)(bg:Int),∀s∈Gf lat cel u p yr m j bg,Good 0 s.2/\(p=vH->∀t∈s.2,t.r=vG)
 |0,_,_,s,h=>by cases h
 | m+1,j,bg,s,h=>by
  unfold Gf at h;split at h
  ·rcases zw.mp h with rfl|h
   ·refine⟨ZKn hu _ _ _,λhp=>?_⟩;subst hp;exact ZFh _ _ _
   ·exact ZC5 hu m (j+1) _ s h
  ·exact ZC5 hu m (j+1) _ s h
theorem Vo{lat:Nat->Int}{cel:Nat->Nat->Int}{u:Int}{p:Bool}{yr:Int}:∀(m j:Nat)(bg:Int),0<j->bg<yr->(∀s∈Gf lat cel u p yr m j bg,bg<s.1/\s.1<yr)/\(Gf lat cel u p yr m j bg).Pairwise (λa b:Ssn=>a.1<b.1)
 |0,_,_,_,_=>⟨λs h=>(nomatch h),List.Pairwise.nil⟩
 | m+1,j,bg,hj,hb=>by
  unfold Gf;split
  ·rename_i hc;have hc2:bg+1<yr:=by
    rcases hc with z|z
    ·lia
    ·exact z.2
   have h1:0<=lat j/2%(yr-bg-1):=qR _ (by lia);have h2:lat j/2%(yr-bg-1)<yr-bg-1:=jZ _ (by lia);obtain⟨i1,i2⟩:=Vo (lat:=lat) (cel:=cel) (u:=u) (p:=p) (yr:=yr) m (j+1) (bg+1+lat j/2%(yr-bg-1)) (by lia) (by lia);refine⟨λs hs=>?_,List.pairwise_cons.mpr ⟨λs hs=>(i1 s hs).1,i2⟩⟩;rcases zw.mp hs with rfl|hs
   ·exact⟨by show bg<bg+1+_;lia,by show bg+1+_<yr;lia⟩
   ·have:=i1 s hs;lia
  ·exact Vo m (j+1) bg (by lia) hb
theorem Oz{te:DE}{n:Nat}{F:Nat->D}(h:∀k:Nat,k<n->te (S.set 0 (vE (.int k))) G=.ok (F k) G):Du (gV 0) Cd te S (Cm 0 n) G=.ok ((zZ n).map F) G:=by
 have e:Cm 0 n=(zZ n).map λ(i:Nat)=>D.int (i:Int):=by
  refine j1 λi=>?_
  simp[Cm]
 rw[Vl (F:=λd=>match d with | .int i=>vE (F i.toNat)|_=>vF) (λq hq=>?_)]
 ·congr 1
  rw[e,qX];show(zZ n).filterMap (λ(i:Nat)=>vE (F ((i:Int).toNat)))=_;rw[qz];simp
 ·rw[e]at hq;obtain⟨i,hi,rfl⟩:=zH.mp hq;exact⟨S.set 0 (vE (.int i)),by simp,.inr ⟨rfl,F i,h i (qW.mp hi),by simp⟩⟩
noncomputable def Pa:Nat->Int
 |0=>1
 |1=>48
 |2=>2304
 |_=>110592
noncomputable def Tr:Nat->Int
 |0=>1
 |1=>64
 |2=>4096
 |_=>262144
theorem ZFT(hf:∀k:Nat,k<=1000->∀G,Az [.fl (ns.map D.int),.int k] G=.ok (.int (f k)) G){b:Nat}(hb:b<=900)(hj:j<4)(G:DH):
  Du (gV 0) Cd ZBP [vF,vE (.fl (ns.map D.int)),vE (.int b),vE (.int j)] (Cm 0 4) G=.ok (tab 4 λk=>f (b+5+(3*j+k)%6)/(1+7*((j:Int)/2))) G:=
 Oz (n:=4) (F:=λk=>.int (f (b+5+(3*j+k)%6)/(1+7*((j:Int)/2)))) λk hk=>by
  have h1:=hf (b+5+(3*j+k)%6) (by lia) G;have e1:((b+5+(3*j+k)%6:Nat):Int)=(b:Int)+5+(3*(j:Int)+k)%6:=by lia
  rw[e1]at h1;unfold ZBP
  rcases(by lia:j=0∨j=1∨j=2∨j=3)with rfl|rfl|rfl|rfl<;>simp at h1⊢<;> simp[h1]
theorem ZTS(hf:∀k:Nat,k<=1000->∀G,Az [.fl (ns.map D.int),.int k] G=.ok (.int (f k)) G){b:Nat}(hb:b<=900)(hj:j<4)(G:DH):
  Du (gV 0) Cd ZD0 [vF,vE (.fl (ns.map D.int)),vE (.int b),vE (.int j)] (Cm 0 4) G=.ok (tab 4 λk=>f (b+5+k)/Tr j) G:=
 Oz (n:=4) (F:=λk=>.int (f (b+5+k)/Tr j)) λk hk=>by
  have h1:=hf (b+5+k) (by lia) G;have e1:((b+5+k:Nat):Int)=(b:Int)+5+k:=by lia
  rw[e1]at h1;have fz:freeze G (.ok (.ref G.length) (G++[.lst [.int 1,.int 64,.int 4096,.int 262144]]))=.ok (.fl [.int 1,.int 64,.int 4096,.int 262144]) G:=Fb rfl;unfold ZD0
  rcases(by lia:j=0∨j=1∨j=2∨j=3)with rfl|rfl|rfl|rfl<;>simp[h1,Av,fz,Tr]
theorem ZTU(hf:∀k:Nat,k<=1000->∀G,Az [.fl (ns.map D.int),.int k] G=.ok (.int (f k)) G){b:Nat}(hb:b<=900){p:Bool}(hj:j<4):∃(lat:Int)(xs:Nat->Int),∀(G:DH)(bg:Int)(acc:List Ssn)(x y:Option D),acc.length<=10->bg<yr->∃bg' acc',
   M7 [vE (.fl (ns.map D.int)),vE (.int b),vE (.int u),vE (.bl p),vE (.int yr),vE (.ref G.length),vE (.int bg),vE (.int j),x,y] (G++[.lst (acc.map Cp)])=
    .nx [vE (.fl (ns.map D.int)),vE (.int b),vE (.int u),vE (.bl p),vE (.int yr),vE (.ref G.length),vE (.int bg'),vE (.int j),vE (.int lat),vE (.fl (tab 4 xs))] (G++[.lst (acc'.map Cp)])/\
   ((j=0∨(lat%2=1/\bg+1<yr))->bg'=(if 0<j then bg+1+lat/2%(yr-bg-1)else bg)/\acc'=acc++[(bg',stps xs u p)])/\
   (¬(j=0∨(lat%2=1/\bg+1<yr))->bg'=bg/\acc'=acc):=by
 obtain⟨tp,ht⟩:=ZJy (ns:=ns);have h4:=hf (b+4) (by lia);have e4:((b+4:Nat):Int)=(b:Int)+4:=by lia
 rw[e4]at h4;let lat:Int:=if tp then f (b+4)/Pa j else f (b+4)*48271*((j:Int)*j+1)%10007
 let xs:Nat->Int:=if tp then λk=>f (b+5+k)/Tr j else λk=>f (b+5+(3*j+k)%6)/(1+7*((j:Int)/2))
 refine⟨lat,xs,λG bg acc x y ha hbg=>?_⟩;have hr:inR 4:=Gu (by lia) (by lia);have hal:acc.length<1000000:=by lia
 have fz:∀ds:List D,(∀m,bels m ds=vG)->freeze (G++[.lst (acc.map Cp)]) (.ok (.ref (G.length+1)) (G++[.lst (acc.map Cp),.lst ds]))=.ok (.fl ds) (G++[.lst (acc.map Cp)]):=λds h=>ZI8 (h _)
 have cs1:∀a b c d e f' g h i j':Option D,Bm 1 [0,1,7] [a,b,c,d,e,f',g,h,i,j']=[vF,a,b,h]:=λ_ _ _ _ _ _ _ _ _ _=>rfl
 have mj:∀G,Bk (.int (j:Int)) (.int (j:Int)) G=.ok (.int ((j:Int)*j)) G:=λG=>Je (by lia) (by lia)
 have mj2:∀G,Bk (.int (f (b+4)*48271)) (.int ((j:Int)*j+1)) G=.ok (.int (f (b+4)*48271*((j:Int)*j+1))) G:=λG=>Ji (by
   have:=j3 (show(0:Int)<=j by lia) (show(0:Int)<=j by lia);lia) (by
   rcases(by lia:j=0∨j=1∨j=2∨j=3)with rfl|rfl|rfl|rfl<;>decide)
 have head:M7 [vE (.fl (ns.map D.int)),vE (.int b),vE (.int u),vE (.bl p),vE (.int yr),vE (.ref G.length),vE (.int bg),vE (.int j),x,y] (G++[.lst (acc.map Cp)])=
   Wx [vE (.fl (ns.map D.int)),vE (.int b),vE (.int u),vE (.bl p),vE (.int yr),vE (.ref G.length),vE (.int bg),vE (.int j),vE (.int lat),vE (.fl (tab 4 xs))] (G++[.lst (acc.map Cp)]):=by
  unfold M7 ZIR ZGq;cases htp:tp with
  |false=>
   have e1:lat=f (b+4)*48271*((j:Int)*j+1)%10007:=by simp[lat,htp]
   have e2:xs=λk=>f (b+5+(3*j+k)%6)/(1+7*((j:Int)/2)):=by simp[xs,htp]
   rw[e1,e2];rw[htp]at ht;simp[h4,mj,mj2,hr,cs1,ZFT hf hb hj,Av,fz,ht]
  |true=>
   have e1:lat=f (b+4)/Pa j:=by simp[lat,htp]
   have e2:xs=λk=>f (b+5+k)/Tr j:=by simp[xs,htp]
   rw[e1,e2];rw[htp]at ht;have dv:atI [D.int 1,D.int 48,D.int 2304,D.int 110592] (j:Int)=vE (.int (Pa j)):=by rcases(by lia:j=0∨j=1∨j=2∨j=3)with rfl|rfl|rfl|rfl<;>rfl
   have dd:∀G',Di (.int (f (b+4))) (.int (Pa j)) G'=.ok (.int (f (b+4)/Pa j)) G':=λG'=>by rcases(by lia:j=0∨j=1∨j=2∨j=3)with rfl|rfl|rfl|rfl<;>simp[Pa]
   have fz4:freeze (G++[.lst (acc.map Cp)]) (.ok (.ref (G.length+1)) (G++[.lst (acc.map Cp),.lst [D.int 1,D.int 48,D.int 2304,D.int 110592]]))=.ok (.fl [D.int 1,D.int 48,D.int 2304,D.int 110592]) (G++[.lst (acc.map Cp)]):=ZI8 rfl;simp[h4,mj,mj2,hr,cs1,ZFT hf hb hj,Av,fz,ht,fz4,dv,dd,ZTS hf hb hj]
 rw[head]
 clear_value lat xs
 by_cases hc:j=0∨(lat%2=1/\bg+1<yr)
 ·refine⟨_,_,?_,λ_=>⟨rfl,rfl⟩,λz=>absurd hc z⟩;unfold Wx;by_cases h0:j=0
  ·subst h0;simp[ZHs,Bb,Ej,G7,hal,Cp]
  ·have hc2:lat%2=1/\bg+1<yr:=by
    rcases hc with z|z
    ·exact absurd z h0
    ·exact z
   have hj0:0<j:=by lia
   have hp:0<yr-bg-1:=by lia
   have hp3:1<yr-bg:=by lia
   simp[h0,hc2.1,hc2.2,hj0,hp3,ZHs,Bb,Ej,G7,hal,Cp]
 ·refine⟨bg,acc,?_,λz=>absurd z hc,λ_=>⟨rfl,rfl⟩⟩;have h0:¬j=0:=λz=>hc (.inl z)
  unfold Wx;by_cases h1:lat%2=1
  ·have h2:¬bg+1<yr:=λz=>hc (.inr ⟨h1,z⟩)
   simp[h0,h1,h2]
  ·simp[h0,h1]
theorem ZA8{b:Nat}{p:Bool}{lat:Nat->Int}{cel:Nat->Nat->Int}
  (hd:∀j:Nat,j<4->∀(G:DH)(bg:Int)(acc:List Ssn)(x y:Option D),acc.length<=10->bg<yr->∃bg' acc',
   M7 [vE (.fl (ns.map D.int)),vE (.int b),vE (.int u),vE (.bl p),vE (.int yr),vE (.ref G.length),vE (.int bg),vE (.int j),x,y] (G++[.lst (acc.map Cp)])=
    .nx [vE (.fl (ns.map D.int)),vE (.int b),vE (.int u),vE (.bl p),vE (.int yr),vE (.ref G.length),vE (.int bg'),vE (.int j),vE (.int (lat j)),vE (.fl (tab 4 (cel j)))] (G++[.lst (acc'.map Cp)])/\
   ((j=0∨(lat j%2=1/\bg+1<yr))->bg'=(if 0<j then bg+1+lat j/2%(yr-bg-1)else bg)/\acc'=acc++[(bg',stps (cel j) u p)])/\
   (¬(j=0∨(lat j%2=1/\bg+1<yr))->bg'=bg/\acc'=acc)) {G:DH}:∀(m j:Nat)(bg:Int)(acc:List Ssn)(x y z:Option D),j+m=4->acc.length<=j->bg<yr->∃x' y' z' w',
   Bq (gV 7) M7 (Cm j m) [vE (.fl (ns.map D.int)),vE (.int b),vE (.int u),vE (.bl p),vE (.int yr),vE (.ref G.length),vE (.int bg),x,y,z] (G++[.lst (acc.map Cp)])=
    .nx [vE (.fl (ns.map D.int)),vE (.int b),vE (.int u),vE (.bl p),vE (.int yr),vE (.ref G.length),x',y',z',w'] (G++[.lst ((acc++Gf lat cel u p yr m j bg).map Cp)])
 |0,j,bg,acc,x,y,z,e,ha,hb=>⟨vE (.int bg),x,y,z,by rw[Jy,Ei];simp[Gf]⟩
 | m + 1,j,bg,acc,x,y,z,e,ha,hb=>by
  obtain⟨bg',acc',h1,h2,h3⟩:=hd j (by lia) G bg acc y z (by lia) hb;have e1:((j:Int)+1)=((j+1:Nat):Int):=by lia
  by_cases hc:j=0∨(lat j%2=1/\bg+1<yr)
  ·obtain⟨r1,r2⟩:=h2 hc;have hbg:bg'<yr:=by
    rw[r1];split
    ·have h4:bg+1<yr:=by
      rcases hc with z|z
      ·lia
      ·exact z.2
     have h5:lat j/2%(yr-bg-1)<yr-bg-1:=jZ _ (by lia);lia
    ·exact hb
   obtain⟨x',y',z',w',ih⟩:=ZA8 hd (G:=G) m (j+1) bg' acc' (vE (.int j)) (vE (.int (lat j))) (vE (.fl (tab 4 (cel j)))) (by lia) (by rw[r2];simp;lia) hbg;refine⟨x',y',z',w',?_⟩;rw[Io,Dg];simp only[Dr,R.Dm,qJ,h1,Ea];have er:Gf lat cel u p yr (m+1) j bg=(bg',stps (cel j) u p)::Gf lat cel u p yr m (j+1) bg':=by rw[r1];exact if_pos hc
   rw[e1,ih,r2,er];simp
  ·obtain⟨r1,r2⟩:=h3 hc;obtain⟨x',y',z',w',ih⟩:=ZA8 hd (G:=G) m (j+1) bg' acc' (vE (.int j)) (vE (.int (lat j))) (vE (.fl (tab 4 (cel j)))) (by lia) (by rw[r2];lia) (by rw[r1];exact hb);refine⟨x',y',z',w',?_⟩;rw[Io,Dg];simp only[Dr,R.Dm,qJ,h1,Ea];rw[e1,ih,r2,r1]
   conv=>rhs;unfold Gf
   rw[if_neg hc]
structure RuleOk (yr:Int) (p:Bool) (r:List Ssn):Prop where
 good:∀s∈r,Good 0 s.2/\(p=vH->∀t∈s.2,t.r=vG)
 cons:∃st rest,r=(0,st)::rest
 asc:r.Pairwise (λa b:Ssn=>a.1<b.1)
 yr:∀s∈r,0<=s.1/\s.1<yr
 len:r.length<=4
theorem ZCa{lat:Nat->Int}{cel:Nat->Nat->Int}{u:Int}{p:Bool}{yr:Int}:∀(m j:Nat)(bg:Int),(Gf lat cel u p yr m j bg).length<=m
 |0,_,_=>zK _
 |m+1,j,bg=>by
  unfold Gf;split
  ·have:=ZCa (lat:=lat) (cel:=cel) (u:=u) (p:=p) (yr:=yr) m (j+1) (if 0<j then bg+1+lat j/2%(yr-bg-1)else bg);simp only[zO];lia
  ·have:=ZCa (lat:=lat) (cel:=cel) (u:=u) (p:=p) (yr:=yr) m (j+1) bg;lia
theorem ZI7(hf:∀k:Nat,k<=1000->∀G,Az [.fl (ns.map D.int),.int k] G=.ok (.int (f k)) G)(hyr:1<=yr/\yr<=24)(cy:∀G,Kq [.fl (ns.map D.int)] G=.ok (.int yr) G){b:Nat}(hb:b<=900)(hu:0<u){p:Bool}:
  ∃r:List Ssn,RuleOk yr p r/\∀G,Yr [.fl (ns.map D.int),.int b,.int u,.bl p] G=.ok (.tup (r.map Cp)) G:=by
 have ex:∀j:Nat,∃q:Int×(Nat->Int),j<4->∀(G:DH)(bg:Int)(acc:List Ssn)(x y:Option D),acc.length<=10->bg<yr->∃bg' acc',
   M7 [vE (.fl (ns.map D.int)),vE (.int b),vE (.int u),vE (.bl p),vE (.int yr),vE (.ref G.length),vE (.int bg),vE (.int j),x,y] (G++[.lst (acc.map Cp)])=
    .nx [vE (.fl (ns.map D.int)),vE (.int b),vE (.int u),vE (.bl p),vE (.int yr),vE (.ref G.length),vE (.int bg'),vE (.int j),vE (.int q.1),vE (.fl (tab 4 q.2))] (G++[.lst (acc'.map Cp)])/\
   ((j=0∨(q.1%2=1/\bg+1<yr))->bg'=(if 0<j then bg+1+q.1/2%(yr-bg-1)else bg)/\acc'=acc++[(bg',stps q.2 u p)])/\
   (¬(j=0∨(q.1%2=1/\bg+1<yr))->bg'=bg/\acc'=acc):=λj=>by
  by_cases hj:j<4
  ·obtain⟨lat,xs,h⟩:=ZTU (u:=u) (yr:=yr) (p:=p) hf hb hj;exact⟨(lat,xs),λ_=>h⟩
  ·exact⟨(0,λ_=>0),λz=>absurd z hj⟩
 let lat:Nat->Int:=λj=>(ex j).choose.1
 let cel:Nat->Nat->Int:=λj=>(ex j).choose.2
 have hd:=λ(j:Nat)(hj:j<4)=>(ex j).choose_spec hj
 refine⟨Gf lat cel u p yr 4 0 0,⟨ZC5 hu 4 0 0,?_,?_,?_,ZCa 4 0 0⟩,λG=>?_⟩
 ·unfold Gf;rw[if_pos (.inl rfl)];exact⟨_,_,rfl⟩
 ·unfold Gf;rw[if_pos (.inl rfl)];obtain⟨i1,i2⟩:=Vo (lat:=lat) (cel:=cel) (u:=u) (p:=p) (yr:=yr) 3 1 0 (by lia) (by lia);exact List.pairwise_cons.mpr ⟨λs hs=>(i1 s hs).1,i2⟩
 ·unfold Gf;rw[if_pos (.inl rfl)];obtain⟨i1,i2⟩:=Vo (lat:=lat) (cel:=cel) (u:=u) (p:=p) (yr:=yr) 3 1 0 (by lia) (by lia);intro s hs;rcases zw.mp hs with rfl|hs
  ·exact⟨qq _,by show(0:Int)<yr;lia⟩
  ·have:=i1 s hs;lia
 ·obtain⟨x',y',z',w',hL⟩:=ZA8 (lat:=lat) (cel:=cel) hd (G:=G) 4 0 0 [] vF vF vF (by lia) (by simp) (by lia);have hL':Bq (gV 7) M7 (Cm 0 4) [vE (.fl (ns.map D.int)),vE (.int b),vE (.int u),vE (.bl p),vE (.int yr),vE (.ref G.length),vE (.int 0),vF,vF,vF] (G++[.lst []])=.nx [vE (.fl (ns.map D.int)),vE (.int b),vE (.int u),vE (.bl p),vE (.int yr),vE (.ref G.length),x',y',z',w'] (G++[.lst ((Gf lat cel u p yr 4 0 0).map Cp)]):=hL
  have hr:inR 4:=Gu (by lia) (by lia);generalize Gf lat cel u p yr 4 0 0=rl at hL';unfold Yr ZJx;rw[Bp];simp[cy,Av,Ga,hr,hL',Ej,Qs]
noncomputable def ZBg:List Nat:=("abcdefghijklmnopqrstuvwxyz":Str).cps.toList
noncomputable def ZEZ:List Nat:=("abcdefghijkl":Str).cps.toList
theorem ZN2:∀i,i<26->ZBg[i]?=vE (97+i):=by decide +kernel
theorem ZO5:∀i,i<12->ZEZ[i]?=vE (97+i):=by decide +kernel
noncomputable def Eu(l:List Nat):Str:=⟨l.toArray⟩
theorem ZFA{l l':List Nat}(h:Eu l=Eu l'):l=l':=by have h1:=congrArg (λs:Str=>s.cps.toList) h;simpa[Eu]using h1
theorem ZMI{l l':List Nat}:Eu l++Eu l'=Eu (l++l'):=by show Str.append _ _=_;unfold Str.append Eu;simp
theorem ZEt{s:Str}{l:List Nat}(h:s.cps.toList=l):s=Eu l:=by obtain⟨a⟩:=s;unfold Eu;simp only at h;rw[<-h]
theorem ZOD{o:Nat}{n:Int}:Ot ⟨#[o]⟩ n=Eu (zV n.toNat o):=by
 refine ZEt ?_;rw[ZNr];show(zV n.toNat [o]).flatten=_;generalize n.toNat=m
 induction m with
 |zero=>rfl
 |succ m ih=>rw[zS,q8,ih,zS];rfl
noncomputable def ocF(c:Int):Nat:=97+(c/21%26).toNat
noncomputable def tcF(c:Int)(k:Nat):Nat:=97+((5*(k:Int)+c/546)%12).toNat
def Gy(c:Int)(n k:Nat):List Nat:=if c%3=1/\n<9 then zV (k+1) (ocF c)else if c%3=2 then tcF c k::zV (c/3%7).toNat (ocF c)else zV (c/3%7).toNat (ocF c)++tcF c k::zV (6-(c/3%7)).toNat (ocF c)
theorem ZNq{n k:Nat}(hn:n<=12)(hk:k<n)(G:DH):Ym [.int c,.int k,.int n] G=.ok (.str (Eu (Gy c n k))) G:=by
 have a1:atI ZBg (c/21%26)=vE (ocF c):=Fe (k:=(c/21%26).toNat) (by lia) (ZN2 _ (by lia));have a2:atI ZEZ ((5*(k:Int)+c/546)%12)=vE (tcF c k):=Fe (k:=((5*(k:Int)+c/546)%12).toNat) (by lia) (ZO5 _ (by lia));have l1:("abcdefghijklmnopqrstuvwxyz":Str).length<=1000000:=by decide +kernel
 have l2:("abcdefghijkl":Str).length<=1000000:=by decide +kernel
 have ho:∀m:Int,-1000<=m->m<=1000->∀G,Bk (.str ⟨#[ocF c]⟩) (.int m) G=.ok (.str (Eu (zV m.toNat (ocF c)))) G:=λm h1 h2 G=>by rw[ZQE ⟨h1,h2,by show(#[ocF c]).size<=1000;simp⟩,ZOD]
 have e1:∀G,Aj (.str ("abcdefghijklmnopqrstuvwxyz":Str)) (.int (c/21%26)) G=R.ok (.str ⟨#[ocF c]⟩) G:=λG=>by
  rw[R1,if_pos l1]
  show(match atI ZBg (c/21%26)with |some c=>R.ok (sgn c) G|none=>.bad)=_
  rw[a1]
  rfl
 have e2:∀G,Aj (.str ("abcdefghijkl":Str)) (.int ((5*(k:Int)+c/546)%12)) G=R.ok (.str (Eu [tcF c k])) G:=λG=>by
  rw[R1,if_pos l2]
  show(match atI ZEZ ((5*(k:Int)+c/546)%12)with |some c=>R.ok (sgn c) G|none=>.bad)=_
  rw[a2]
  rfl
 have hadd:∀(l l':List Nat)(G:DH),l.length+l'.length<=1000000->Ay (.str (Eu l)) (.str (Eu l')) G=.ok (.str (Eu (l++l'))) G:=λl l' G h=>by
  have e:Ay (.str (Eu l)) (.str (Eu l')) G=if(Eu l).length+(Eu l').length<=1000000 then .ok (.str (Eu l++Eu l')) G else .bad:=rfl
  rw[e,if_pos (by show l.toArray.size+l'.toArray.size<=1000000;simpa using h),ZMI]
 unfold Ym ZFH;rw[Bp];by_cases h1:c%3=1
 ·by_cases h9:n<9
  ·have en:Gy c n k=zV (k+1) (ocF c):=if_pos ⟨h1,h9⟩;have hk2:=ho ((k:Int)+1) (by lia) (by lia);have ek:((k:Int)+1).toNat=k+1:=by lia
   rw[ek]at hk2;rw[en];have h9':(n:Int)<9:=by lia
   simp[-R1,e1,h1,h9',hk2,By]
  ·have en:Gy c n k=zV (c/3%7).toNat (ocF c)++tcF c k::zV (6-(c/3%7)).toNat (ocF c):=by unfold Gy;rw[if_neg (λz=>h9 z.2),if_neg (by lia)]
   have r1:=ho (c/3%7) (by lia) (by lia);have r2:=ho (6-(c/3%7)) (by lia) (by lia);have d1:=λG=>hadd (zV (c/3%7).toNat (ocF c)) [tcF c k] G (by simp;lia)
   have d2:=λG=>hadd (zV (c/3%7).toNat (ocF c)++[tcF c k]) (zV (6-(c/3%7)).toNat (ocF c)) G (by simp;lia)
   have ea:zV (c/3%7).toNat (ocF c)++[tcF c k]++zV (6-(c/3%7)).toNat (ocF c)=Gy c n k:=by rw[en];simp
   rw[ea]at d2;have h9':¬(n:Int)<9:=by lia
   simp[-R1,e1,e2,h1,h9',r1,r2,d1,d2,By]
 ·by_cases h2:c%3=2
  ·have en:Gy c n k=tcF c k::zV (c/3%7).toNat (ocF c):=by unfold Gy;rw[if_neg (λz=>h1 z.1),if_pos h2]
   have r1:=ho (c/3%7) (by lia) (by lia);have d1:=λG=>hadd [tcF c k] (zV (c/3%7).toNat (ocF c)) G (by simp;lia)
   have ea: [tcF c k]++zV (c/3%7).toNat (ocF c)=Gy c n k:=by rw[en];rfl
   rw[ea]at d1;simp[-R1,e1,e2,h2,r1,d1,By]
  ·have en:Gy c n k=zV (c/3%7).toNat (ocF c)++tcF c k::zV (6-(c/3%7)).toNat (ocF c):=by unfold Gy;rw[if_neg (λz=>h1 z.1),if_neg h2]
   have r1:=ho (c/3%7) (by lia) (by lia);have r2:=ho (6-(c/3%7)) (by lia) (by lia);have d1:=λG=>hadd (zV (c/3%7).toNat (ocF c)) [tcF c k] G (by simp;lia)
   have d2:=λG=>hadd (zV (c/3%7).toNat (ocF c)++[tcF c k]) (zV (6-(c/3%7)).toNat (ocF c)) G (by simp;lia)
   have ea:zV (c/3%7).toNat (ocF c)++[tcF c k]++zV (6-(c/3%7)).toNat (ocF c)=Gy c n k:=by rw[en];simp
   rw[ea]at d2;simp[-R1,e1,e2,h1,h2,r1,r2,d1,d2,By]
theorem ZJh{k k':Nat}(hk:k<12)(hk':k'<12)(h:tcF c k=tcF c k'):k=k':=by unfold tcF at h;omega +splitNatSub
theorem ZPF{n k k':Nat}(hn:n<=12)(hk:k<n)(hk':k'<n)(h:Gy c n k=Gy c n k'):k=k':=by
 unfold Gy at h;split at h
 ·have:=congrArg xQ h;simp at this;exact this
 ·split at h
  ·exact ZJh (by lia) (by lia) (List.cons.inj h).1
  ·have:=List.append_cancel_left h;exact ZJh (by lia) (by lia) (List.cons.inj this).1
theorem ZS2:("sea":Str)=Eu [115,101,97]:=by decide +kernel
theorem ZSs{n k:Nat}:Eu (Gy c n k)≠"sea":=λh=>by
 rw[ZS2]at h;have h:=ZFA h;unfold Gy at h;split at h
 ·have h1:∀x∈[115,101,97],x=ocF c:=λx hx=>by rw[<-h]at hx;exact List.eq_of_mem_replicate hx
  have a:=h1 115 (by simp);have b:=h1 101 (by simp);lia
 ·split at h
  ·have:=(List.cons.inj h).1;unfold tcF at this;lia
  ·have:=congrArg xQ h;simp at this;lia
theorem N5{te:DE}{S:DSt}{E:α->D}{F:α->D}{G:DH}:∀{l:List α},(∀a∈l,te (S.set 0 (vE (E a))) G=.ok (F a) G)->Du (gV 0) Cd te S (l.map E) G=.ok (l.map F) G
 |[],_=>rfl
 |a::l,h=>by
  have h1:=h a (by simp);have ih:=N5 (te:=te) (S:=S) (E:=E) (F:=F) (G:=G) (l:=l) λb hb=>h b (zX _ hb)
  rw[zk,ZAs];simp -implicitDefEqProofs [h1,ih]
def Ce(nm:Nat->Str)(n:Nat):List D:=(zZ n).map λk=>.str (nm k)
theorem Wi{n k:Nat}(h:k<n):atI (Ce nm n) (k:Int)=vE (.str (nm k)):=Fe rfl (by simp -implicitDefEqProofs [Ce,h])
theorem Ve{n:Nat}:(Ce nm n).length=n:=by simp -implicitDefEqProofs [Ce]
@[simp]theorem ZQf{n:Nat}:bels m (Ce nm n)=vG:=G9 λ_ _=>rfl
noncomputable def Ij(nm:Nat->Str):Option (Nat×Nat×Int)->D
 |none=>.non
 |some (to,dl,m)=>.tup [.str (nm to),.int dl,.int m]
@[simp]theorem ZUe{q:Option (Nat×Nat×Int)}:bel m (Ij nm q)=vG:=by
 cases q with
 |none=>rfl
 |some q=>obtain⟨a,b,c⟩:=q;simp -implicitDefEqProofs [Ij]
theorem ZRo(hf:∀k:Nat,k<=1000->∀G,Az [.fl (ns.map D.int),.int k] G=.ok (.int (f k)) G)(hyr:1<=yr/\yr<=24)(cy:∀G,Kq [.fl (ns.map D.int)] G=.ok (.int yr) G)(hu:0<u)(cu:∀G,Fj [.fl (ns.map D.int)] G=.ok (.int u) G){b k n:Nat}(hb:b<=900)(hk:k<n)(hn:n<=12){d:Str}{dl:Int}:
  ∃(r:List Ssn)(q:Option (Nat×Nat×Int)),RuleOk yr q.isSome r/\(∀to dl m,q=vE (to,dl,m)->to<n/\1<=dl/\dl<=5)/\
   ∀G,Um [.fl (ns.map D.int),.int b,.int k,.fl (Ce nm n),.tup [.str d,.int dl]] G=.ok (.tup [.str "basin",.str (nm k),.str d,.int dl,.int (amt (f (b+3)) u),.tup (r.map Cp),Ij nm q]) G:=by
 have h11:∀G,Az [.fl (ns.map D.int),.int ((b:Int)+11)] G=.ok (.int (f (b+11))) G:=λG=>by have:=hf (b+11) (by lia) G;rwa[show((b+11:Nat):Int)=(b:Int)+11 by lia]at this
 have h3:∀G,Az [.fl (ns.map D.int),.int ((b:Int)+3)] G=.ok (.int (f (b+3))) G:=λG=>by have:=hf (b+3) (by lia) G;rwa[show((b+3:Nat):Int)=(b:Int)+3 by lia]at this
 have ak:atI (Ce nm n) (k:Int)=vE (.str (nm k)):=Wi hk;have fu:∀G,freeze G (.ok (.int u) G)=.ok (.int u) G:=λG=>Jx rfl
 generalize f (b+11)=c at h11;have pre:∀G,ZBw [vE (.fl (ns.map D.int)),vE (.int b),vE (.int k),vE (.fl (Ce nm n)),vE (.tup [.str d,.int dl]),vF,vF,vF,vF,vF,vF,vF,vF] G=
   Mv [vE (.fl (ns.map D.int)),vE (.int b),vE (.int k),vE (.fl (Ce nm n)),vE (.tup [.str d,.int dl]),vE (.int u),vE (.int c),vE (.bl (decide (1<n/\c%2=1))),vF,vF,vF,vF,vF] G:=λG=>by
  have t:∀S:DSt,S[3]?=vE (vE (.fl (Ce nm n)))->S[6]?=vE (vE (.int c))->Nf (dOp Iw (dFn Cz (Ab (dV 3) Ad)) (dC (.int 1))) (dOp Cv (dOp Bo (dV 6) (dC (.int 2))) (dC (.int 1))) S G=.ok (.bl (decide (1<n/\c%2=1))) G:=λS h1 h2=>by
   by_cases hn1:1<n
   ·have hn1':(1:Int)<n:=by lia
    simp -implicitDefEqProofs [dV,h1,h2,Ve,hn1,hn1']
   ·have hn1':¬(1:Int)<n:=by lia
    simp -implicitDefEqProofs [dV,h1,h2,Ve,hn1,hn1']
  unfold ZBw ZEg ZIN;generalize Nf (dOp Iw (dFn Cz (Ab (dV 3) Ad)) (dC (.int 1))) (dOp Cv (dOp Bo (dV 6) (dC (.int 2))) (dC (.int 1)))=te at t;generalize Ce nm n=NM at t;simp -implicitDefEqProofs [cu,fu,h11,t]
 have fin:∀(r:List Ssn)(q:Option (Nat×Nat×Int))(s6 s7 x10 x11:Option D)(G:DH),Ny [vE (.fl (ns.map D.int)),vE (.int b),vE (.int k),vE (.fl (Ce nm n)),vE (.tup [.str d,.int dl]),vE (.int u),s6,s7,vE (.tup (r.map Cp)),vE (Ij nm q),x10,x11,vF] G=.rt (.tup [.str "basin",.str (nm k),.str d,.int dl,.int (amt (f (b+3)) u),.tup (r.map Cp),Ij nm q]) G:=λr q s6 s7 x10 x11 G=>by generalize r.map Cp=RR;generalize Ij nm q=PQ;generalize Ce nm n=NM at ak;unfold Ny ZFV;simp -implicitDefEqProofs [h3,Ls hu,ak,Bb]
 have cl:∀G,Um [.fl (ns.map D.int),.int b,.int k,.fl (Ce nm n),.tup [.str d,.int dl]] G=tidy G ((Mv [vE (.fl (ns.map D.int)),vE (.int b),vE (.int k),vE (.fl (Ce nm n)),vE (.tup [.str d,.int dl]),vE (.int u),vE (.int c),vE (.bl (decide (1<n/\c%2=1))),vF,vF,vF,vF,vF] G).ret):=λG=>by
  rw[<-pre];unfold Um;rw[Bp]
  rfl
 have td:∀(r:List Ssn)(q:Option (Nat×Nat×Int))(G:DH),tidy G ((SR.rt (.tup [.str "basin",.str (nm k),.str d,.int dl,.int (amt (f (b+3)) u),.tup (r.map Cp),Ij nm q]) G).ret)=.ok (.tup [.str "basin",.str (nm k),.str d,.int dl,.int (amt (f (b+3)) u),.tup (r.map Cp),Ij nm q]) G:=λr q G=>by simp -implicitDefEqProofs [By]
 by_cases hp:1<n/\c%2=1
 ·obtain⟨r,hr,cr⟩:=ZI7 (ns:=ns) (f:=f) hf hyr cy hb hu (p:=vG);obtain⟨st,rest,er⟩:=hr.cons;have hx0:0<=c/2%((n:Int)-1):=qR _ (by lia);have ht0:0<=((k:Int)+1+c/2%((n:Int)-1))%n:=qR _ (by lia);have ht1:((k:Int)+1+c/2%((n:Int)-1))%n<n:=jZ _ (by lia);generalize ht:((k:Int)+1+c/2%((n:Int)-1))%n=t at ht0 ht1;have at_:atI (Ce nm n) t=vE (.str (nm t.toNat)):=by have:=Wi (nm:=nm) (n:=n) (k:=t.toNat) (by lia);rwa[show((t.toNat:Nat):Int)=t by lia]at this
  have mx:∀G,Jt [.fl (r.map λs=>.int (Ew s.2))] G=.ok (.int ((rest.map λs=>Ew s.2).foldl max (Ew st))) G:=λG=>ZHz (by rw[er];simp -implicitDefEqProofs [Cj])
  have m2:∀G,Bk (.int u) (.int (c/130%2)) G=.ok (.int (u*(c/130%2))) G:=λG=>Ji (by lia) (by lia)
  have cp:∀(G:DH),Du (gV 0) Cd ZDg [vF] (r.map Cp) G=.ok (r.map λs=>.int (Ew s.2)) G:=λG=>N5 λs _=>by unfold ZDg;simp -implicitDefEqProofs [Cp,ZSq]
  have fz:∀G:DH,freeze G (.ok (.ref G.length) (G++[.lst (r.map λs=>.int (Ew s.2))]))=.ok (.fl (r.map λs=>.int (Ew s.2))) G:=λG=>Fb (G9 λ_ _=>rfl)
  have hd:((1+c/26%5).toNat:Int)=1+c/26%5:=by lia
  refine⟨r,vE (t.toNat,(1+c/26%5).toNat,(rest.map λs=>Ew s.2).foldl max (Ew st)+u*(c/130%2)),hr,?_,λG=>?_⟩
  ·intro to dl m e;cases e;lia
  ·have h1':0<(n:Int)-1:=by lia
   have h1:(1:Int)<n:=by lia
   have hn0:0<(n:Int):=by lia
   have hn0':0<n:=by lia
   have hrl:(r.map Cp).length<=1000000:=by have:=hr.len;simp;lia
   have lr:(r.map λs=>D.int (Ew s.2)).length<=1000000:=by have:=hr.len;simp;lia
   have mid:Mv [vE (.fl (ns.map D.int)),vE (.int b),vE (.int k),vE (.fl (Ce nm n)),vE (.tup [.str d,.int dl]),vE (.int u),vE (.int c),vE (.bl vG),vF,vF,vF,vF,vF] G=
     Ny [vE (.fl (ns.map D.int)),vE (.int b),vE (.int k),vE (.fl (Ce nm n)),vE (.tup [.str d,.int dl]),vE (.int u),vE (.int c),vE (.bl vG),vE (.tup (r.map Cp)),vE (Ij nm (vE (t.toNat,(1+c/26%5).toNat,(rest.map λs=>Ew s.2).foldl max (Ew st)+u*(c/130%2)))),vE (.int ((rest.map λs=>Ew s.2).foldl max (Ew st)+u*(c/130%2))),vE (.str (nm t.toNat)),vF] G:=by
    have ln:(Ce nm n).length=n:=Ve;show _=Ny [vE (.fl (ns.map D.int)),vE (.int b),vE (.int k),vE (.fl (Ce nm n)),vE (.tup [.str d,.int dl]),vE (.int u),vE (.int c),vE (.bl vG),vE (.tup (r.map Cp)),vE (.tup [.str (nm t.toNat),.int ((1+c/26%5).toNat:Nat),.int ((rest.map λs=>Ew s.2).foldl max (Ew st)+u*(c/130%2))]),vE (.int ((rest.map λs=>Ew s.2).foldl max (Ew st)+u*(c/130%2))),vE (.str (nm t.toNat)),vF] G
    rw[hd];generalize(rest.map λs=>Ew s.2).foldl max (Ew st)=MX at mx;generalize Ce nm n=NM at at_ ln;generalize r.map Cp=RR at cr cp hrl;generalize(r.map λs=>D.int (Ew s.2))=RP at mx cp fz lr;unfold Mv ZEH ZCW;simp -implicitDefEqProofs [hrl,cr,cp,Bm,fz,lr,mx,m2,ln,h1,h1',hn0,hn0',ht,at_,Bb]
   rw[cl,decide_eq_true hp,mid,fin,td]
 ·obtain⟨r,hr,cr⟩:=ZI7 (ns:=ns) (f:=f) hf hyr cy hb hu (p:=vH)
  refine⟨r,vF,hr,(λto dl m e=>nomatch e),λG=>?_⟩
  have mid:Mv [vE (.fl (ns.map D.int)),vE (.int b),vE (.int k),vE (.fl (Ce nm n)),vE (.tup [.str d,.int dl]),vE (.int u),vE (.int c),vE (.bl vH),vF,vF,vF,vF,vF] G=
    Ny [vE (.fl (ns.map D.int)),vE (.int b),vE (.int k),vE (.fl (Ce nm n)),vE (.tup [.str d,.int dl]),vE (.int u),vE (.int c),vE (.bl vH),vE (.tup (r.map Cp)),vE (Ij nm vF),vF,vF,vF] G:=by
   show _=Ny [vE (.fl (ns.map D.int)),vE (.int b),vE (.int k),vE (.fl (Ce nm n)),vE (.tup [.str d,.int dl]),vE (.int u),vE (.int c),vE (.bl vH),vE (.tup (r.map Cp)),vE .non,vF,vF,vF] G;generalize Ce nm n=NM;unfold Mv ZEH ZCW;simp -implicitDefEqProofs [cr]
  rw[cl,decide_eq_false hp,mid,fin,td]
noncomputable def dnS(nm:Nat->Str):Option Nat->Str
 |none=>"sea"
 |some d=>nm d
def Iv(nm:Nat->Str)(p:Pl):D:=match p.kd with
 |.basin b r q=>.tup [.str "basin",.str p.nm,.str (dnS nm p.dn),.int p.dl,.int b,.tup (r.map Cp),Ij nm q]
 |.town a b=>.tup [.str "town",.str p.nm,.str (dnS nm p.dn),.int p.dl,.int a,.int b]
 |.mill a=>.tup [.str "mill",.str p.nm,.str (dnS nm p.dn),.int p.dl,.int a]
structure PlOk (yr:Int) (nm:Nat->Str) (n k:Nat) (p:Pl):Prop where
 nm:p.nm=nm k
 dn:∀d,p.dn=vE d->k<d/\d<n
 dl:p.dl<=5
 basin:∀b r q,p.kd=.basin b r q->0<=b/\RuleOk yr q.isSome r/\∀to dl m,q=vE (to,dl,m)->to<n/\1<=dl/\dl<=5
 town:∀a b,p.kd=.town a b->0<=a/\0<=b
 mill:∀a,p.kd=.mill a->0<=a
theorem ZP1(hf:∀k:Nat,k<=1000->∀G,Az [.fl (ns.map D.int),.int k] G=.ok (.int (f k)) G)(hyr:1<=yr/\yr<=24)(cy:∀G,Kq [.fl (ns.map D.int)] G=.ok (.int yr) G)(hu:0<u)(cu:∀G,Fj [.fl (ns.map D.int)] G=.ok (.int u) G){k n:Nat}(hk:k<n)(hn:n<=12):
  ∃p:Pl,PlOk yr nm n k p/\∀(G:DH)(acc:List D)(x6 x7 x8 x9 x10 x11 x12:Option D),acc.length<=20->∃y6 y7 y8 y9 y10 y11 y12,
   Mf [vE (.fl (ns.map D.int)),vE (.int c),vE (.int n),vE (.fl (Ce nm n)),vE (.int k),vE (.ref G.length),x6,x7,x8,x9,x10,x11,x12] (G++[.lst acc])=
    .nx [vE (.fl (ns.map D.int)),vE (.int c),vE (.int n),vE (.fl (Ce nm n)),vE (.int k),vE (.ref G.length),y6,y7,y8,y9,y10,y11,y12] (G++[.lst (acc++[Iv nm p])]):=by
 have hc:∀j:Nat,j<=11->∀G,Az [.fl (ns.map D.int),.int (((6+12*k:Nat):Int)+j)] G=.ok (.int (f (6+12*k+j))) G:=λj hj G=>by have:=hf (6+12*k+j) (by lia) G;rwa[show((6+12*k+j:Nat):Int)=((6+12*k:Nat):Int)+j by lia]at this
 have hb:6+12*k<=900:=by lia
 have e6:(6+12*(k:Int))=((6+12*k:Nat):Int):=by lia
 have m12:∀G,Bk (.int 12) (.int (k:Int)) G=.ok (.int (12*(k:Int))) G:=λG=>Je (by lia) (by lia)
 have h0:∀G,Az [.fl (ns.map D.int),.int ((6+12*k:Nat):Int)] G=.ok (.int (f (6+12*k))) G:=hf _ (by lia);have h1:∀G,Az [.fl (ns.map D.int),.int (((6+12*k:Nat):Int)+1)] G=.ok (.int (f (6+12*k+1))) G:=hc 1 (by lia);have h2:∀G,Az [.fl (ns.map D.int),.int (((6+12*k:Nat):Int)+2)] G=.ok (.int (f (6+12*k+2))) G:=hc 2 (by lia);have h3:∀G,Az [.fl (ns.map D.int),.int (((6+12*k:Nat):Int)+3)] G=.ok (.int (f (6+12*k+3))) G:=hc 3 (by lia)
 have h4:∀G,Az [.fl (ns.map D.int),.int (((6+12*k:Nat):Int)+4)] G=.ok (.int (f (6+12*k+4))) G:=hc 4 (by lia);have ak:atI (Ce nm n) (k:Int)=vE (.str (nm k)):=Wi hk;have fu:∀G,freeze G (.ok (.int u) G)=.ok (.int u) G:=λG=>Jx rfl
 have cb:=λd dl=>ZRo (nm:=nm) (d:=d) (dl:=dl) hf hyr cy hu cu hb hk hn
 generalize 6+12*k=b at hc hb e6 h0 h1 h2 h3 h4 cb;obtain⟨s,hs0,hs1,hs⟩:∃s:Int,0<=s/\s<(n:Int)-k/\∀(H:DH)(x5 x7 x8 x9 x10 x11 x12:Option D),Xr [vE (.fl (ns.map D.int)),vE (.int c),vE (.int n),vE (.fl (Ce nm n)),vE (.int k),x5,vE (.int b),x7,x8,x9,x10,x11,x12] H=
   Ud [vE (.fl (ns.map D.int)),vE (.int c),vE (.int n),vE (.fl (Ce nm n)),vE (.int k),x5,vE (.int b),vE (.int s),x8,x9,x10,x11,x12] H:=by
  have hm:0<(n:Int)-k:=by lia
  have hm':(k:Int)<n:=by lia
  by_cases hw:c/280%3=1
  ·refine⟨min 1 ((n:Int)-1-k),by lia,by lia,λH x5 x7 x8 x9 x10 x11 x12=>?_⟩;unfold Xr ZBy;simp -implicitDefEqProofs [h1,hm,hm',hk,hw]
  ·refine⟨f (b+1)%((n:Int)-k),qR _ (by lia),jZ _ hm,λH x5 x7 x8 x9 x10 x11 x12=>?_⟩;unfold Xr ZBy;simp -implicitDefEqProofs [h1,hm,hm',hk,hw]
 obtain⟨dn,dl,hdn,hdl,hr⟩:∃(dn:Option Nat)(dl:Nat),(∀d,dn=vE d->k<d/\d<n)/\dl<=5/\∀(H:DH)(x5 x8 x9 x10 x11 x12:Option D),Ud [vE (.fl (ns.map D.int)),vE (.int c),vE (.int n),vE (.fl (Ce nm n)),vE (.int k),x5,vE (.int b),vE (.int s),x8,x9,x10,x11,x12] H=
   Ss [vE (.fl (ns.map D.int)),vE (.int c),vE (.int n),vE (.fl (Ce nm n)),vE (.int k),x5,vE (.int b),vE (.int s),vE (.int (f (b+2))),vE (.tup [.str (dnS nm dn),.int dl]),x10,x11,x12] H:=by
  have hd:((f (b+2)%2*(f (b+2)/2%6)).toNat:Int)=f (b+2)%2*(f (b+2)/2%6)/\(f (b+2)%2*(f (b+2)/2%6)).toNat<=5:=by rcases(by lia:f (b+2)%2=0∨f (b+2)%2=1)with z|z<;>rw[z]<;>lia
  have md:∀G,Bk (.int (f (b+2)%2)) (.int (f (b+2)/2%6)) G=.ok (.int (f (b+2)%2*(f (b+2)/2%6))) G:=λG=>Ji (by lia) (by lia)
  generalize f (b+2)%2*(f (b+2)/2%6)=w at hd md;by_cases hp:0<s
  ·have a2:atI (Ce nm n) ((k:Int)+s)=vE (.str (nm (k+s.toNat))):=by have:=Wi (nm:=nm) (n:=n) (k:=k+s.toNat) (by lia);rwa[show((k+s.toNat:Nat):Int)=(k:Int)+s by lia]at this
   refine⟨vE (k+s.toNat),w.toNat,λd e=>by cases e;lia,hd.2,λH x5 x8 x9 x10 x11 x12=>?_⟩;unfold Ud ZDw ZDh;simp -implicitDefEqProofs [h2,md,hp,a2,Bb,dnS,hd.1]
  ·refine⟨vF,w.toNat,(λd e=>nomatch e),hd.2,λH x5 x8 x9 x10 x11 x12=>?_⟩
   unfold Ud ZDw ZDh;simp -implicitDefEqProofs [h2,md,hp,Bb,dnS,hd.1]
 obtain⟨rk,hrk,hk2⟩:∃rk:Int,0<=rk/\∀(H:DH)(x5 x7 x8 x9 x10 x11 x12:Option D),Ss [vE (.fl (ns.map D.int)),vE (.int c),vE (.int n),vE (.fl (Ce nm n)),vE (.int k),x5,vE (.int b),x7,x8,x9,x10,x11,x12] H=
   Pg [vE (.fl (ns.map D.int)),vE (.int c),vE (.int n),vE (.fl (Ce nm n)),vE (.int k),x5,vE (.int b),x7,x8,x9,vE (.int (f b%5)),vE (.int (amt (f (b+3)) u)),vE (.int rk)] H:=by
  have fz:∀G:DH,freeze G (.ok (.ref G.length) (G++[.lst [.int 4,.int 10000000000000000000000000000000000000000]]))=.ok (.fl [.int 4,.int 10000000000000000000000000000000000000000]) G:=λG=>Fb rfl
  rcases(by lia:c/840%2=0∨c/840%2=1)with z|z
  ·refine⟨f (b+4)%4,by lia,λH x5 x7 x8 x9 x10 x11 x12=>?_⟩;unfold Ss ZA1 ZEB;simp -implicitDefEqProofs [h0,h3,h4,cu,fu,Ls hu,z,Av,fz]
  ·refine⟨f (b+4)%10000000000000000000000000000000000000000,by lia,λH x5 x7 x8 x9 x10 x11 x12=>?_⟩;unfold Ss ZA1 ZEB;simp -implicitDefEqProofs [h0,h3,h4,cu,fu,Ls hu,z,Av,fz]
 have hal:∀acc:List D,acc.length<=20->acc.length<1000000:=λacc h=>by lia
 have go:∀p:Pl,(∀(G:DH)(acc:List D),acc.length<=20->
   Pg [vE (.fl (ns.map D.int)),vE (.int c),vE (.int n),vE (.fl (Ce nm n)),vE (.int k),vE (.ref G.length),vE (.int b),vE (.int s),vE (.int (f (b+2))),vE (.tup [.str (dnS nm dn),.int dl]),vE (.int (f b%5)),vE (.int (amt (f (b+3)) u)),vE (.int rk)] (G++[.lst acc])=
    .nx [vE (.fl (ns.map D.int)),vE (.int c),vE (.int n),vE (.fl (Ce nm n)),vE (.int k),vE (.ref G.length),vE (.int b),vE (.int s),vE (.int (f (b+2))),vE (.tup [.str (dnS nm dn),.int dl]),vE (.int (f b%5)),vE (.int (amt (f (b+3)) u)),vE (.int rk)] (G++[.lst (acc++[Iv nm p])]))->
   ∀(G:DH)(acc:List D)(x6 x7 x8 x9 x10 x11 x12:Option D),acc.length<=20->∃y6 y7 y8 y9 y10 y11 y12,
   Mf [vE (.fl (ns.map D.int)),vE (.int c),vE (.int n),vE (.fl (Ce nm n)),vE (.int k),vE (.ref G.length),x6,x7,x8,x9,x10,x11,x12] (G++[.lst acc])=
    .nx [vE (.fl (ns.map D.int)),vE (.int c),vE (.int n),vE (.fl (Ce nm n)),vE (.int k),vE (.ref G.length),y6,y7,y8,y9,y10,y11,y12] (G++[.lst (acc++[Iv nm p])]):=λp h9 G acc x6 x7 x8 x9 x10 x11 x12 ha=>by
  refine⟨vE (.int b),vE (.int s),vE (.int (f (b+2))),vE (.tup [.str (dnS nm dn),.int dl]),vE (.int (f b%5)),vE (.int (amt (f (b+3)) u)),vE (.int rk),?_⟩
  ·unfold Mf;have e:(sAs (dOp Ay (dC (.int 6)) (dOp Bk (dC (.int 12)) (dV 4))) (gV 6)) [vE (.fl (ns.map D.int)),vE (.int c),vE (.int n),vE (.fl (Ce nm n)),vE (.int k),vE (.ref G.length),x6,x7,x8,x9,x10,x11,x12] (G++[.lst acc])=.nx [vE (.fl (ns.map D.int)),vE (.int c),vE (.int n),vE (.fl (Ce nm n)),vE (.int k),vE (.ref G.length),vE (.int b),x7,x8,x9,x10,x11,x12] (G++[.lst acc]):=by simp -implicitDefEqProofs [m12,e6]
   rw[Ut,e,Wt,hs,hr,hk2];exact h9 G acc ha
 by_cases hk1:f b%5<2
 ·obtain⟨r,q,hr1,hq,cr⟩:=cb (dnS nm dn) dl
  refine⟨⟨nm k,dn,dl,.basin (amt (f (b+3)) u) r q⟩,⟨rfl,hdn,hdl,λb' r' q' e=>?_,(λ_ _ e=>nomatch e),(λ_ e=>nomatch e)⟩,go _ λG acc ha=>?_⟩
  ·cases e;exact⟨Uz hu,hr1,hq⟩
  ·have fr:∀G:DH,freeze G (.ok (.tup [.str "basin",.str (nm k),.str (dnS nm dn),.int dl,.int (amt (f (b+3)) u),.tup (r.map Cp),Ij nm q]) G)=.ok (.tup [.str "basin",.str (nm k),.str (dnS nm dn),.int dl,.int (amt (f (b+3)) u),.tup (r.map Cp),Ij nm q]) G:=λG=>Jx (by simp)
   unfold Pg;simp -implicitDefEqProofs [hk1,cr,fr,Ej,G7,hal acc ha,Iv]
 ·by_cases hk3:f b%5<4
  ·refine⟨⟨nm k,dn,dl,.town (amt (f (b+3)) u) rk⟩,⟨rfl,hdn,hdl,(λ_ _ _ e=>nomatch e),λa b' e=>?_,(λ_ e=>nomatch e)⟩,go _ λG acc ha=>?_⟩
   ·cases e;exact⟨Uz hu,hrk⟩
   ·unfold Pg;simp -implicitDefEqProofs [hk1,hk3,ak,Bb,Ej,G7,hal acc ha,Iv]
  ·refine⟨⟨nm k,dn,dl,.mill (amt (f (b+3)) u)⟩,⟨rfl,hdn,hdl,(λ_ _ _ e=>nomatch e),(λ_ _ e=>nomatch e),λa e=>?_⟩,go _ λG acc ha=>?_⟩
   ·cases e;exact Uz hu
   ·unfold Pg;simp -implicitDefEqProofs [hk1,hk3,ak,Bb,Ej,G7,hal acc ha,Iv]
theorem ZFt{n:Nat}{P:Nat->Pl} 
  (hd:∀k,k<n->∀(acc:List D)(x6 x7 x8 x9 x10 x11 x12:Option D),acc.length<=20->∃y6 y7 y8 y9 y10 y11 y12,
   Mf [vE (.fl (ns.map D.int)),vE (.int c),vE (.int n),vE (.fl (Ce nm n)),vE (.int k),vE (.ref G.length),x6,x7,x8,x9,x10,x11,x12] (G++[.lst acc])=
    .nx [vE (.fl (ns.map D.int)),vE (.int c),vE (.int n),vE (.fl (Ce nm n)),vE (.int k),vE (.ref G.length),y6,y7,y8,y9,y10,y11,y12] (G++[.lst (acc++[Iv nm (P k)])])):
  ∀(m k:Nat) (acc:List D) (x4 x6 x7 x8 x9 x10 x11 x12:Option D),k+m=n->acc.length+m<=20->∃y4 y6 y7 y8 y9 y10 y11 y12,
   Bq (gV 4) Mf (Cm k m) [vE (.fl (ns.map D.int)),vE (.int c),vE (.int n),vE (.fl (Ce nm n)),x4,vE (.ref G.length),x6,x7,x8,x9,x10,x11,x12] (G++[.lst acc])=
    .nx [vE (.fl (ns.map D.int)),vE (.int c),vE (.int n),vE (.fl (Ce nm n)),y4,vE (.ref G.length),y6,y7,y8,y9,y10,y11,y12] (G++[.lst (acc++(List.range' k m).map λi=>Iv nm (P i))])
 |0,k,acc,x4,x6,x7,x8,x9,x10,x11,x12,e,ha=>⟨x4,x6,x7,x8,x9,x10,x11,x12,by rw[Jy,Ei];simp⟩
 |m+1,k,acc,x4,x6,x7,x8,x9,x10,x11,x12,e,ha=>by
  obtain⟨y6,y7,y8,y9,y10,y11,y12,hb⟩:=hd k (by lia) acc x6 x7 x8 x9 x10 x11 x12 (by lia);obtain⟨z4,z6,z7,z8,z9,z10,z11,z12,ih⟩:=ZFt hd m (k+1) (acc++[Iv nm (P k)]) (vE (.int k)) y6 y7 y8 y9 y10 y11 y12 (by lia) (by simp;lia);refine⟨z4,z6,z7,z8,z9,z10,z11,z12,?_⟩;rw[Io,Dg];simp only[Dr,R.Dm,qJ,hb,Ea];have e1:((k:Int)+1)=((k+1:Nat):Int):=by lia
  rw[e1,ih];simp -implicitDefEqProofs [List.range'_succ]
structure Told (h:Hs) (yr:Int):Prop where
 good:GoodH h
 one:1<=h.n
 ey:h.yr=yr
 ok:∃nm:Nat->Str,∀k,k<h.n->PlOk yr nm h.n k (h.pl k)
theorem ZP7:∃n:Nat,1<=n/\n<=12/\(n:Int)=1+c%4:=⟨(1+c%4).toNat,by lia,by lia,by lia⟩
theorem ZOt(hf:∀k:Nat,k<=1000->∀G,Az [.fl (ns.map D.int),.int k] G=.ok (.int (f k)) G)(hyr:1<=yr/\yr<=24)(cy:∀G,Kq [.fl (ns.map D.int)] G=.ok (.int yr) G)(hu:0<u)(cu:∀G,Fj [.fl (ns.map D.int)] G=.ok (.int u) G):
  ∃h:Hs,Told h yr/\∀G,Tv [.fl (ns.map D.int)] G=.ok h.enc G:=by
 obtain⟨n,hn1,hn,en⟩:=ZP7 (c:=f 0);let nm:Nat->Str:=λk=>Eu (Gy (f 5) n k)
 have ex:∀k:Nat,∃p:Pl,k<n->(PlOk yr nm n k p/\∀(G:DH)(acc:List D)(x6 x7 x8 x9 x10 x11 x12:Option D),acc.length<=20->∃y6 y7 y8 y9 y10 y11 y12,
   Mf [vE (.fl (ns.map D.int)),vE (.int (f 0)),vE (.int n),vE (.fl (Ce nm n)),vE (.int k),vE (.ref G.length),x6,x7,x8,x9,x10,x11,x12] (G++[.lst acc])=
    .nx [vE (.fl (ns.map D.int)),vE (.int (f 0)),vE (.int n),vE (.fl (Ce nm n)),vE (.int k),vE (.ref G.length),y6,y7,y8,y9,y10,y11,y12] (G++[.lst (acc++[Iv nm p])])):=λk=>by
  by_cases hk:k<n
  ·obtain⟨p,hp⟩:=ZP1 (nm:=nm) (c:=f 0) hf hyr cy hu cu hk hn;exact⟨p,λ_=>hp⟩
  ·exact⟨ZAy,λz=>absurd z hk⟩
 let P:Nat->Pl:=λk=>(ex k).choose
 have hP:=λ(k:Nat)(hk:k<n)=>((ex k).choose_spec hk).1
 have hB:=λ(k:Nat)(hk:k<n)=>((ex k).choose_spec hk).2
 let h:Hs:=⟨yr,(zZ n).map P⟩;have hnn:h.n=n:=by simp -implicitDefEqProofs [h,Hs.n]
 have hpl:∀k,k<n->h.pl k=P k:=λk hk=>by simp -implicitDefEqProofs [h,Hs.pl,hk]
 have hg:GoodH h:=by
  refine⟨?_,by lia,?_,?_,?_,?_,?_,?_,?_⟩
  ·show 0<yr;lia
  ·intro i j hi hj e;rw[hnn]at hi hj;rw[hpl i hi,hpl j hj,(hP i hi).nm,(hP j hj).nm]at e;exact ZPF hn hi hj (ZFA e)
  ·intro i hi;rw[hnn]at hi;rw[hpl i hi,(hP i hi).nm];exact ZSs
  ·intro k d hk e;rw[hnn]at hk⊢;rw[hpl k hk]at e;exact(hP k hk).dn d e
  ·intro k hk;rw[hnn]at hk;rw[hpl k hk];exact(hP k hk).dl
  ·intro k b r to dl m hk e;rw[hnn]at hk⊢;rw[hpl k hk]at e;exact((hP k hk).basin _ _ _ e).2.2 to dl m rfl
  ·intro k b r q hk e;rw[hnn]at hk;rw[hpl k hk]at e;have:=(hP k hk).basin _ _ _ e;exact⟨this.1,λs hs=>(this.2.1.good s hs).1⟩
  ·intro k a b hk e;rw[hnn]at hk;rw[hpl k hk]at e;exact(hP k hk).town _ _ e
 refine⟨h,⟨hg,by lia,rfl,nm,λk hk=>by rw[hnn]at hk⊢;rw[hpl k hk];exact hP k hk⟩,λG=>?_⟩;have hdT:∀o:Option Nat,(∀d,o=vE d->d<n)->h.dnT o=dnS nm o:=λo ho=>by
  cases o with
  |none=>rfl
  |some d=>
   show(h.pl d).nm=nm d;rw[hpl d (ho d rfl),(hP d (ho d rfl)).nm]
 have henc:h.Do=(List.range' 0 n).map λi=>Iv nm (P i):=by
  show((zZ n).map P).map h.encP=_;rw[qF,List.range_eq_range'];refine qk λk hk=>?_
  have hk':k<n:=by have:=List.mem_range'_1.mp hk;lia
  have ok:=hP k hk';show h.encP (P k)=Iv nm (P k);have ed:=hdT (P k).dn λd e=>(ok.dn d e).2
  unfold Hs.encP Iv;rw[ed];cases e:(P k).kd with
  | basin b r q=>
   have hq:=(ok.basin b r q e).2.2;cases q with
   |none=>rfl
   |some q=>
    obtain⟨to,dl,m⟩:=q;have ht:=(hq to dl m rfl).1;have e2:(h.pl to).nm=nm to:=by rw[hpl to ht,(hP to ht).nm]
    simp -implicitDefEqProofs [Hs.N8,Ij,e2]
  |town a b=>rfl
  |mill a=>rfl
 obtain⟨y4,y6,y7,y8,y9,y10,y11,y12,hL⟩:=ZFt (G:=G) (P:=P) (nm:=nm) (c:=f 0) (n:=n) (ns:=ns) (λk hk=>hB k hk G) n 0 [] vF vF vF vF vF vF vF vF (by lia) (by simp;lia);rw[<-henc]at hL;have hL':Bq (gV 4) Mf (Cm 0 n) [vE (.fl (ns.map D.int)),vE (.int (f 0)),vE (.int n),vE (.fl (Ce nm n)),vF,vE (.ref G.length),vF,vF,vF,vF,vF,vF,vF] (G++[.lst []])=
    .nx [vE (.fl (ns.map D.int)),vE (.int (f 0)),vE (.int n),vE (.fl (Ce nm n)),y4,vE (.ref G.length),y6,y7,y8,y9,y10,y11,y12] (G++[.lst h.Do]):=hL
 have f0:∀G,Az [.fl (ns.map D.int),.int 0] G=.ok (.int (f 0)) G:=hf 0 (by lia);have f5:∀G,Az [.fl (ns.map D.int),.int 5] G=.ok (.int (f 5)) G:=hf 5 (by lia);have cp:∀G:DH,Du (gV 0) Cd ZBI [vF,vE (.fl (ns.map D.int)),vE (.int n)] (Cm 0 n) G=.ok (Ce nm n) G:=λG=>Oz λk hk=>by unfold ZBI;simp -implicitDefEqProofs [f5,ZNq hn hk,nm]
 have fz:freeze G (.ok (.ref G.length) (G++[.lst (Ce nm n)]))=.ok (.fl (Ce nm n)) G:=Fb ZQf;have hr:inR (n:Int):=Gu (by lia) (by lia);have hnl:n<=1000000:=by lia
 have eh:h.enc=.tup [.int yr,.tup h.Do]:=rfl;unfold Tv ZKd;rw[Bp];simp -implicitDefEqProofs [Ve,hnl,f0,<-en,hr,Bm,cp,fz,Av,Ga,hL',cy,Ej,Bb,Qs,eh]
noncomputable def thr(c:Int):Nat->Int
 |0=>c
 |j+1=>thr (c/3) j
theorem ZTL{s0 s1 s4 s5 s6 s7 s8 x:Option D}(G:DH):
  ∃y,Bq (gV 11) Sv (Cm 0 5) [s0,s1,s2,vE (.int u),s4,s5,s6,s7,s8,vE (.int c),vE (.ref G.length),x] (G++[.lst []])=.nx [s0,s1,s2,vE (.int u),s4,s5,s6,s7,s8,y,vE (.ref G.length),vE (.int 4)] (G++[.lst (tab 5 λj=>u*(thr c j%3))]):=by
 have hb:∀(c:Int)(acc:List D)(x:Option D),acc.length<=10->Sv [s0,s1,s2,vE (.int u),s4,s5,s6,s7,s8,vE (.int c),vE (.ref G.length),x] (G++[.lst acc])=.nx [s0,s1,s2,vE (.int u),s4,s5,s6,s7,s8,vE (.int (c/3)),vE (.ref G.length),x] (G++[.lst (acc++[.int (u*(c%3))])]):=λc acc x ha=>by
  have m:∀G,Bk (.int u) (.int (c%3)) G=.ok (.int (u*(c%3))) G:=λG=>Ji (by lia) (by lia)
  have hal:acc.length<1000000:=by lia
  unfold Sv ZJr;simp -implicitDefEqProofs [m,Ej,G7,hal]
 have e:Cm 0 5=[.int 0,.int 1,.int 2,.int 3,.int 4]:=rfl;refine⟨vE (.int (c/3/3/3/3/3)),?_⟩;rw[e];simp only[Dg,Ei,Dr,R.Dm,qJ,Ea];rw[hb _ _ _ (by simp)];simp only[Ea,Dg,Ei,Dr,R.Dm,qJ];rw[hb _ _ _ (by simp)];simp only[Ea,Dg,Ei,Dr,R.Dm,qJ];rw[hb _ _ _ (by simp)];simp only[Ea,Dg,Ei,Dr,R.Dm,qJ];rw[hb _ _ _ (by simp)];simp only[Ea,Dg,Ei,Dr,R.Dm,qJ];rw[hb _ _ _ (by simp)]
 simp only[Ea,Dg,Ei,Dr,R.Dm,qJ];simp -implicitDefEqProofs [tab5,thr]
def lvS(h:Hs)(f:Nat->Int)(u:Int)(k:Nat):Int:=match(h.pl k).kd with
 |.basin b _ _=>amt (f (6+12*h.n+k)) u%(b+1)
 |_=>0
def coS(h:Hs)(f:Nat->Int)(u:Int)(k j:Nat):Int:=u*(thr (f (6+12*h.n+h.n+k)) j%3)
theorem ZNc(hu:0<u)(k j:Nat):0<=coS h f u k j:=j3 (by lia) (by lia)
theorem ZS8(g:GoodH h){k:Nat}(hk:k<h.n):0<=lvS h f u k/\(∀b r q,(h.pl k).kd=.basin b r q->lvS h f u k<=b)/\((h.pl k).kd.isB=vH->lvS h f u k=0):=by
 unfold lvS;cases e:(h.pl k).kd with
 |basin b r q=>
  have:=(g.brim k b r q hk e).1
  refine⟨qR _ (by lia),λb' r' q' e'=>?_,λz=>nomatch z⟩
  cases e';show amt (f (6+12*h.n+k)) u%(b+1)<=b;have:=jZ (amt (f (6+12*h.n+k)) u) (show 0<b+1 by lia);lia
 |town a b=>exact⟨qq _,(λ_ _ _ z=>nomatch z),λ_=>rfl⟩
 |mill a=>exact⟨qq _,(λ_ _ _ z=>nomatch z),λ_=>rfl⟩
theorem ZIW(hf:∀k:Nat,k<=1000->∀G,Az [.fl (ns.map D.int),.int k] G=.ok (.int (f k)) G){u:Int}(hu:0<u)(g:GoodH h){s1:Option D}{G:DH}:∀(m k:Nat)(L:DH)(x7 x8 x9 x10 x11:Option D),k+m=h.n->∃L' y7 y8 y9 y10 y11,
  Bq (gV 7) Td (Cm k m) [vE (.fl (ns.map D.int)),s1,vE (.tup h.Do),vE (.int u),vE (.int ((6+12*h.n:Nat):Int)),vE (.ref G.length),vE (.ref (G.length+1)),x7,x8,x9,x10,x11] (G++ .lst (tab k (lvS h f u)):: .lst (Br k (coS h f u))::L)=
   .nx [vE (.fl (ns.map D.int)),s1,vE (.tup h.Do),vE (.int u),vE (.int ((6+12*h.n:Nat):Int)),vE (.ref G.length),vE (.ref (G.length+1)),y7,y8,y9,y10,y11] (G++ .lst (tab h.n (lvS h f u)):: .lst (Br h.n (coS h f u))::L')
 |0,k,L,x7,x8,x9,x10,x11,e=>by
  have e1:k=h.n:=by lia
  subst e1;exact⟨L,x7,x8,x9,x10,x11,by rw[Jy,Ei]⟩
 | m+1,k,L,x7,x8,x9,x10,x11,e=>by
  have hk:k<h.n:=by lia
  have hn:=g.len;let c:Int:=f (6+12*h.n+h.n+k);let G1:DH:=G++ .lst (tab (k+1) (lvS h f u)):: .lst (Br k (coS h f u))::L;obtain⟨y,hR⟩:=ZTL (u:=u) (c:=c) (s0:=vE (.fl (ns.map D.int))) (s1:=s1) (s2:=vE (.tup h.Do)) (s4:=vE (.int ((6+12*h.n:Nat):Int))) (s5:=vE (.ref G.length)) (s6:=vE (.ref (G.length+1))) (s7:=vE (.int k)) (s8:=vE (.int (lvS h f u k))) (x:=x11) G1;obtain⟨L',y7,y8,y9,y10,y11,ih⟩:=ZIW hf hu g m (k+1) (L++[.lst (tab 5 (coS h f u k))]) (s1:=s1) (G:=G) (vE (.int k)) (vE (.int (lvS h f u k))) y (vE (.ref G1.length)) (vE (.int 4)) (by lia)
  refine⟨L',y7,y8,y9,y10,y11,?_⟩;have ap:atI h.Do (k:Int)=vE (h.encP (h.pl k)):=Hs.Fo hk;have c1:∀G,Az [.fl (ns.map D.int),.int (((6+12*h.n:Nat):Int)+(k:Int))] G=.ok (.int (f (6+12*h.n+k))) G:=λG=>by have:=hf (6+12*h.n+k) (by lia) G;rwa[show((6+12*h.n+k:Nat):Int)=((6+12*h.n:Nat):Int)+k by lia]at this
  have c2:∀G,Az [.fl (ns.map D.int),.int (((6+12*h.n:Nat):Int)+(h.n:Int)+(k:Int))] G=.ok (.int c) G:=λG=>by have:=hf (6+12*h.n+h.n+k) (by lia) G;rwa[show((6+12*h.n+h.n+k:Nat):Int)=((6+12*h.n:Nat):Int)+h.n+k by lia]at this
  have hbb:(6+12*h.n:Nat)=(6+12*h.n):=rfl;generalize hB:((6+12*h.n:Nat):Int)=B at c1 c2 hR ih⊢;have t1:∀(H:DH)(x9 x10 x11:Option D),Td [vE (.fl (ns.map D.int)),s1,vE (.tup h.Do),vE (.int u),vE (.int B),vE (.ref G.length),vE (.ref (G.length+1)),vE (.int k),x8,x9,x10,x11] H=Wa [vE (.fl (ns.map D.int)),s1,vE (.tup h.Do),vE (.int u),vE (.int B),vE (.ref G.length),vE (.ref (G.length+1)),vE (.int k),vE (.int (lvS h f u k)),x9,x10,x11] H:=λH x9 x10 x11=>by
   unfold Td ZHS lvS;cases e:(h.pl k).kd with
   |basin b r q=>
    have hb0:=(g.brim k b r q hk e).1;have e4:∀G,Aj (h.encP (h.pl k)) (.int 4) G=.ok (.int b) G:=λG=>by unfold Hs.encP;rw[e];simp -implicitDefEqProofs
    have hb1:0<b+1:=by lia
    have hb2:¬b+1=0:=by lia
    simp -implicitDefEqProofs [ap,Jf,e,Kd.isB,c1,Ls hu,e4,hb1,hb2]
   |town a b=>simp -implicitDefEqProofs [ap,Jf,e,Kd.isB]
   |mill a=>simp -implicitDefEqProofs [ap,Jf,e,Kd.isB]
  have hl1:k<1000000:=by lia
  have et:tab k (lvS h f u)++[.int (lvS h f u k)]=tab (k+1) (lvS h f u):=by simp -implicitDefEqProofs [tab,jw]
  have er:Br k (coS h f u)++[.tup (tab 5 (coS h f u k))]=Br (k+1) (coS h f u):=by simp -implicitDefEqProofs [Br,jw]
  have t2:Wa [vE (.fl (ns.map D.int)),s1,vE (.tup h.Do),vE (.int u),vE (.int B),vE (.ref G.length),vE (.ref (G.length+1)),vE (.int k),vE (.int (lvS h f u k)),x9,x10,x11] (G++ .lst (tab k (lvS h f u)):: .lst (Br k (coS h f u))::L)=Yq [vE (.fl (ns.map D.int)),s1,vE (.tup h.Do),vE (.int u),vE (.int B),vE (.ref G.length),vE (.ref (G.length+1)),vE (.int k),vE (.int (lvS h f u k)),vE (.int c),vE (.ref G1.length),x11] (G1++[.lst []]):=by
   have tn:tidy G1 (.ok (.ref G1.length) (G1++[.lst []]))=.ok (.ref G1.length) (G1++[.lst []]):=Ga rfl;unfold Wa ZGl ZFb;have a1:(sEx (Fi Fq (dV 5) (Ab (dV 8) Ad))) [vE (.fl (ns.map D.int)),s1,vE (.tup h.Do),vE (.int u),vE (.int B),vE (.ref G.length),vE (.ref (G.length+1)),vE (.int k),vE (.int (lvS h f u k)),x9,x10,x11] (G++ .lst (tab k (lvS h f u)):: .lst (Br k (coS h f u))::L)=.nx [vE (.fl (ns.map D.int)),s1,vE (.tup h.Do),vE (.int u),vE (.int B),vE (.ref G.length),vE (.ref (G.length+1)),vE (.int k),vE (.int (lvS h f u k)),x9,x10,x11] G1:=by
    simp -implicitDefEqProofs [Ej,G7,hl1,et,G1]
   rw[Ut,a1,Wt]
   clear_value G1
   simp -implicitDefEqProofs [Hs.Kl,c2,Av,tn]
  have t5:Yq [vE (.fl (ns.map D.int)),s1,vE (.tup h.Do),vE (.int u),vE (.int B),vE (.ref G.length),vE (.ref (G.length+1)),vE (.int k),vE (.int (lvS h f u k)),vE (.int c),vE (.ref G1.length),x11] (G1++[.lst []])=.nx [vE (.fl (ns.map D.int)),s1,vE (.tup h.Do),vE (.int u),vE (.int B),vE (.ref G.length),vE (.ref (G.length+1)),vE (.int k),vE (.int (lvS h f u k)),y,vE (.ref G1.length),vE (.int 4)] (G++ .lst (tab (k+1) (lvS h f u)):: .lst (Br (k+1) (coS h f u))::(L++[.lst (tab 5 (coS h f u k))])):=by
   have hr:inR 5:=Gu (by lia) (by lia);have eC:(tab 5 λj=>u*(thr c j%3))=tab 5 (coS h f u k):=rfl;rw[eC]at hR;unfold Yq;have a1:(Dt (Cy rng1 (Ab (dC (.int 5)) Ad)) (gV 11) Sv) [vE (.fl (ns.map D.int)),s1,vE (.tup h.Do),vE (.int u),vE (.int B),vE (.ref G.length),vE (.ref (G.length+1)),vE (.int k),vE (.int (lvS h f u k)),vE (.int c),vE (.ref G1.length),x11] (G1++[.lst []])=.nx [vE (.fl (ns.map D.int)),s1,vE (.tup h.Do),vE (.int u),vE (.int B),vE (.ref G.length),vE (.ref (G.length+1)),vE (.int k),vE (.int (lvS h f u k)),y,vE (.ref G1.length),vE (.int 4)] (G1++[.lst (tab 5 (coS h f u k))]):=by
    simp -implicitDefEqProofs [hr,hR]
   rw[Ut,a1,Wt];have gl:(G1++[DO.lst (tab 5 (coS h f u k))])[G1.length]?=vE (.lst (tab 5 (coS h f u k))):=by simp -implicitDefEqProofs
   have gc:(G1++[DO.lst (tab 5 (coS h f u k))])[G.length+1]?=vE (.lst (Br k (coS h f u))):=by simp -implicitDefEqProofs [G1]
   have gs:(G1++[DO.lst (tab 5 (coS h f u k))]).set (G.length+1) (.lst (Br (k+1) (coS h f u)))=(G++ .lst (tab (k+1) (lvS h f u)):: .lst (Br (k+1) (coS h f u))::(L++[.lst (tab 5 (coS h f u k))])):=by simp -implicitDefEqProofs [G1]
   generalize G1++[DO.lst (tab 5 (coS h f u k))]=G2 at gl gc gs;unfold ZJ3;simp -implicitDefEqProofs [gl,gc,hl1,er,gs]
  rw[Io,Dg];simp only[Dr,R.Dm,qJ,t1,t2,t5,Ea];have e1:((k:Int)+1)=((k+1:Nat):Int):=by lia
  rw[e1,ih]
theorem ZNu(hf:∀k:Nat,k<=1000->∀G,Az [.fl (ns.map D.int),.int k] G=.ok (.int (f k)) G)(hu:0<u)(cu:∀G,Fj [.fl (ns.map D.int)] G=.ok (.int u) G)(g:GoodH h)(G:DH):
  Us [.fl (ns.map D.int),h.enc] G=.ok (stD h.n (lvS h f u) (coS h f u)) G:=by
 obtain⟨L',y7,y8,y9,y10,y11,hL⟩:=ZIW hf hu g (s1:=vE h.enc) (G:=G) h.n 0 [] vF vF vF vF vF (by lia);have hL':Bq (gV 7) Td (Cm 0 h.n) [vE (.fl (ns.map D.int)),vE h.enc,vE (.tup h.Do),vE (.int u),vE (.int ((6+12*h.n:Nat):Int)),vE (.ref G.length),vE (.ref (G.length+1)),vF,vF,vF,vF,vF] (G++[.lst [],.lst []])=
   .nx [vE (.fl (ns.map D.int)),vE h.enc,vE (.tup h.Do),vE (.int u),vE (.int ((6+12*h.n:Nat):Int)),vE (.ref G.length),vE (.ref (G.length+1)),y7,y8,y9,y10,y11] (G++ .lst (tab h.n (lvS h f u)):: .lst (Br h.n (coS h f u))::L'):=hL
 have hn:=g.len;have m12:∀G,Bk (.int 12) (.int (h.n:Int)) G=.ok (.int (12*(h.n:Int))) G:=λG=>Je (by lia) (by lia)
 have e6:(6+12*(h.n:Int))=((6+12*h.n:Nat):Int):=by lia
 generalize hB:((6+12*h.n:Nat):Int)=B at hL' e6;have fu:freeze G (.ok (.int u) G)=.ok (.int u) G:=Jx rfl;have hr:inR (h.n:Int):=Gu (by lia) (by lia);have t1:tidy (G++[.lst []]) (.ok (.ref (G.length+1)) (G++[.lst [],.lst []]))=.ok (.ref (G.length+1)) (G++[.lst [],.lst []]):=by have:=Ga (G:=G++[.lst []]) (ds:=[]) (L:=[]) rfl;simpa using this
 have g0:(G++ .lst (tab h.n (lvS h f u)):: .lst (Br h.n (coS h f u))::L')[G.length]?=vE (.lst (tab h.n (lvS h f u))):=by simp -implicitDefEqProofs
 have g1:(G++ .lst (tab h.n (lvS h f u)):: .lst (Br h.n (coS h f u))::L')[G.length+1]?=vE (.lst (Br h.n (coS h f u))):=by simp -implicitDefEqProofs
 have tp:tidy G (.ok (stD h.n (lvS h f u) (coS h f u)) (G++ .lst (tab h.n (lvS h f u)):: .lst (Br h.n (coS h f u))::L'))=.ok (stD h.n (lvS h f u) (coS h f u)) G:=Qs (by simp -implicitDefEqProofs [stD,Jj]);generalize G++DO.lst (tab h.n (lvS h f u))::DO.lst (Br h.n (coS h f u))::L'=G2 at hL' g0 g1 tp;unfold stD at tp⊢;unfold Us ZKP;rw[Bp];simp -implicitDefEqProofs [Dy,cu,fu,Hs.Kl,m12,e6,Av,Ga,t1,hr,hL',g0,g1,Bb,tp]
def flS(n:Nat)(f:Nat->Int)(u:Int)(i k:Nat):Int:=amt (f (6+14*n+i*n+k)) u
theorem ZKc{n:Nat}(hu:0<u)(i k:Nat):0<=flS n f u i k:=Uz hu
def Be(n:Nat)(fls:List (Nat->Int)):List D:=fls.map λfl=>.tup (tab n fl)
@[simp]theorem Zf{n:Nat}:bels m (Be n fls)=vG:=G9 λ_ _=>by simp -implicitDefEqProofs
theorem ZIa{o:DO}(h:∀m,bels m ds=vG):freeze (G++[o]) (.ok (.ref (G.length+1)) (G++[o,.lst ds]))=.ok (.fl ds) (G++[o]):=by have:=Fb (G:=G++[o]) (ds:=ds) (L:=[]) (h _);simpa using this
theorem ZP3(hf:∀k:Nat,k<=1000->∀G,Az [.fl (ns.map D.int),.int k] G=.ok (.int (f k)) G)(hu:0<u)(cu:∀G,Fj [.fl (ns.map D.int)] G=.ok (.int u) G){n:Nat}(hi:6+14*n+i*n+n<=1000)(hi2:i<=1000)(hn2:n<=1000){s1 x:Option D}{acc:List D}(ha:acc.length<=1000)(G:DH):
  Ua [vE (.fl (ns.map D.int)),s1,s2,vE (.int n),vE (.int ((6+14*n:Nat):Int)),vE (.ref G.length),vE (.int i),x] (G++[.lst acc])=
   .nx [vE (.fl (ns.map D.int)),s1,s2,vE (.int n),vE (.int ((6+14*n:Nat):Int)),vE (.ref G.length),vE (.int i),vE (.fl (tab n λk=>f (6+14*n+i*n+k)))] (G++[.lst (acc++[.tup (tab n (flS n f u i))])]):=by
 have hal:acc.length<1000000:=by lia
 have mi:∀G,Bk (.int (i:Int)) (.int (n:Int)) G=.ok (.int ((i:Int)*n)) G:=λG=>Je (by lia) (by lia)
 have fu:∀G,freeze G (.ok (.int u) G)=.ok (.int u) G:=λG=>Jx rfl
 have c1:∀G,Du (gV 0) Cd ZCy [vF,vE (.fl (ns.map D.int)),vE (.int n),vE (.int ((6+14*n:Nat):Int)),vE (.int i)] (Cm 0 n) G=.ok (tab n λk=>f (6+14*n+i*n+k)) G:=λG=>
  Oz (F:=λk=>.int (f (6+14*n+i*n+k))) λk hk=>by
   have h1:=hf (6+14*n+i*n+k) (by lia) G;have e1:((6+14*n+i*n+k:Nat):Int)=((6+14*n:Nat):Int)+(i:Int)*n+k:=by rw[jB,jB,Int.natCast_mul]
   rw[e1]at h1;generalize((6+14*n:Nat):Int)=B at h1;unfold ZCy;simp -implicitDefEqProofs [mi,h1]
 have c2:∀G,Du (gV 0) Cd ZA0 [vF,vE (.fl (ns.map D.int))] (tab n λk=>f (6+14*n+i*n+k)) G=.ok (tab n (flS n f u i)) G:=λG=>
  N5 (E:=λk=>.int (f (6+14*n+i*n+k))) (F:=λk=>.int (flS n f u i k)) λk hk=>by unfold ZA0;simp -implicitDefEqProofs [cu,fu,Ls hu,flS]
 have hr:inR (n:Int):=Gu (by lia) (by lia);have cs1:∀a b c d e f' g h:Option D,Bm 1 [0,3,4,6] [a,b,c,d,e,f',g,h]=[vF,a,d,e,g]:=λ_ _ _ _ _ _ _ _=>rfl
 have cs2:∀a b c d e f' g h:Option D,Bm 1 [0] [a,b,c,d,e,f',g,h]=[vF,a]:=λ_ _ _ _ _ _ _ _=>rfl
 have fz1:=ZIa (G:=G) (o:=.lst acc) (ds:=tab n λk=>f (6+14*n+i*n+k)) λ_=>Jj
 have fz2:=ZIa (G:=G) (o:=.lst acc) (ds:=tab n (flS n f u i)) λ_=>Jj
 generalize((6+14*n:Nat):Int)=B at c1;have hnl:n<=1000000:=by lia
 unfold Ua;simp -implicitDefEqProofs [hnl,hr,cs1,cs2,c1,c2,fz1,fz2,Ej,G7,hal]
theorem ZKF(hf:∀k:Nat,k<=1000->∀G,Az [.fl (ns.map D.int),.int k] G=.ok (.int (f k)) G)(hu:0<u)(cu:∀G,Fj [.fl (ns.map D.int)] G=.ok (.int u) G){n t:Nat}(ht:6+14*n+t*n<=1000)(ht2:t<=100)(hn2:n<=1000){s1 s2:Option D}(G:DH):∀(m i:Nat)(x6 x7:Option D),i+m=t->∃y6 y7,
  Bq (gV 6) Ua (Cm i m) [vE (.fl (ns.map D.int)),s1,s2,vE (.int n),vE (.int ((6+14*n:Nat):Int)),vE (.ref G.length),x6,x7] (G++[.lst (Be n ((zZ i).map (flS n f u)))])=
   .nx [vE (.fl (ns.map D.int)),s1,s2,vE (.int n),vE (.int ((6+14*n:Nat):Int)),vE (.ref G.length),y6,y7] (G++[.lst (Be n ((zZ t).map (flS n f u)))])
 |0,i,x6,x7,e=>by
  have e1:i=t:=by lia
  subst e1;exact⟨x6,x7,by rw[Jy,Ei]⟩
 |m+1,i,x6,x7,e=>by
  obtain⟨y6,y7,ih⟩:=ZKF hf hu cu ht ht2 hn2 (s1:=s1) (s2:=s2) G m (i+1) (vE (.int i)) (vE (.fl (tab n λk=>f (6+14*n+i*n+k)))) (by lia);refine⟨y6,y7,?_⟩;have hm:(i+1)*n<=t*n:=Nat.mul_le_mul_right n (by lia);have hm2:(i+1)*n=i*n+n:=Nat.succ_mul i n;have hb:=ZP3 hf hu cu (n:=n) (i:=i) (by lia) (by lia) hn2 (s1:=s1) (s2:=s2) (x:=x7) (acc:=Be n ((zZ i).map (flS n f u))) (by simp -implicitDefEqProofs [Be];lia) G
  have ea:Be n ((zZ i).map (flS n f u))++[.tup (tab n (flS n f u i))]=Be n ((zZ (i+1)).map (flS n f u)):=by simp -implicitDefEqProofs [Be,jw]
  rw[ea]at hb;rw[Io,Dg];simp only[Dr,R.Dm,qJ,hb,Ea];have e1:((i:Int)+1)=((i+1:Nat):Int):=by lia
  rw[e1,ih]
theorem ZTK(hf:∀k:Nat,k<=1000->∀G,Az [.fl (ns.map D.int),.int k] G=.ok (.int (f k)) G)(hu:0<u)(cu:∀G,Fj [.fl (ns.map D.int)] G=.ok (.int u) G)(g:GoodH h){t:Nat}(ht:6+14*h.n+t*h.n<=1000)(ht2:t<=100)(G:DH):
  Th [.fl (ns.map D.int),h.enc,.int t] G=.ok (.ref G.length) (G++[.lst (Be h.n ((zZ t).map (flS h.n f u)))]):=by
 have hn:=g.len;obtain⟨y6,y7,hL⟩:=ZKF hf hu cu ht ht2 (by lia) (s1:=vE h.enc) (s2:=vE (.int t)) G t 0 vF vF (by lia);have hL':Bq (gV 6) Ua (Cm 0 t) [vE (.fl (ns.map D.int)),vE h.enc,vE (.int t),vE (.int h.n),vE (.int ((6+14*h.n:Nat):Int)),vE (.ref G.length),vF,vF] (G++[.lst []])=
   .nx [vE (.fl (ns.map D.int)),vE h.enc,vE (.int t),vE (.int h.n),vE (.int ((6+14*h.n:Nat):Int)),vE (.ref G.length),y6,y7] (G++[.lst (Be h.n ((zZ t).map (flS h.n f u)))]):=hL
 have m14:∀G,Bk (.int 14) (.int (h.n:Int)) G=.ok (.int (14*(h.n:Int))) G:=λG=>Je (by lia) (by lia)
 have e6:(6+14*(h.n:Int))=((6+14*h.n:Nat):Int):=by lia
 generalize hB:((6+14*h.n:Nat):Int)=B at hL' e6;have hr:inR (t:Int):=Gu (by lia) (by lia);unfold Th ZJO;rw[Bp];simp -implicitDefEqProofs [Dy,Hs.Kl,m14,e6,Av,Ga,hr,hL']
theorem ZMB(hf:∀k:Nat,k<=1000->∀G,Az [.fl (ns.map D.int),.int k] G=.ok (.int (f k)) G):∃a:Int,0<=a/\∀G,Qy [.fl (ns.map D.int)] G=.ok (.int a) G:=by
 have h3:∀G,Az [.fl (ns.map D.int),.int 3] G=.ok (.int (f 3)) G:=hf 3 (by lia);have fz:∀G:DH,freeze G (.ok (.ref G.length) (G++[.lst [.int 50,.int 1000000000000000000000000000000000000000]]))=.ok (.fl [.int 50,.int 1000000000000000000000000000000000000000]) G:=λG=>Fb rfl
 rcases(by lia:f 3%2=0∨f 3%2=1)with z|z
 ·refine⟨f 3/2%50,by lia,λG=>?_⟩;unfold Qy ZCS;rw[Bp];simp -implicitDefEqProofs [h3,z,Av,fz,By]
 ·refine⟨f 3/2%1000000000000000000000000000000000000000,by lia,λG=>?_⟩;unfold Qy ZCS;rw[Bp];simp -implicitDefEqProofs [h3,z,Av,fz,By]
noncomputable abbrev St2:=(Nat->Int)×(Nat->Nat->Int)
def Hs.nxt(h:Hs)(s:St2)(a:Int)(fl:Nat->Int):St2:=(lies (h.cs s.1 s.2 a fl).page,(h.cs s.1 s.2 a fl).coming)
def Hs.I8(h:Hs):List (Nat->Int)->St2->Int->St2
 |[],s,_=>s
 |fl::r,s,a=>h.I8 r (h.nxt s a fl) (a+1)
def Hs.G8(h:Hs):List (Nat->Int)->St2->Int->List (Nat->List Int)
 |[],_,_=>[]
 |fl::r,s,a=>(h.cs s.1 s.2 a fl).page::h.G8 r (h.nxt s a fl) (a+1)
theorem Wn:∀{fls:List (Nat->Int)}{s:St2}{a:Int},(h.G8 fls s a).length=fls.length
 |[],_,_=>rfl
 |fl::r,s,a=>by show(h.G8 r (h.nxt s a fl) (a+1)).length+1=r.length+1;rw[Wn]
def pgD(n:Nat)(pg:Nat->List Int):D:=.tup (Dl n pg)
@[simp]theorem ZKv{n:Nat}:bel m (pgD n pg)=vG:=by simp -implicitDefEqProofs [pgD]
@[simp]theorem ZAk{n:Nat}:bels m (pgs.map (pgD n))=vG:=G9 λ_ _=>ZKv
@[simp]theorem X8{n:Nat}:bel m (stD n lv co)=vG:=by simp -implicitDefEqProofs [stD]
theorem ZQb(g:GoodH h)(hc:∀k j,k<h.n->j<5->0<=co k j)(hf:∀k,k<h.n->0<=fl k):(h.cs lv co a fl).NN h.n:=ZJ5 g h.n 0 _ (by lia) (ZJI hc hf)
noncomputable def enS:Int->List D->List D
 |_,[]=>[]
 |a,x::r=>.tup [.int a,x]::enS (a+1) r
theorem ZE4:∀(xs:List D)(a:Int)(j:Nat),(enS a xs)[j]?=xs[j]?.map λx=>.tup [.int (a+j),x]
 |[],a,j=>by simp -implicitDefEqProofs [enS]
 |x::r,a,0=>by simp -implicitDefEqProofs [enS]
 |x::r,a,j+1=>by
  show(enS (a+1) r)[j]?=r[j]?.map _;rw[ZE4 r (a+1) j];have e:a+1+(j:Int)=a+((j+1:Nat):Int):=by lia
  rw[e]
theorem ZKZ:∀(xs:List D)(a:Int),(enS a xs).length=xs.length
 |[],a=>rfl
 |x::r,a=>by show(enS (a+1) r).length+1=r.length+1;rw[ZKZ]
theorem ZFj{g:DG}{b:DS}{xs:List D}:El (Ez a (.fl xs)) g b xs.length 0 S G=Bq g b (enS a xs) S G:=Uo (λj G=>by show vE (xs[j]?.map _)=_;rw[ZE4]) (ZKZ xs a).symm
theorem ZJn(g:GoodH h){s2 s3:Option D}{G:DH}:∀(fls:List (Nat->Int))(s:St2)(a:Int)(acc:List D)(x5 x6 x7:Option D),acc.length+fls.length<=1000->(∀k j,k<h.n->j<5->0<=s.2 k j)->(∀fl∈fls,∀k,k<h.n->0<=fl k)->∃y5 y6 y7,
  Bq (Bg 2 (Am (gV 5) (Am (gV 6) Bj))) Tu (enS a (Be h.n fls)) [vE h.enc,vE (stD h.n s.1 s.2),s2,s3,vE (.ref G.length),x5,x6,x7] (G++[.lst acc])=
   .nx [vE h.enc,vE (stD h.n (h.I8 fls s a).1 (h.I8 fls s a).2),s2,s3,vE (.ref G.length),y5,y6,y7] (G++[.lst (acc++(h.G8 fls s a).map (pgD h.n))])
 |[],s,a,acc,x5,x6,x7,_,_,_=>⟨x5,x6,x7,by show Bq _ _ [] _ _=_;rw[Ei];simp -implicitDefEqProofs [Hs.I8,Hs.G8]⟩
 |fl::r,s,a,acc,x5,x6,x7,hl,hc,hf=>by
  have hf1:=hf fl (by simp);have nn:=ZQb g (lv:=s.1) (fl:=fl) (co:=s.2) (a:=a) hc hf1;simp only[zO]at hl;obtain⟨y5,y6,y7,ih⟩:=ZJn g (s2:=s2) (s3:=s3) (G:=G) r (h.nxt s a fl) (a+1) (acc++[pgD h.n (h.cs s.1 s.2 a fl).page]) (vE (.int a)) (vE (.tup (tab h.n fl))) (vE (pgD h.n (h.cs s.1 s.2 a fl).page)) (by simp;lia) nn.2 (λf' hf'=>hf f' (zX _ hf'));refine⟨y5,y6,y7,?_⟩
  have ct:=ZNC g (lv:=s.1) (fl:=fl) (co:=s.2) (at_:=a) hc hf1;have hal:acc.length<1000000:=by lia
  have hb:Tu [vE h.enc,vE (stD h.n s.1 s.2),s2,s3,vE (.ref G.length),vE (.int a),vE (.tup (tab h.n fl)),x7] (G++[.lst acc])=.nx [vE h.enc,vE (stD h.n (h.nxt s a fl).1 (h.nxt s a fl).2),s2,s3,vE (.ref G.length),vE (.int a),vE (.tup (tab h.n fl)),vE (pgD h.n (h.cs s.1 s.2 a fl).page)] (G++[.lst (acc++[pgD h.n (h.cs s.1 s.2 a fl).page])]):=by unfold Tu;simp -implicitDefEqProofs [ct,Ej,G7,hal,pgD,Hs.nxt]
  show Bq _ _ (.tup [.int a,.tup (tab h.n fl)]::enS (a+1) (Be h.n r)) _ _=_;rw[Dg];simp only[Qt,Qo,Q8,Dr,R.Jo,R.Dm,qJ,hb,Ea,zO,qN,Nat.reduceAdd,if_true];rw[ih];simp -implicitDefEqProofs [Hs.I8,Hs.G8]
theorem ZJC{G':DH}(h:bels G.length ds=vH):tidy G (.ok (.tup ds) G')=.ok (.tup ds) G':=by unfold tidy;simp -implicitDefEqProofs [h]
theorem ZDz(h1:bels G.length ds=vG)(h2:bel G.length e=vG):freeze G (.ok (.tup [.ref G.length,e]) (G++[.lst ds]))=.ok (.tup [.fl ds,e]) G:=by
 unfold freeze;have m:Ff (G++[.lst ds]) G.length 9 (.tup [.ref G.length,e])=vE (.tup [.fl ds,e]):=by
  unfold Ff;have m1:Ff (G++[.lst ds]) G.length 8 (.ref G.length)=vE (.fl ds):=by unfold Ff;simp -implicitDefEqProofs [Wr h1]
  have m2:Ff (G++[.lst ds]) G.length 8 e=vE e:=by unfold Ff;simp -implicitDefEqProofs [h2]
  simp -implicitDefEqProofs [Km,m1,m2]
 simp -implicitDefEqProofs [m]
theorem ZEF(g:GoodH h){s:St2}(hl:fls.length<=1000)(hc:∀k j,k<h.n->j<5->0<=s.2 k j)(hf:∀fl∈fls,∀k,k<h.n->0<=fl k)(G:DH):
  Mq [h.enc,stD h.n s.1 s.2,.int a,.fl (Be h.n fls)] G=.ok (.tup [.ref G.length,stD h.n (h.I8 fls s a).1 (h.I8 fls s a).2]) (G++[.lst ((h.G8 fls s a).map (pgD h.n))]):=by
 obtain⟨y5,y6,y7,hL⟩:=ZJn g (s2:=vE (.int a)) (s3:=vE (.fl (Be h.n fls))) (G:=G) fls s a [] vF vF vF (by simp;lia) hc hf;have hL':El (Ez a (.fl (Be h.n fls))) (Bg 2 (Am (gV 5) (Am (gV 6) Bj))) Tu (Be h.n fls).length 0 [vE h.enc,vE (stD h.n s.1 s.2),vE (.int a),vE (.fl (Be h.n fls)),vE (.ref G.length),vF,vF,vF] (G++[.lst []])=
   .nx [vE h.enc,vE (stD h.n (h.I8 fls s a).1 (h.I8 fls s a).2),vE (.int a),vE (.fl (Be h.n fls)),vE (.ref G.length),y5,y6,y7] (G++[.lst ((h.G8 fls s a).map (pgD h.n))]):=by
  rw[ZFj];exact hL
 have tt:∀e:D,tidy G (.ok (.tup [.ref G.length,e]) (G++[.lst ((h.G8 fls s a).map (pgD h.n))]))=.ok (.tup [.ref G.length,e]) (G++[.lst ((h.G8 fls s a).map (pgD h.n))]):=λe=>ZJC (by simp)
 unfold Mq ZKA;rw[Bp];simp -implicitDefEqProofs [Av,Ga,ZBQ,hL',Bb,tt]
theorem ZNG{n k:Nat}(hk:k<n){b d e f:Int}(e1:pg k=[a,b,c,d,e,f]):atI (Dl n pg) (k:Int)=vE (.tup [.int a,.int b,.int c,.int d,.int e,.int f]):=Fe rfl (by unfold Dl;rw[zx,zL hk];simp[Ky,e1])
def mcell(h:Hs)(f:Nat->Int)(k:Nat):Int:=f (6+24*h.n+k)
def lvM(h:Hs)(f:Nat->Int)(u:Int)(lv:Nat->Int)(k:Nat):Int:=match(h.pl k).kd with
 |.basin b _ _=>lv k+amt (mcell h f k/2) u%(b-lv k+1)*(mcell h f k%2)
 |_=>lv k
def coM(h:Hs)(f:Nat->Int)(u:Int)(co:Nat->Nat->Int)(k j:Nat):Int:=co k j+u*(mcell h f k/2%2)
def flM(h:Hs)(f:Nat->Int)(u:Int)(fl:Nat->Nat->Int)(i k:Nat):Int:=fl i k+amt (f (6+24*h.n+h.n+i*h.n+k)/2) u*(f (6+24*h.n+h.n+i*h.n+k)%2)
theorem ZEV(hx:0<=x):0<=x*(c%2):=j3 hx (by lia)
theorem ZQ6{k:Nat}:tab k F++[.int (F k)]=tab (k+1) F:=by simp -implicitDefEqProofs [tab,jw]
theorem ZQp{k:Nat}:Br k co++[.tup (tab 5 (co k))]=Br (k+1) co:=by simp -implicitDefEqProofs [Br,jw]
theorem ZLv{n k:Nat}(hk:k<n):atI (Br n co) (k:Int)=vE (.tup (tab 5 (co k))):=Fe rfl (by simp -implicitDefEqProofs [Br,hk])
theorem ZPe(h:∀m,bels m ds=vG):freeze (G++[A,B]) (.ok (.ref (G.length+2)) (G++[A,B,.lst ds]))=.ok (.fl ds) (G++[A,B]):=by have:=Fb (G:=G++[A,B]) (ds:=ds) (L:=[]) (h _);simpa using this
theorem ZAn{C:DO}(h:∀m,bels m ds=vG):freeze (G++[A,B,C]) (.ok (.ref (G.length+3)) (G++[A,B,C,.lst ds]))=.ok (.fl ds) (G++[A,B,C]):=by have:=Fb (G:=G++[A,B,C]) (ds:=ds) (L:=[]) (h _);simpa using this
section
variable{ns:List Int}{f:Nat->Int}{u:Int}{h:Hs}
theorem ZM6(hf:∀k:Nat,k<=1000->∀G,Az [.fl (ns.map D.int),.int k] G=.ok (.int (f k)) G)(hu:0<u)(g:GoodH h)(hb:∀k b r q,k<h.n->(h.pl k).kd=.basin b r q->lv k<=b){k:Nat}(hk:k<h.n){s3 x10 x11 x12 s14 s15 s16 s17:Option D}(G:DH):∃y12,
  Rb [vE (.fl (ns.map D.int)),vE h.enc,vE (stD h.n lv co),s3,vE (.int u),vE (.int h.n),vE (.int ((6+24*h.n:Nat):Int)),vE (.ref G.length),vE (.ref (G.length+1)),vE (.int k),x10,x11,x12,s14,s15,s16,s17] (G++[.lst (tab k (lvM h f u lv)),.lst (Br k (coM h f u co))])=
   .nx [vE (.fl (ns.map D.int)),vE h.enc,vE (stD h.n lv co),s3,vE (.int u),vE (.int h.n),vE (.int ((6+24*h.n:Nat):Int)),vE (.ref G.length),vE (.ref (G.length+1)),vE (.int k),vE (.int (mcell h f k)),vE (.int (lvM h f u lv k)),y12,s14,s15,s16,s17] (G++[.lst (tab (k+1) (lvM h f u lv)),.lst (Br (k+1) (coM h f u co))]):=by
 have hn:=g.len;have hc:∀G,Az [.fl (ns.map D.int),.int (((6+24*h.n:Nat):Int)+(k:Int))] G=.ok (.int (mcell h f k)) G:=λG=>by have:=hf (6+24*h.n+k) (by lia) G;rwa[show((6+24*h.n+k:Nat):Int)=((6+24*h.n:Nat):Int)+k by lia]at this
 generalize((6+24*h.n:Nat):Int)=B at hc;have ap:atI h.Do (k:Int)=vE (h.encP (h.pl k)):=Hs.Fo hk;have al:atI (tab h.n lv) (k:Int)=vE (.int (lv k)):=Hg hk;have ar:atI (Br h.n co) (k:Int)=vE (.tup (tab 5 (co k))):=ZLv hk;have mu:∀G,Bk (.int u) (.int (mcell h f k/2%2)) G=.ok (.int (u*(mcell h f k/2%2))) G:=λG=>Ji (by lia) (by lia)
 have cp:∀G,Du (gV 0) Cd ZDQ [vF,vE (.int u),vE (.int (mcell h f k))] (tab 5 (co k)) G=.ok (tab 5 (coM h f u co k)) G:=λG=>N5 (E:=λj=>D.int (co k j)) (F:=λj=>.int (coM h f u co k j)) λj _=>by unfold ZDQ;simp -implicitDefEqProofs [mu,coM]
 have fz:∀ds ds':List D,freeze (G++[.lst ds,.lst ds']) (.ok (.ref (G.length+2)) (G++[.lst ds,.lst ds',.lst (tab 5 (coM h f u co k))]))=.ok (.fl (tab 5 (coM h f u co k))) (G++[.lst ds,.lst ds']):=λds ds'=>ZPe λ_=>Jj
 have hl1:k<1000000:=by lia
 have cs:∀a b c d e f' g h i j k' l m n o p q:Option D,Bm 1 [4,10] [a,b,c,d,e,f',g,h,i,j,k',l,m,n,o,p,q]=[vF,e,k']:=λ_ _ _ _ _ _ _ _ _ _ _ _ _ _ _ _ _=>rfl
 have g0:∀a b:DO,(G++[a,b])[G.length]?=vE a:=λa b=>by simp -implicitDefEqProofs
 have g1:∀a b:DO,(G++[a,b])[G.length+1]?=vE b:=λa b=>by simp -implicitDefEqProofs
 have s0:∀a b c:DO,(G++[a,b]).set G.length c=G++[c,b]:=λa b c=>by simp -implicitDefEqProofs
 have s1:∀a b c:DO,(G++[a,b]).set (G.length+1) c=G++[a,c]:=λa b c=>by simp -implicitDefEqProofs
 have t1:=ZQ6 (k:=k) (F:=lvM h f u lv);have t2:=ZQp (k:=k) (co:=coM h f u co);have et:∀ds:List D,Fy [.fl ds]=λG=>.ok (.tup ds) G:=λds=>rfl
 have hT5:(tab 5 (coM h f u co k)).length<=1000000:=by simp -implicitDefEqProofs
 generalize tab 5 (coM h f u co k)=T5 at cp fz t2 hT5;generalize tab (k+1) (lvM h f u lv)=TL at t1;generalize Br (k+1) (coM h f u co)=RL at t2;have fin:∀y12:Option D,Zk [vE (.fl (ns.map D.int)),vE h.enc,vE (stD h.n lv co),s3,vE (.int u),vE (.int h.n),vE (.int B),vE (.ref G.length),vE (.ref (G.length+1)),vE (.int k),vE (.int (mcell h f k)),vE (.int (lvM h f u lv k)),y12,s14,s15,s16,s17] (G++[.lst (tab k (lvM h f u lv)),.lst (Br k (coM h f u co))])=.nx [vE (.fl (ns.map D.int)),vE h.enc,vE (stD h.n lv co),s3,vE (.int u),vE (.int h.n),vE (.int B),vE (.ref G.length),vE (.ref (G.length+1)),vE (.int k),vE (.int (mcell h f k)),vE (.int (lvM h f u lv k)),y12,s14,s15,s16,s17] (G++[.lst TL,.lst RL]):=λy12=>by
  unfold Zk ZIc stD;simp -implicitDefEqProofs [hT5,g0,g1,s0,s1,hl1,t1,ar,cs,cp,fz,et,t2]
 have mid:∃y12:Option D,∀Γ,V4 [vE (.fl (ns.map D.int)),vE h.enc,vE (stD h.n lv co),s3,vE (.int u),vE (.int h.n),vE (.int B),vE (.ref G.length),vE (.ref (G.length+1)),vE (.int k),vE (.int (mcell h f k)),vE (.int (lv k)),x12,s14,s15,s16,s17] Γ=Zk [vE (.fl (ns.map D.int)),vE h.enc,vE (stD h.n lv co),s3,vE (.int u),vE (.int h.n),vE (.int B),vE (.ref G.length),vE (.ref (G.length+1)),vE (.int k),vE (.int (mcell h f k)),vE (.int (lvM h f u lv k)),y12,s14,s15,s16,s17] Γ:=by
  clear fin fz g0 g1 s0 s1 t1 t2 cp;generalize vE (stD h.n lv co)=S2;cases ek:(h.pl k).kd with
  |basin b r q=>
   have hbl:=hb k b r q hk ek;have hv:lvM h f u lv k=lv k+amt (mcell h f k/2) u%(b-lv k+1)*(mcell h f k%2):=by unfold lvM;rw[ek]
   have e4:∀G,Aj (h.encP (h.pl k)) (.int 4) G=.ok (.int b) G:=λG=>by unfold Hs.encP;rw[ek];simp -implicitDefEqProofs
   have r0:0<b-lv k+1:=by lia
   have m2:∀x G,Bk (.int x) (.int (mcell h f k%2)) G=.ok (.int (x*(mcell h f k%2))) G:=λx G=>Ji (by lia) (by lia)
   have om:∀x G,Bo (.int x) (.int (b-lv k+1)) G=.ok (.int (x%(b-lv k+1))) G:=λx G=>by simp -implicitDefEqProofs [r0]
   refine⟨vE (.int (b-lv k+1)),λΓ=>?_⟩;rw[hv];unfold V4;simp -implicitDefEqProofs [Dy,ap,Jf,ek,Kd.isB,e4,Ls hu,om,m2]
  |town a b=>
   have hv:lvM h f u lv k=lv k:=by unfold lvM;rw[ek]
   refine⟨x12,λΓ=>?_⟩;rw[hv];unfold V4;simp -implicitDefEqProofs [Dy,ap,Jf,ek,Kd.isB]
  |mill a=>
   have hv:lvM h f u lv k=lv k:=by unfold lvM;rw[ek]
   refine⟨x12,λΓ=>?_⟩;rw[hv];unfold V4;simp -implicitDefEqProofs [Dy,ap,Jf,ek,Kd.isB]
 obtain⟨y12,hm⟩:=mid;refine⟨y12,?_⟩;have fm:=(hm _).trans (fin y12);clear fin hm;have st:stD h.n lv co=.tup [.tup (tab h.n lv),.tup (Br h.n co)]:=rfl;rw[st]at fm⊢;generalize(G++[.lst (tab k (lvM h f u lv)),.lst (Br k (coM h f u co))])=Γ at fm⊢;unfold Rb ZE3;simp -implicitDefEqProofs [hc,al,fm]
theorem ZIF(hf:∀k:Nat,k<=1000->∀G,Az [.fl (ns.map D.int),.int k] G=.ok (.int (f k)) G)(hu:0<u)(g:GoodH h){co:Nat->Nat->Int}(hb:∀k b r q,k<h.n->(h.pl k).kd=.basin b r q->lv k<=b){s3 s14 s15 s16 s17:Option D}(G:DH):∀(m k:Nat)(x9 x10 x11 x12:Option D),k+m=h.n->∃y9 y10 y11 y12,
  Bq (gV 9) Rb (Cm k m) [vE (.fl (ns.map D.int)),vE h.enc,vE (stD h.n lv co),s3,vE (.int u),vE (.int h.n),vE (.int ((6+24*h.n:Nat):Int)),vE (.ref G.length),vE (.ref (G.length+1)),x9,x10,x11,x12,s14,s15,s16,s17] (G++[.lst (tab k (lvM h f u lv)),.lst (Br k (coM h f u co))])=
   .nx [vE (.fl (ns.map D.int)),vE h.enc,vE (stD h.n lv co),s3,vE (.int u),vE (.int h.n),vE (.int ((6+24*h.n:Nat):Int)),vE (.ref G.length),vE (.ref (G.length+1)),y9,y10,y11,y12,s14,s15,s16,s17] (G++[.lst (tab h.n (lvM h f u lv)),.lst (Br h.n (coM h f u co))])
 |0,k,x9,x10,x11,x12,e=>by
  have e1:k=h.n:=by lia
  subst e1;exact⟨x9,x10,x11,x12,by rw[Jy,Ei]⟩
 |m+1,k,x9,x10,x11,x12,e=>by
  obtain⟨z12,hb1⟩:=ZM6 hf hu g hb (k:=k) (by lia) (s3:=s3) (x10:=x10) (x11:=x11) (x12:=x12) (s14:=s14) (s15:=s15) (s16:=s16) (s17:=s17) (co:=co) G;obtain⟨y9,y10,y11,y12,ih⟩:=ZIF hf hu g hb (s3:=s3) (s14:=s14) (s15:=s15) (s16:=s16) (s17:=s17) (co:=co) G m (k+1) (vE (.int k)) (vE (.int (mcell h f k))) (vE (.int (lvM h f u lv k))) z12 (by lia);refine⟨y9,y10,y11,y12,?_⟩;rw[Io,Dg];simp only[Dr,R.Dm,qJ,hb1,Ea]
  have e1:((k:Int)+1)=((k+1:Nat):Int):=by lia
  rw[e1,ih]
theorem ZLu(hf:∀k:Nat,k<=1000->∀G,Az [.fl (ns.map D.int),.int k] G=.ok (.int (f k)) G)(hu:0<u)(g:GoodH h){fl:Nat->Nat->Int}{t:Nat}(hi:i<t)(ht:t<=6){s7 s8 s9 s10 s11 s12 s14 x16 x17:Option D}{acc:List D}(ha:acc.length<=100)(G:DH):∃y16 y17,
  Ue [vE (.fl (ns.map D.int)),vE h.enc,s2,vE (.fl (Be h.n ((zZ t).map fl))),vE (.int u),vE (.int h.n),vE (.int ((6+24*h.n:Nat):Int)),s7,s8,s9,s10,s11,s12,vE (.ref (G.length+2)),vE (.int i),x16,x17] (G++[A,B,.lst acc])=
   .nx [vE (.fl (ns.map D.int)),vE h.enc,s2,vE (.fl (Be h.n ((zZ t).map fl))),vE (.int u),vE (.int h.n),vE (.int ((6+24*h.n:Nat):Int)),s7,s8,s9,s10,s11,s12,vE (.ref (G.length+2)),vE (.int i),y16,y17] (G++[A,B,.lst (acc++[.tup (tab h.n (flM h f u fl i))])]):=by
 have hn:=g.len;have hin:i*h.n<=6*12:=jU (by lia) hn;have mi:∀G,Bk (.int (i:Int)) (.int (h.n:Int)) G=.ok (.int ((i:Int)*h.n)) G:=λG=>Je (by lia) (by lia)
 have c3:∀G,Du (gV 0) Cd ZBF [vF,vE (.fl (ns.map D.int)),vE (.int h.n),vE (.int ((6+24*h.n:Nat):Int)),vE (.int i)] (Cm 0 h.n) G=.ok (tab h.n λk=>f (6+24*h.n+h.n+i*h.n+k)) G:=λG=>
  Oz (F:=λk=>.int (f (6+24*h.n+h.n+i*h.n+k))) λk hk=>by
   have h1:=hf (6+24*h.n+h.n+i*h.n+k) (by lia) G;have e1:((6+24*h.n+h.n+i*h.n+k:Nat):Int)=((6+24*h.n:Nat):Int)+(h.n:Int)+(i:Int)*h.n+k:=by rw[jB,jB,jB,Int.natCast_mul]
   rw[e1]at h1;generalize((6+24*h.n:Nat):Int)=B at h1;unfold ZBF;simp -implicitDefEqProofs [mi,h1]
 have c4:∀G,Du (gV 0) Cd ZCs [vF,vE (.int u)] (tab h.n λk=>f (6+24*h.n+h.n+i*h.n+k)) G=.ok (tab h.n λk=>amt (f (6+24*h.n+h.n+i*h.n+k)/2) u*(f (6+24*h.n+h.n+i*h.n+k)%2)) G:=λG=>
  N5 (E:=λk=>.int (f (6+24*h.n+h.n+i*h.n+k))) (F:=λk=>.int (amt (f (6+24*h.n+h.n+i*h.n+k)/2) u*(f (6+24*h.n+h.n+i*h.n+k)%2))) λk _=>by
   generalize f (6+24*h.n+h.n+i*h.n+k)=c;have m2:∀x G,Bk (.int x) (.int (c%2)) G=.ok (.int (x*(c%2))) G:=λx G=>Ji (by lia) (by lia)
   unfold ZCs;simp -implicitDefEqProofs [Ls hu,m2]
 have af:atI (Be h.n ((zZ t).map fl)) (i:Int)=vE (.tup (tab h.n (fl i))):=Fe rfl (by simp -implicitDefEqProofs [Be,hi]);have c5:∀G,Du (gV 0) Cd ZD8 [vF,vE (.fl (Be h.n ((zZ t).map fl))),vE (.int i),vE (.fl (tab h.n λk=>amt (f (6+24*h.n+h.n+i*h.n+k)/2) u*(f (6+24*h.n+h.n+i*h.n+k)%2)))] (Cm 0 h.n) G=.ok (tab h.n (flM h f u fl i)) G:=λG=>
  Oz (F:=λk=>.int (flM h f u fl i k)) λk hk=>by have a1:atI (tab h.n (fl i)) (k:Int)=vE (.int (fl i k)):=Hg hk;have a2:atI (tab h.n λk=>amt (f (6+24*h.n+h.n+i*h.n+k)/2) u*(f (6+24*h.n+h.n+i*h.n+k)%2)) (k:Int)=vE (.int (amt (f (6+24*h.n+h.n+i*h.n+k)/2) u*(f (6+24*h.n+h.n+i*h.n+k)%2))):=Hg hk;unfold ZD8;simp -implicitDefEqProofs [af,a1,a2,flM]
 have hr:inR (h.n:Int):=Gu (by lia) (by lia);have cs3:∀a b c d e f' g h i j k' l m n o p q:Option D,Bm 1 [0,5,6,14] [a,b,c,d,e,f',g,h,i,j,k',l,m,n,o,p,q]=[vF,a,f',g,o]:=λ_ _ _ _ _ _ _ _ _ _ _ _ _ _ _ _ _=>rfl
 have cs4:∀a b c d e f' g h i j k' l m n o p q:Option D,Bm 1 [4] [a,b,c,d,e,f',g,h,i,j,k',l,m,n,o,p,q]=[vF,e]:=λ_ _ _ _ _ _ _ _ _ _ _ _ _ _ _ _ _=>rfl
 have cs5:∀a b c d e f' g h i j k' l m n o p q:Option D,Bm 1 [3,14,16] [a,b,c,d,e,f',g,h,i,j,k',l,m,n,o,p,q]=[vF,d,o,q]:=λ_ _ _ _ _ _ _ _ _ _ _ _ _ _ _ _ _=>rfl
 have fz3:=ZAn (G:=G) (A:=A) (B:=B) (C:=.lst acc) (ds:=tab h.n λk=>f (6+24*h.n+h.n+i*h.n+k)) λ_=>Jj
 have fz4:=ZAn (G:=G) (A:=A) (B:=B) (C:=.lst acc) (ds:=tab h.n λk=>amt (f (6+24*h.n+h.n+i*h.n+k)/2) u*(f (6+24*h.n+h.n+i*h.n+k)%2)) λ_=>Jj
 have fz5:=ZAn (G:=G) (A:=A) (B:=B) (C:=.lst acc) (ds:=tab h.n (flM h f u fl i)) λ_=>Jj
 have g2:(G++[A,B,.lst acc])[G.length+2]?=vE (.lst acc):=by simp -implicitDefEqProofs
 have s2:∀c:DO,(G++[A,B,.lst acc]).set (G.length+2) c=G++[A,B,c]:=λc=>by simp -implicitDefEqProofs
 have hal:acc.length<1000000:=by lia
 refine⟨vE (.fl (tab h.n λk=>f (6+24*h.n+h.n+i*h.n+k))),vE (.fl (tab h.n λk=>amt (f (6+24*h.n+h.n+i*h.n+k)/2) u*(f (6+24*h.n+h.n+i*h.n+k)%2))),?_⟩;generalize((6+24*h.n:Nat):Int)=BB at c3;have l4:(tab h.n λk=>amt (f (6+24*h.n+h.n+i*h.n+k)/2) u*(f (6+24*h.n+h.n+i*h.n+k)%2)).length<=1000000:=by simp;lia
 have l3:(tab h.n λk=>f (6+24*h.n+h.n+i*h.n+k)).length<=1000000:=by simp;lia
 have l5:(tab h.n (flM h f u fl i)).length<=1000000:=by simp;lia
 generalize(tab h.n λk=>amt (f (6+24*h.n+h.n+i*h.n+k)/2) u*(f (6+24*h.n+h.n+i*h.n+k)%2))=T4 at c4 c5 fz4 l4;generalize(tab h.n λk=>f (6+24*h.n+h.n+i*h.n+k))=T3 at c3 c4 fz3 l3;generalize tab h.n (flM h f u fl i)=T5 at c5 fz5 l5;unfold Ue ZI0 ZFv;simp -implicitDefEqProofs [l3,l4,l5,hr,cs3,cs4,cs5,c3,c4,c5,fz3,fz4,fz5,g2,s2,hal]
theorem ZE7(hf:∀k:Nat,k<=1000->∀G,Az [.fl (ns.map D.int),.int k] G=.ok (.int (f k)) G)(hu:0<u)(g:GoodH h){fl:Nat->Nat->Int}{t:Nat}(ht:t<=6){s2 s7 s8 s9 s10 s11 s12:Option D}{A B:DO}(G:DH):∀(m i:Nat)(x15 x16 x17:Option D),i+m=t->∃y15 y16 y17,
  Bq (gV 14) Ue (Cm i m) [vE (.fl (ns.map D.int)),vE h.enc,s2,vE (.fl (Be h.n ((zZ t).map fl))),vE (.int u),vE (.int h.n),vE (.int ((6+24*h.n:Nat):Int)),s7,s8,s9,s10,s11,s12,vE (.ref (G.length+2)),x15,x16,x17] (G++[A,B,.lst (Be h.n ((zZ i).map (flM h f u fl)))])=
   .nx [vE (.fl (ns.map D.int)),vE h.enc,s2,vE (.fl (Be h.n ((zZ t).map fl))),vE (.int u),vE (.int h.n),vE (.int ((6+24*h.n:Nat):Int)),s7,s8,s9,s10,s11,s12,vE (.ref (G.length+2)),y15,y16,y17] (G++[A,B,.lst (Be h.n ((zZ t).map (flM h f u fl)))])
 |0,i,x15,x16,x17,e=>by
  have e1:i=t:=by lia
  subst e1;exact⟨x15,x16,x17,by rw[Jy,Ei]⟩
 |m+1,i,x15,x16,x17,e=>by
  obtain⟨z16,z17,hb⟩:=ZLu hf hu g (fl:=fl) (t:=t) (i:=i) (by lia) ht (s2:=s2) (s7:=s7) (s8:=s8) (s9:=s9) (s10:=s10) (s11:=s11) (s12:=s12) (s14:=vF) (x16:=x16) (x17:=x17) (A:=A) (B:=B) (acc:=Be h.n ((zZ i).map (flM h f u fl))) (by simp -implicitDefEqProofs [Be];lia) G;obtain⟨y15,y16,y17,ih⟩:=ZE7 hf hu g (fl:=fl) ht (s2:=s2) (s7:=s7) (s8:=s8) (s9:=s9) (s10:=s10) (s11:=s11) (s12:=s12) (A:=A) (B:=B) G m (i+1) (vE (.int i)) z16 z17 (by lia)
  refine⟨y15,y16,y17,?_⟩;have ea:Be h.n ((zZ i).map (flM h f u fl))++[.tup (tab h.n (flM h f u fl i))]=Be h.n ((zZ (i+1)).map (flM h f u fl)):=by simp -implicitDefEqProofs [Be,jw]
  rw[ea]at hb;rw[Io,Dg];simp only[Dr,R.Dm,qJ,hb,Ea];have e1:((i:Int)+1)=((i+1:Nat):Int):=by lia
  rw[e1,ih]
theorem ZMg(h1:bels G.length ds=vG)(h2:bel G.length e=vG):freeze G (.ok (.tup [e,.ref (G.length+2)]) (G++[A,B,.lst ds]))=.ok (.tup [e,.fl ds]) G:=by
 unfold freeze;have m:Ff (G++[A,B,.lst ds]) G.length 9 (.tup [e,.ref (G.length+2)])=vE (.tup [e,.fl ds]):=by
  unfold Ff;have m1:Ff (G++[A,B,.lst ds]) G.length 8 (.ref (G.length+2))=vE (.fl ds):=by unfold Ff;simp -implicitDefEqProofs [Wr h1]
  have m2:Ff (G++[A,B,.lst ds]) G.length 8 e=vE e:=by unfold Ff;simp -implicitDefEqProofs [h2]
  simp -implicitDefEqProofs [Km,m1,m2]
 simp -implicitDefEqProofs [m]
theorem ZTP(hf:∀k:Nat,k<=1000->∀G,Az [.fl (ns.map D.int),.int k] G=.ok (.int (f k)) G)(hu:0<u)(cu:∀G,Fj [.fl (ns.map D.int)] G=.ok (.int u) G)(g:GoodH h)(hb:∀k b r q,k<h.n->(h.pl k).kd=.basin b r q->lv k<=b){fl:Nat->Nat->Int}{t:Nat}(ht:t<=6)(G:DH):
  freeze G (R9 [.fl (ns.map D.int),h.enc,stD h.n lv co,.fl (Be h.n ((zZ t).map fl))] G)=.ok (.tup [stD h.n (lvM h f u lv) (coM h f u co),.fl (Be h.n ((zZ t).map (flM h f u fl)))]) G:=by
 have hn:=g.len;obtain⟨y9,y10,y11,y12,h1⟩:=ZIF hf hu g hb (co:=co) (s3:=vE (.fl (Be h.n ((zZ t).map fl)))) (s14:=vF) (s15:=vF) (s16:=vF) (s17:=vF) G h.n 0 vF vF vF vF (by lia);obtain⟨y15,y16,y17,h2⟩:=ZE7 hf hu g (fl:=fl) ht (s2:=vE (stD h.n lv co)) (s7:=vE (.ref G.length)) (s8:=vE (.ref (G.length+1))) (s9:=y9) (s10:=y10) (s11:=y11) (s12:=y12) (A:=.lst (tab h.n (lvM h f u lv))) (B:=.lst (Br h.n (coM h f u co))) G t 0 vF vF vF (by lia)
 have h1':Bq (gV 9) Rb (Cm 0 h.n) [vE (.fl (ns.map D.int)),vE h.enc,vE (stD h.n lv co),vE (.fl (Be h.n ((zZ t).map fl))),vE (.int u),vE (.int h.n),vE (.int ((6+24*h.n:Nat):Int)),vE (.ref G.length),vE (.ref (G.length+1)),vF,vF,vF,vF,vF,vF,vF,vF] (G++[.lst [],.lst []])=_:=h1;have h2':Bq (gV 14) Ue (Cm 0 t) [vE (.fl (ns.map D.int)),vE h.enc,vE (stD h.n lv co),vE (.fl (Be h.n ((zZ t).map fl))),vE (.int u),vE (.int h.n),vE (.int ((6+24*h.n:Nat):Int)),vE (.ref G.length),vE (.ref (G.length+1)),y9,y10,y11,y12,vE (.ref (G.length+2)),vF,vF,vF] (G++[.lst (tab h.n (lvM h f u lv)),.lst (Br h.n (coM h f u co)),.lst []])=_:=h2
 have m24:∀G,Bk (.int 24) (.int (h.n:Int)) G=.ok (.int (24*(h.n:Int))) G:=λG=>Je (by lia) (by lia)
 have e6:(6+24*(h.n:Int))=((6+24*h.n:Nat):Int):=by lia
 have fu:freeze G (.ok (.int u) G)=.ok (.int u) G:=Jx rfl;have hr:inR (h.n:Int):=Gu (by lia) (by lia);have hrt:inR (t:Int):=Gu (by lia) (by lia);have t1:tidy (G++[.lst []]) (.ok (.ref (G.length+1)) (G++[.lst [],.lst []]))=.ok (.ref (G.length+1)) (G++[.lst [],.lst []]):=ZIq rfl;have t2:∀A B:DO,tidy (G++[A,B]) (.ok (.ref (G.length+2)) (G++[A,B,.lst []]))=.ok (.ref (G.length+2)) (G++[A,B,.lst []]):=λA B=>by have:=Ga (G:=G++[A,B]) (ds:=[]) (L:=[]) rfl;simpa using this
 have lfl:(Be h.n ((zZ t).map fl)).length=t:=by simp -implicitDefEqProofs [Be]
 have fm:=ZMg (G:=G) (A:=.lst (tab h.n (lvM h f u lv))) (B:=.lst (Br h.n (coM h f u co))) (ds:=Be h.n ((zZ t).map (flM h f u fl))) (e:=stD h.n (lvM h f u lv) (coM h f u co)) Zf X8;have g0:∀b c:DO,(G++[.lst (tab h.n (lvM h f u lv)),b,c])[G.length]?=vE (.lst (tab h.n (lvM h f u lv))):=λb c=>by simp -implicitDefEqProofs
 have g1:∀a c:DO,(G++[a,.lst (Br h.n (coM h f u co)),c])[G.length+1]?=vE (.lst (Br h.n (coM h f u co))):=λa c=>by simp -implicitDefEqProofs
 have tt:∀(e:D)(G':DH),tidy G (.ok (.tup [e,.ref (G.length+2)]) G')=.ok (.tup [e,.ref (G.length+2)]) G':=λe G'=>ZJC (by simp)
 have cm:R9 [.fl (ns.map D.int),h.enc,stD h.n lv co,.fl (Be h.n ((zZ t).map fl))] G=.ok (.tup [stD h.n (lvM h f u lv) (coM h f u co),.ref (G.length+2)]) (G++[.lst (tab h.n (lvM h f u lv)),.lst (Br h.n (coM h f u co)),.lst (Be h.n ((zZ t).map (flM h f u fl)))]):=by
  generalize((6+24*h.n:Nat):Int)=BB at h1' h2' e6;generalize Be h.n ((zZ t).map (flM h f u fl))=F2 at h2';generalize Be h.n ((zZ t).map fl)=F1 at h1' h2' lfl;generalize stD h.n lv co=E0 at h1' h2';unfold stD;generalize tab h.n (lvM h f u lv)=TL at h1' h2' g0;generalize Br h.n (coM h f u co)=RL at h1' h2' g1;unfold R9 ZJB;rw[Bp];simp -implicitDefEqProofs [cu,fu,Dy,Hs.Kl,m24,e6,Av,Ga,t1,hr,h1',t2,lfl,hrt,h2',g0,g1,Bb,tt]
 rw[cm,fm]
end
theorem ZKf{te:DE}{n:Nat}{E1 E2 F:Nat->D}{d:D}(hd:Cj d G=vE ((zZ n).map E1))(he:Cj e G=vE ((zZ n).map E2))(h:∀k,k<n->te [vE (E1 k),vE (E2 k)] G=.ok (F k) G):
  Dw (Gz [d,e]) (Bg 2 (Am (gV 0) (Am (gV 1) Bj))) Cd te (Bm 2 [] S) n 0 G=.ok ((zZ n).map F) G:=by
 have hf:∀j,Gz [d,e] j G=vE ((zZ n).map λi=>D.tup [E1 i,E2 i])[j]? :=λj=>by
  rw[ZB4 hd he,Oq,List.zip_map',qF]
  rfl
 have hc:Bm 2 [] S=[vF,vF]:=rfl;rw[hc];have key:∀m j,j+m=n->Dw (Gz [d,e]) (Bg 2 (Am (gV 0) (Am (gV 1) Bj))) Cd te [vF,vF] m j G=.ok ((List.range' j m).map F) G:=by
  intro m
  induction m with
  |zero=>
   intro j hj;unfold Dw;rw[hf,zA (by simp;lia)]
   rfl
  |succ m ih=>
   intro j hj;have hlt:j<n:=by lia
   unfold Dw;rw[hf,zx,zL hlt];have hg:(Bg 2 (Am (gV 0) (Am (gV 1) Bj))) (.tup [E1 j,E2 j]) [vF,vF] G=.ok [vE (E1 j),vE (E2 j)] G:=by simp
   simp only[Option.map_some,hg,R.Jo,ZGC,if_true,h j hlt,ih (j+1) (by lia)];rw[List.range'_succ,zk]
 have:=key n 0 (by lia);rw[this,List.range_eq_range']
def leN(n:Nat)(a b:Nat->Int):Bool:=(zZ n).all λk=>decide (a k<=b k)
def Nt(w m:Nat)(A:Nat->Nat->Int):List D:=(zZ m).map λi=>D.tup (tab w (A i))
@[simp]theorem ZOz{w:Nat}{A:Nat->Nat->Int}:(Nt w m A).length=m:=by simp[Nt]
def leR(w m:Nat)(A B:Nat->Nat->Int):Bool:=(zZ m).all λi=>leN w (A i) (B i)
theorem ZJi{n:Nat}{p:Nat->Bool}:((zZ n).map λk=>D.bl (p k))=((zZ n).map p).map D.bl:=by rw[qF];rfl
theorem ZKQ{ks:List Bool}:bels m (ks.map D.bl)=vG:=G9 λ_ _=>rfl
theorem ZF8{n:Nat}{a b:Nat->Int}(hn:n<=1000)(G:DH):Tf [.tup (tab n a),.tup (tab n b)] G=.ok (.bl (leN n a b)) G:=by
 have hz:=Vi (G:=G) (M5 (xs:=tab n a)) (M5 (xs:=tab n b));rw[ZQo]at hz;have hc:=ZKf (te:=ZDv) (S:=[vE (.tup (tab n a)),vE (.tup (tab n b))]) (n:=n) (E1:=λi=>.int (a i)) (E2:=λi=>.int (b i)) (F:=λk=>.bl (decide (a k<=b k))) (G:=G) (M5 (xs:=tab n a)) (M5 (xs:=tab n b)) λk _=>by unfold ZDv;simp
 rw[ZJi]at hc;have ha:((zZ n).map λk=>decide (a k<=b k)).all id=leN n a b:=by rw[List.all_map];rfl
 have hl:((zZ n).map λk=>decide (a k<=b k)).length<=1000000:=by simp;lia
 generalize((zZ n).map λk=>decide (a k<=b k))=ks at hc ha hl;have fz:freeze G (.ok (.ref G.length) (G++[.lst (ks.map D.bl)]))=.ok (.fl (ks.map D.bl)) G:=Fb ZKQ;unfold Tf ZEf;rw[Bp];simp[hz,hc,hl,fz,ha,By]
theorem ZKX{w m':Nat}{A B:Nat->Nat->Int}(hw:w<=1000)(hm:m<=1000){d:D}(hd:Cj d G=vE (Nt w m A))(he:Cj e G=vE (Nt w m' B))(ld:Cz [d] G=.ok (.int m) G)(le':Cz [e] G=.ok (.int m') G):
  Nk [d,e] G=.ok (.bl (decide (m=m')&&leR w m A B)) G:=by
 by_cases h:m=m'
 ·subst h;have hz:=Vi (G:=G) hd he;rw[ZOz]at hz;have hc:=ZKf (te:=ZBO) (S:=[vE d,vE e]) (n:=m) (E1:=λi=>.tup (tab w (A i))) (E2:=λi=>.tup (tab w (B i))) (F:=λk=>.bl (leN w (A k) (B k))) (G:=G) hd he λk _=>by unfold ZBO;simp[ZF8 hw]
  rw[ZJi]at hc;have ha:((zZ m).map λk=>leN w (A k) (B k)).all id=leR w m A B:=by rw[List.all_map];rfl
  have hl:((zZ m).map λk=>leN w (A k) (B k)).length<=1000000:=by simp;lia
  generalize((zZ m).map λk=>leN w (A k) (B k))=ks at hc ha hl;have fz:freeze G (.ok (.ref G.length) (G++[.lst (ks.map D.bl)]))=.ok (.fl (ks.map D.bl)) G:=Fb ZKQ;unfold Nk ZBD;rw[Bp];simp[ld,le',hz,hc,hl,fz,ha,By]
 ·have h2:¬(m:Int)=(m':Int):=by lia
  unfold Nk ZBD;rw[Bp];simp[ld,le',h,h2,By]
theorem ZM9{n:Nat}(hn:n<=1000)(G:DH):Ws [stD n lv co,stD n lv' co'] G=.ok (.bl (leN n lv lv'&&leR 5 n co co')) G:=by
 have h1:=ZF8 hn (a:=lv) (b:=lv') G;have h2:=ZKX (w:=5) (m:=n) (m':=n) (A:=co) (B:=co') (by lia) hn (d:=.tup (Br n co)) (e:=.tup (Br n co')) (G:=G) rfl rfl (by simp) (by simp);simp at h2;unfold stD Ws ZEb;rw[Bp]
 cases e:leN n lv lv'<;>simp[h1,h2,e,By]
theorem ZJu{n:Nat}:Be n fls=Nt n fls.length λi=>fls.getD i λ_=>0:=by
 refine qA (by simp[Be,Nt]) λi h1 h2=>?_
 have hi:i<fls.length:=by simpa[Be]using h1
 simp[Be,Nt,zD,hi]
theorem ZMn{n:Nat}(hn:n<=1000)(hl:fls.length<=1000)(G:DH):Nk [.fl (Be n fls),.fl (Be n fls')] G=.ok (.bl (decide (fls.length=fls'.length)&&leR n fls.length (λi=>fls.getD i λ_=>0) λi=>fls'.getD i λ_=>0)) G:=
 ZKX hn hl (by rw[ZJu];rfl) (by rw[ZJu];rfl) (by simp[Be]) (by simp[Be])
theorem ZM4{n:Nat}:okD 29 (.fl (Be n fls))=vG:=ZJf (n:=28) λd hd=>by
 obtain⟨fl,_,rfl⟩:=zH.mp hd;refine ZIr (n:=27) λd hd=>?_
 obtain⟨x,_,rfl⟩:=zH.mp hd
 rfl
theorem ZSz{n:Nat}{l l':List (Nat->Int)}:okD 30 (.fl [.fl (Be n l),.fl (Be n l')])=vG:=ZJf (n:=29) λd hd=>by
 simp at hd
 rcases hd with rfl|rfl<;>exact ZM4
noncomputable def wt:Nat->Str
 |1=>"took"
 |2=>"spilled"
 |3=>"let"
 |4=>"pumped"
 |_=>"lies"
def snT(b:Bool):Str:=if b=vG then "least" else "most"
def byd(b:Bool)(x m:Int):Bool:=if b=vG then decide (x<m)else decide (m<x)
theorem Qn:(snT b="least")=(b=vG):=by cases b<;>simp -implicitDefEqProofs [snT]<;>decide
theorem Yi:(snT b="most")=(b=vH):=by cases b<;>simp -implicitDefEqProofs [snT]<;>decide
def Dk(c p:Nat)(b:Bool)(m:Int):D:=.tup [.str (wt c),.int p,.str (snT b),.int m]
@[simp]theorem ZPW{c:Nat}{m:Int}{k:Nat}:bel k (Dk c p b m)=vG:=rfl
theorem ZL7{m:Int}(G:DH):Y0 [.int x,.str (snT b),.int m] G=.ok (.bl (byd b x m)) G:=by
 unfold Y0 ZEj;rw[Bp]
 cases b<;>simp -implicitDefEqProofs [Qn,byd,By]
theorem five{P:Nat->Prop}{c:Nat}(h1:1<=c)(h2:c<=5)(a:P 1)(b:P 2)(d:P 3)(e:P 4)(f:P 5):P c:=by rcases(by lia:c=1∨c=2∨c=3∨c=4∨c=5)with rfl|rfl|rfl|rfl|rfl<;>assumption
noncomputable def prt:List (Str×D):=[("lies",.int 5),("spilled",.int 2),("let",.int 3),("pumped",.int 4),("took",.int 1)]
theorem ZRN{c:Nat}(h1:1<=c)(h2:c<=5):Il (Ik [] (prt.map λkv=>(.inr kv.1,kv.2))) (.inr (wt c))=vE (.int c):=five (P:=λc=>Il (Ik [] (prt.map λkv=>(.inr kv.1,kv.2))) (.inr (wt c))=vE (.int c)) h1 h2 rfl rfl rfl rfl rfl
theorem ZEi{kvs:List (Str×D)}{x:Str}{v:D}(h:Il (Ik [] (kvs.map λkv=>(.inr kv.1,kv.2))) (.inr x)=vE v)(hb:bel G.length v=vG):tidy G ((sRt (dOp Mh (Ur kvs) (dV 0)) [vE (.str x)] G).ret)=.ok v G:=by
 have e:Mh (.ref G.length) (.str x) (G++[.dct (Ik [] (kvs.map λkv=>(.inr kv.1,kv.2)))])=.ok v (G++[.dct (Ik [] (kvs.map λkv=>(.inr kv.1,kv.2)))]):=by rw[ZQ3 (kvs:=Ik [] (kvs.map λkv=>(.inr kv.1,kv.2))) (by simp) rfl,h]
 simp -implicitDefEqProofs [e,Qs,hb]
theorem ZOs{c:Nat}(h1:1<=c)(h2:c<=5)(G:DH):W3 [.str (wt c)] G=.ok (.int c) G:=by unfold W3 ZE5;rw[Bp];exact ZEi (kvs:=prt) (ZRN h1 h2) rfl
def Fv(b:Bool)(m:Int):List Int->Nat->Option (Nat×Int)
 |[],_=>vF
 |x::r,k=>if byd b x m=vG then vE (k,x)else Fv b m r (k+1)
def Df(b:Bool)(r:List Int)(x:Int):Int:=if b=vG then r.foldl min x else r.foldl max x
def Fp(b:Bool)(m:Int)(xs:List Int):D:=match Fv b m xs 0 with
 |some (i,x)=>.tup [.str "broken",.int i,.int x]
 |none=>match xs with
  |[]=>.tup [.str "kept",.non,.non]
  |x::r=>.tup [.str "kept",.int ((x::r).idxOf (Df b r x):Nat),.int (Df b r x)]
theorem ZDL{f:Int->Int->Int}(hf:∀a b,f a b=a∨f a b=b):∀(r:List Int)(x:Int),r.foldl f x∈x::r
 |[],x=>by simp -implicitDefEqProofs
 | y::r,x=>by
  have:=ZDL hf r (f x y);rw[jV];rcases zw.mp this with h|h
  ·rcases hf x y with e|e
   ·rw[h,e];simp -implicitDefEqProofs
   ·rw[h,e];simp -implicitDefEqProofs
  ·simp -implicitDefEqProofs [h]
theorem ZOI{r:List Int}:Df b r x∈x::r:=by
 unfold Df;cases b
 ·exact ZDL (λa b=>by lia) r x
 ·exact ZDL (λa b=>by lia) r x
theorem ZFr{b:Bool}{m:Int}{s0 s1 s2 s3 s6 s7 s10:Option D}{G:DH}:∀(xs:List Int)(k:Nat)(x8 x9:Option D),∃y8 y9,
  Bq (Bg 2 (Am (gV 8) (Am (gV 9) Bj))) M3 (enS k (xs.map D.int)) [s0,s1,s2,s3,vE (.str (snT b)),vE (.int m),s6,s7,x8,x9,s10] G=
   match Fv b m xs k with
   |some (i,x)=>.rt (.tup [.str "broken",.int i,.int x]) G
   |none=>.nx [s0,s1,s2,s3,vE (.str (snT b)),vE (.int m),s6,s7,y8,y9,s10] G
 |[],k,x8,x9=>⟨x8,x9,by show Bq _ _ [] _ _=_;rw[Ei];rfl⟩
 | x::r,k,x8,x9=>by
  obtain⟨y8,y9,ih⟩:=ZFr (b:=b) (m:=m) (s0:=s0) (s1:=s1) (s2:=s2) (s3:=s3) (s6:=s6) (s7:=s7) (s10:=s10) (G:=G) r (k+1) (vE (.int k)) (vE (.int x));refine⟨y8,y9,?_⟩;have e1:((k:Int)+1)=((k+1:Nat):Int):=by lia
  show Bq _ _ (.tup [.int k,.int x]::enS ((k:Int)+1) (r.map D.int)) _ _=_;rw[Dg,e1];have hb:M3 [s0,s1,s2,s3,vE (.str (snT b)),vE (.int m),s6,s7,vE (.int k),vE (.int x),s10] G=if byd b x m=vG then .rt (.tup [.str "broken",.int k,.int x]) G else .nx [s0,s1,s2,s3,vE (.str (snT b)),vE (.int m),s6,s7,vE (.int k),vE (.int x),s10] G:=by
   unfold M3
   cases e:byd b x m<;>simp -implicitDefEqProofs [ZL7,e,Bb]
  simp only[Qt,Qo,Q8,Dr,R.Jo,R.Dm,qJ,hb,zO,qN,Nat.reduceAdd,if_true];unfold Fv;cases e:byd b x m with
  |true=>simp -implicitDefEqProofs
  |false=>simp only[jx,if_false,Ea,ih]
noncomputable def Gr(pgs:List (Nat->List Int))(p c:Nat):List Int:=pgs.map λpg=>(pg p).getD c 0
abbrev Row6(h:Hs)(pg:Nat->List Int):Prop:=∀k,k<h.n->(pg k).length=6
theorem run6(g:GoodH h):∀(fls:List (Nat->Int))(s:St2)(a:Int),∀pg∈h.G8 fls s a,Row6 h pg
 |[],s,a,pg,hp=>nomatch hp
 |fl::r,s,a,pg,hp=>by
  rcases zw.mp hp with rfl|hp
  ·exact ZA9 g h.n 0 _ (by lia) λi hi hd=>by
    unfold Hs.done at hd
    split at hd<;>lia
  ·exact run6 g r _ _ pg hp
theorem ZHP(po:Row6 h pg){c:Nat}(hp:p<h.n)(h1:1<=c)(h2:c<=5)(G:DH):∃t,atI (Dl h.n pg) (p:Int)=vE (.tup t)/\atI t (c:Int)=vE (.int ((pg p).getD c 0)):=by obtain⟨a,b,d,e,f,g,er⟩:=row6 (po p hp);refine⟨_,ZNG hp er,?_⟩;rw[er];exact five (P:=λc=>atI [D.int a,.int b,.int d,.int e,.int f,.int g] (c:Int)=vE (.int ([a,b,d,e,f,g].getD c 0))) h1 h2 rfl rfl rfl rfl rfl
theorem ZCe{m:Int}{k:Nat}:bel k (Fp b m xs)=vG:=by
 unfold Fp;split
 ·rfl
 ·split <;> rfl
theorem ZSv(hl:pgs.length<=1000)(po:∀pg∈pgs,Row6 h pg){c:Nat}(hp:p<h.n)(h1:1<=c)(h2:c<=5){m:Int}(G:DH):
  Xg [.fl (pgs.map (pgD h.n)),Dk c p b m] G=.ok (Fp b m (Gr pgs p c)) G:=by
 have cp:Du (gV 0) Cd Zu [vF,vE (.int p),vE (.int c)] (pgs.map (pgD h.n)) G=.ok ((Gr pgs p c).map D.int) G:=by
  have:=N5 (te:=Zu) (S:=[vF,vE (.int p),vE (.int c)]) (E:=pgD h.n) (F:=λpg=>.int ((pg p).getD c 0)) (G:=G) (l:=pgs) λpg hpg=>by obtain⟨t,e1,e2⟩:=ZHP (po pg hpg) hp h1 h2 G;unfold Zu pgD;simp -implicitDefEqProofs [e1,e2]
  rw[this,Gr,qF]
  rfl
 have hn:(Gr pgs p c).length=pgs.length:=by simp -implicitDefEqProofs [Gr]
 generalize Gr pgs p c=xs at cp hn;have hx:xs.length<=1000000:=by lia
 obtain⟨y8,y9,hL⟩:=ZFr (b:=b) (m:=m) (s0:=vE (.fl (pgs.map (pgD h.n)))) (s1:=vE (Dk c p b m)) (s2:=vE (.str (wt c))) (s3:=vE (.int p)) (s6:=vE (.int c)) (s7:=vE (.fl (xs.map D.int))) (s10:=vF) (G:=G) xs 0 vF vF
 have hL':El (Ez 0 (.fl (xs.map D.int))) (Bg 2 (Am (gV 8) (Am (gV 9) Bj))) M3 xs.length 0 [vE (.fl (pgs.map (pgD h.n))),vE (Dk c p b m),vE (.str (wt c)),vE (.int p),vE (.str (snT b)),vE (.int m),vE (.int c),vE (.fl (xs.map D.int)),vF,vF,vF] G=(match Fv b m xs 0 with
   |some (i,x)=>.rt (.tup [.str "broken",.int i,.int x]) G
   |none=>.nx [vE (.fl (pgs.map (pgD h.n))),vE (Dk c p b m),vE (.str (wt c)),vE (.int p),vE (.str (snT b)),vE (.int m),vE (.int c),vE (.fl (xs.map D.int)),y8,y9,vF] G):=by
  have:=ZFj (g:=Bg 2 (Am (gV 8) (Am (gV 9) Bj))) (b:=M3) (xs:=xs.map D.int) (a:=0) (S:=[vE (.fl (pgs.map (pgD h.n))),vE (Dk c p b m),vE (.str (wt c)),vE (.int p),vE (.str (snT b)),vE (.int m),vE (.int c),vE (.fl (xs.map D.int)),vF,vF,vF]) (G:=G);rw[qQ]at this;rw[this];exact hL
 have fz:freeze G (.ok (.ref G.length) (G++[.lst (xs.map D.int)]))=.ok (.fl (xs.map D.int)) G:=Fb (G9 λ_ _=>rfl);have cpt:=ZOs h1 h2;have hpl:pgs.length<=1000000:=by lia
 have ea:Dk c p b m=.tup [.str (wt c),.int p,.str (snT b),.int m]:=rfl;have hlP:(pgs.map (pgD h.n)).length<=1000000:=by simp;exact hpl
 have hlX:(xs.map D.int).length=xs.length:=by simp -implicitDefEqProofs
 have pre:ZAE [vE (.fl (pgs.map (pgD h.n))),vE (Dk c p b m),vF,vF,vF,vF,vF,vF,vF,vF,vF] G=Tz [vE (.fl (pgs.map (pgD h.n))),vE (Dk c p b m),vE (.str (wt c)),vE (.int p),vE (.str (snT b)),vE (.int m),vE (.int c),vE (.fl (xs.map D.int)),vF,vF,vF] G:=by
  generalize pgs.map (pgD h.n)=PG at cp hlP;have hX6:(xs.map D.int).length<=1000000:=by simp;lia
  generalize xs.map D.int=X at cp fz hX6;unfold ZAE ZFD ZEm;simp -implicitDefEqProofs [ea,cpt,Bm,cp,fz,hlP,hX6]
 have lp:Tz [vE (.fl (pgs.map (pgD h.n))),vE (Dk c p b m),vE (.str (wt c)),vE (.int p),vE (.str (snT b)),vE (.int m),vE (.int c),vE (.fl (xs.map D.int)),vF,vF,vF] G=(match Fv b m xs 0 with
   |some (i,x)=>.rt (.tup [.str "broken",.int i,.int x]) G
   |none=>Zd [vE (.fl (pgs.map (pgD h.n))),vE (Dk c p b m),vE (.str (wt c)),vE (.int p),vE (.str (snT b)),vE (.int m),vE (.int c),vE (.fl (xs.map D.int)),y8,y9,vF] G):=by
  unfold Tz;generalize pgs.map (pgD h.n)=PG at hL';generalize Dk c p b m=AK at hL';generalize xs.map D.int=X at hL' hlX;simp only[<-hlX]at hL';rw[Ut];have e:(Dt (Cy Ie (Ab (dV 7) Ad)) (Bg 2 (Am (gV 8) (Am (gV 9) Bj))) M3) [vE (.fl PG),vE AK,vE (.str (wt c)),vE (.int p),vE (.str (snT b)),vE (.int m),vE (.int c),vE (.fl X),vF,vF,vF] G=_:=(by simp:_=El (Ez 0 (.fl X)) (Bg 2 (Am (gV 8) (Am (gV 9) Bj))) M3 X.length 0 [vE (.fl PG),vE AK,vE (.str (wt c)),vE (.int p),vE (.str (snT b)),vE (.int m),vE (.int c),vE (.fl X),vF,vF,vF] G).trans hL'
  rw[e];cases Fv b m xs 0 with
  |some q=>rfl
  |none=>rfl
 have bA:bel G.length (Fp b m xs)=vG:=ZCe;have go:Tz [vE (.fl (pgs.map (pgD h.n))),vE (Dk c p b m),vE (.str (wt c)),vE (.int p),vE (.str (snT b)),vE (.int m),vE (.int c),vE (.fl (xs.map D.int)),vF,vF,vF] G=.rt (Fp b m xs) G:=by
  rw[lp];unfold Fp;cases hF:Fv b m xs 0 with
  |some q=>rfl
  | none=>
   generalize pgs.map (pgD h.n)=PG;generalize Dk c p b m=AK;cases xs with
   |nil=>
    unfold Zd;simp -implicitDefEqProofs [Bb]
   | cons x r=>
    have mm:Df b r x∈x::r:=ZOI;have ix:∀G,Mg (.fl ((x::r).map D.int)) [.int (Df b r x)] G=.ok (.int ((x::r).idxOf (Df b r x):Nat)) G:=λG=>ZIK rfl mm hx
    have mn:∀G,K7 [.fl ((x::r).map D.int)] G=.ok (.int (r.foldl min x)) G:=λG=>ZKG rfl
    have mx:∀G,Jt [.fl ((x::r).map D.int)] G=.ok (.int (r.foldl max x)) G:=λG=>ZHz rfl
    have l0:¬((x::r).map D.int)=[]:=by simp -implicitDefEqProofs
    dsimp only;have bl:Df b r x=if b=vG then r.foldl min x else r.foldl max x:=rfl
    generalize(((x::r).idxOf (Df b r x):Nat):Int)=I at ix⊢;generalize(x::r).map D.int=X at*;have t5:dIf (Ax (dOp Cv (dV 4) (dC (.str "least")))) (dFn K7 (Ab (dV 7) Ad)) (dFn Jt (Ab (dV 7) Ad)) [vE (.fl PG),vE AK,vE (.str (wt c)),vE (.int p),vE (.str (snT b)),vE (.int m),vE (.int c),vE (.fl X),y8,y9,vF] G=.ok (.int (Df b r x)) G:=by
     rw[bl]
     cases b<;>simp -implicitDefEqProofs [Qn,mn,mx]
    generalize Df b r x=B at*;unfold Zd ZHN ZH5;generalize dIf (Ax (dOp Cv (dV 4) (dC (.str "least")))) (dFn K7 (Ab (dV 7) Ad)) (dFn Jt (Ab (dV 7) Ad))=te at t5;simp -implicitDefEqProofs [l0,t5,ix,Bb]
 unfold Xg;rw[Bp];show tidy G ((ZAE [vE (.fl (pgs.map (pgD h.n))),vE (Dk c p b m),vF,vF,vF,vF,vF,vF,vF,vF,vF] G).ret)=_;rw[pre,go];exact By bA
theorem ZMG(G:DH):Rx (.str (snT b)) (.tup [.str "least",.str "most"]) G=.ok (.bl vH) G:=by cases b<;>rfl
noncomputable def knd:List (Str×Str):=[("lies","basin"),("spilled","basin"),("let","basin"),("pumped","basin"),("took","town")]
def knT(c:Nat):Str:=if c=1 then "town" else "basin"
theorem ZOj{c:Nat}(h1:1<=c)(h2:c<=5):knd.lookup (wt c)=vE (knT c):=five (P:=λc=>knd.lookup (wt c)=vE (knT c)) h1 h2 rfl rfl rfl rfl rfl
theorem ZNA{c:Nat}(hp:p<h.n)(h1:1<=c)(h2:c<=5)(hk:(h.pl p).kd.txt=knT c){m:Int}(G:DH):Ww [h.enc,Dk c p b m] G=.ok .non G:=by
 have e:=ZOj h1 h2;have g1:Qa knd (.str (wt c)) G=.ok (.str (knT c)) G:=ZRW e;have ea:Dk c p b m=.tup [.str (wt c),.int p,.str (snT b),.int m]:=rfl;have eb:ZH9=(Ah (sAs (dV 1) (Bg 4 (Am (gV 2) (Am (gV 3) (Am (gV 4) (Am (gV 5) Bj)))))) (Ah (sIf (dOr (Ax (dOp Rx (dV 4) (dC (.tup [.str "least",.str "most"])))) (Ax (dUn (Tw knd) (dV 2)))) La sNx) (Ah (sIf (Jc (Ax (Qq Nz Hm (dC (.int 0)) (dV 3) (dFn Cz (Ab (dOp Aj (dV 0) (dC (.int 1))) Ad))))) La sNx) (sIf (Ax (dOp Hi (dOp Aj (dOp Aj (dOp Aj (dV 0) (dC (.int 1))) (dV 3)) (dC (.int 0))) (dUn (Qa knd) (dV 2)))) La sNx)))):=rfl
 unfold Ww;rw[Bp,eb];generalize knd=M at e g1;simp -implicitDefEqProofs [ea,ZMG,e,g1,Dy,Hs.Kl,hp,Hs.Fo hp,hk,By]
theorem ZL8{n:Nat}(hn:n<=1000)(hl:fls.length<=1000)(u1:(leN n lv lv'&&leR 5 n co co')=vG)
  (u2:(decide (fls.length=fls'.length)&&leR n fls.length (λi=>fls.getD i λ_=>0) λi=>fls'.getD i λ_=>0)=vG) (G:DH):X3 [stD n lv co,stD n lv' co',.fl (Be n fls),.fl (Be n fls')] G=.ok .non G:=by
 have h1:=ZM9 hn (lv:=lv) (lv':=lv') (co:=co) (co':=co') G;have h2:=ZMn hn (fls:=fls) (fls':=fls') hl G;rw[u1]at h1;rw[u2]at h2;unfold X3 ZFL;rw[Bp];simp -implicitDefEqProofs [h1,h2,By]
theorem ZMe{n c:Nat}{m:Int}(G:DH):
  Yg [stD n lv co,stD n lv' co',.fl (Be n fls),.fl (Be n fls'),Dk c p b m] G=.ok (.tup [stD n (if b=vG then lv else lv') (if b=vG then co else co'),.fl (Be n (if b=vG then fls else fls'))]) G:=by
 have ea:Dk c p b m=.tup [.str (wt c),.int p,.str (snT b),.int m]:=rfl;unfold Yg ZHW;rw[Bp]
 cases b<;>simp -implicitDefEqProofs [ea,Qn,Bb,By]
theorem ZMR(g:GoodH h)(hl:fls.length<=1000)(hll:fls'.length<=1000){c:Nat}(hp:p<h.n)(h1:1<=c)(h2:c<=5)(hk:(h.pl p).kd.txt=knT c){m:Int}
  (u1:(leN h.n lv lv'&&leR 5 h.n co co')=vG) (u2:(decide (fls.length=fls'.length)&&leR h.n fls.length (λi=>fls.getD i λ_=>0) λi=>fls'.getD i λ_=>0)=vG)
  (s1:∀k j,k<h.n->j<5->0<=co k j) (s2:∀k j,k<h.n->j<5->0<=co' k j) (f1:∀fl∈fls,∀k,k<h.n->0<=fl k) (f2:∀fl∈fls',∀k,k<h.n->0<=fl k) (G:DH):
  U4 [h.enc,stD h.n lv co,stD h.n lv' co',.int a,.fl (Be h.n fls),.fl (Be h.n fls'),Dk c p b m] G=
   .ok (Fp b m (Gr (h.G8 (if b=vG then fls else fls') (if b=vG then lv else lv',if b=vG then co else co') a) p c)) G:=by
 have hn:=g.len
 have st:∀k j,k<h.n->j<5->0<=(if b=vG then co else co') k j:=by cases b<;>assumption
 have ff:∀fl∈(if b=vG then fls else fls'),∀k,k<h.n->0<=fl k:=by cases b<;>assumption
 have lf:(if b=vG then fls else fls').length<=1000:=by cases b<;>assumption
 have c1:=ZNA hp h1 h2 hk (b:=b) (m:=m) G;have c2:=ZL8 (by lia) hl u1 u2 G;have c3:=ZMe (n:=h.n) (c:=c) (p:=p) (b:=b) (m:=m) (lv:=lv) (lv':=lv') (co:=co) (co':=co') (fls:=fls) (fls':=fls') G;generalize(if b=vG then lv else lv')=L at c3⊢;generalize(if b=vG then co else co')=C at st c3⊢;generalize(if b=vG then fls else fls')=F at ff lf c3⊢;have c4:=ZEF g (s:=(L,C)) (a:=a) lf st ff G;have po:=run6 g F (L,C) a
 have c5:=ZSv (pgs:=h.G8 F (L,C) a) (by rw[Wn];exact lf) po hp h1 h2 (b:=b) (m:=m) G;have fr:=ZDz (G:=G) (ds:=(h.G8 F (L,C) a).map (pgD h.n)) (e:=stD h.n (h.I8 F (L,C) a).1 (h.I8 F (L,C) a).2) ZAk X8;have bA:∀k,bel k (Fp b m (Gr (h.G8 F (L,C) a) p c))=vG:=λk=>ZCe
 generalize Fp b m (Gr (h.G8 F (L,C) a) p c)=R at c5 bA⊢;generalize(h.G8 F (L,C) a).map (pgD h.n)=PG at c4 c5 fr;unfold U4 ZIj;rw[Bp];simp -implicitDefEqProofs [c1,c2,c3,c4,fr,c5,By,bA]
def R4:Option (Nat×Nat×Bool×Int)->D
 |none=>.non
 |some (c,p,b,m)=>Dk c p b m
theorem ZLm(hf:∀k:Nat,k<=1000->∀G,Az [.fl (ns.map D.int),.int k] G=.ok (.int (f k)) G)(hu:0<u)(cu:∀G,Fj [.fl (ns.map D.int)] G=.ok (.int u) G)(g:GoodH h)(h1:1<=h.n)(k:Nat):
  ∃o:Option (Nat×Nat×Bool×Int),(∀c p b m,o=vE (c,p,b,m)->1<=c/\c<=5/\p<h.n/\(h.pl p).kd.txt=knT c)/\
   ∀(x5 x6 x7 x8 x9:Option D)(G:DH),∃y5 y6 y7 y8 y9,Qc [vE (.fl (ns.map D.int)),vE h.enc,vE (.int h.n),vE (.int ((6+20*h.n:Nat):Int)),vE (.int k),x5,x6,x7,x8,x9] G=
    match o with
    |some _=>.rt (R4 o) G
    |none=>.nx [vE (.fl (ns.map D.int)),vE h.enc,vE (.int h.n),vE (.int ((6+20*h.n:Nat):Int)),vE (.int k),y5,y6,y7,y8,y9] G:=by
 have hn:=g.len;have q0:∀G,Az [.fl (ns.map D.int),.int ((6+20*h.n:Nat):Int)] G=.ok (.int (f (6+20*h.n))) G:=hf _ (by lia);have q1:∀G,Az [.fl (ns.map D.int),.int (((6+20*h.n:Nat):Int)+1)] G=.ok (.int (f (6+20*h.n+1))) G:=λG=>by have:=hf (6+20*h.n+1) (by lia) G;rwa[show((6+20*h.n+1:Nat):Int)=((6+20*h.n:Nat):Int)+1 by lia]at this
 have q2:∀G,Az [.fl (ns.map D.int),.int (((6+20*h.n:Nat):Int)+2)] G=.ok (.int (f (6+20*h.n+2))) G:=λG=>by have:=hf (6+20*h.n+2) (by lia) G;rwa[show((6+20*h.n+2:Nat):Int)=((6+20*h.n:Nat):Int)+2 by lia]at this
 generalize((6+20*h.n:Nat):Int)=B at q0 q1 q2;generalize f (6+20*h.n)=v0 at q0;generalize f (6+20*h.n+1)=v1 at q1;generalize f (6+20*h.n+2)=v2 at q2;have hn0:0<(h.n:Int):=by lia
 have hn0':0<h.n:=by lia
 have e0:=qR (v0+k) (show(h.n:Int)≠0 by lia);have e1:=jZ (v0+k) hn0;obtain⟨p,hp⟩:∃p:Nat,(v0+k)%(h.n:Int)=p:=⟨((v0+k)%(h.n:Int)).toNat,by lia⟩;have hpl:p<h.n:=by lia
 have ap:=Hs.Fo hpl;have eH:∀G,Aj h.enc (.int 1) G=.ok (.tup h.Do) G:=λG=>Dy
 have fu:∀G,freeze G (.ok (.int u) G)=.ok (.int u) G:=λG=>Jx rfl
 have fz4:∀G:DH,freeze G (.ok (.ref G.length) (G++[.lst [.str "lies",.str "spilled",.str "let",.str "pumped"]]))=.ok (.fl [.str "lies",.str "spilled",.str "let",.str "pumped"]) G:=λG=>Fb rfl
 have fz2:∀G:DH,freeze G (.ok (.ref G.length) (G++[.lst [.str "least",.str "most"]]))=.ok (.fl [.str "least",.str "most"]) G:=λG=>Fb rfl
 obtain⟨c,hc1,hc2,a4⟩:∃c:Nat,2<=c/\c<=5/\atI [D.str "lies",.str "spilled",.str "let",.str "pumped"] (v1%4)=vE (.str (wt c)):=by
  rcases(by lia:v1%4=0∨v1%4=1∨v1%4=2∨v1%4=3)with z|z|z|z<;>rw[z]
  ·exact⟨5,by lia,by lia,rfl⟩
  ·exact⟨2,by lia,by lia,rfl⟩
  ·exact⟨3,by lia,by lia,rfl⟩
  ·exact⟨4,by lia,by lia,rfl⟩
 obtain⟨b,a2⟩:∃b:Bool,atI [D.str "least",.str "most"] (v2%2)=vE (.str (snT b)):=by
  rcases(by lia:v2%2=0∨v2%2=1)with z|z<;>rw[z]
  ·exact⟨vG,rfl⟩
  ·exact⟨vH,rfl⟩
 have pre:∀(x5 x6 x7 x8 x9:Option D)(G:DH),Qc [vE (.fl (ns.map D.int)),vE h.enc,vE (.int h.n),vE (.int B),vE (.int k),x5,x6,x7,x8,x9] G=Pk [vE (.fl (ns.map D.int)),vE h.enc,vE (.int h.n),vE (.int B),vE (.int k),vE (.int p),vE (.str (h.pl p).kd.txt),vE (.str "took"),x8,x9] G:=λx5 x6 x7 x8 x9 G=>by generalize h.enc=HE at*;unfold Qc ZFk ZKT;simp -implicitDefEqProofs [q0,hn0,hn0',hp,eH,ap]
 have fin:∀(w s:Str)(x8 x9:Option D)(G:DH),¬s="mill"->T9 [vE (.fl (ns.map D.int)),vE h.enc,vE (.int h.n),vE (.int B),vE (.int k),vE (.int p),vE (.str s),vE (.str w),x8,x9] G=.rt (.tup [.str w,.int p,.str (snT b),.int (amt (v2/4) u-v2/2%2)]) G:=λw s x8 x9 G hs=>by generalize h.enc=HE at*;unfold T9;simp -implicitDefEqProofs [hs,q2,Av,fz2,a2,cu,fu,Ls hu,Bb]
 cases ek:(h.pl p).kd with
 | basin b' r q=>
  have et:(h.pl p).kd.txt="basin":=by rw[ek];rfl
  refine⟨vE (c,p,b,amt (v2/4) u-v2/2%2),?_,λx5 x6 x7 x8 x9 G=>⟨x5,x6,x7,x8,x9,?_⟩⟩
  ·intro c' p' b' m' e;cases e;exact⟨by lia,by lia,hpl,by rw[et];unfold knT;rw[if_neg (by lia)]⟩
  ·rw[pre,et];have m3:Pk [vE (.fl (ns.map D.int)),vE h.enc,vE (.int h.n),vE (.int B),vE (.int k),vE (.int p),vE (.str "basin"),vE (.str "took"),x8,x9] G=T9 [vE (.fl (ns.map D.int)),vE h.enc,vE (.int h.n),vE (.int B),vE (.int k),vE (.int p),vE (.str "basin"),vE (.str (wt c)),x8,x9] G:=by generalize h.enc=HE at*;unfold Pk;simp -implicitDefEqProofs [q1,Av,fz4,a4]
   rw[m3,fin _ _ _ _ _ (by decide)]
   rfl
 | town a' b'=>
  have et:(h.pl p).kd.txt="town":=by rw[ek];rfl
  have n2:¬("town":Str)="basin":=by decide
  refine⟨vE (1,p,b,amt (v2/4) u-v2/2%2),?_,λx5 x6 x7 x8 x9 G=>⟨x5,x6,x7,x8,x9,?_⟩⟩
  ·intro c' p' b' m' e;cases e;exact⟨by lia,by lia,hpl,by rw[et];rfl⟩
  ·rw[pre,et];unfold Pk;generalize h.enc=HE at*;simp -implicitDefEqProofs [n2,fin _ "town" _ _ _ (by decide)]
   rfl
 |mill a'=>
  have et:(h.pl p).kd.txt="mill":=by rw[ek];rfl
  have n2:¬("mill":Str)="basin":=by decide
  refine⟨vF,(λc' p' b' m' e=>nomatch e),λx5 x6 x7 x8 x9 G=>⟨vE (.int p),vE (.str "mill"),vE (.str "took"),x8,x9,?_⟩⟩
  rw[pre,et];unfold Pk T9;simp -implicitDefEqProofs [n2]
theorem ZJW(hf:∀k:Nat,k<=1000->∀G,Az [.fl (ns.map D.int),.int k] G=.ok (.int (f k)) G)(hu:0<u)(cu:∀G,Fj [.fl (ns.map D.int)] G=.ok (.int u) G)(g:GoodH h)(h1:1<=h.n):∀(m k:Nat),
  ∃o:Option (Nat×Nat×Bool×Int),(∀c p b m,o=vE (c,p,b,m)->1<=c/\c<=5/\p<h.n/\(h.pl p).kd.txt=knT c)/\
   ∀(x4 x5 x6 x7 x8 x9:Option D)(G:DH),∃y4 y5 y6 y7 y8 y9,Bq (gV 4) Qc (Cm k m) [vE (.fl (ns.map D.int)),vE h.enc,vE (.int h.n),vE (.int ((6+20*h.n:Nat):Int)),x4,x5,x6,x7,x8,x9] G=
    match o with
    |some _=>.rt (R4 o) G
    |none=>.nx [vE (.fl (ns.map D.int)),vE h.enc,vE (.int h.n),vE (.int ((6+20*h.n:Nat):Int)),y4,y5,y6,y7,y8,y9] G
 |0,k=>⟨vF,(λ_ _ _ _ e=>nomatch e),λx4 x5 x6 x7 x8 x9 G=>⟨x4,x5,x6,x7,x8,x9,by rw[Jy,Ei]⟩⟩
 | m+1,k=>by
  obtain⟨o,ho,hb⟩:=ZLm hf hu cu g h1 k;cases o with
  |some q=>
   refine⟨vE q,ho,λx4 x5 x6 x7 x8 x9 G=>?_⟩;obtain⟨y5,y6,y7,y8,y9,e⟩:=hb x5 x6 x7 x8 x9 G;refine⟨x4,x5,x6,x7,x8,x9,?_⟩;rw[Io,Dg];simp only[Dr,R.Dm,qJ,e]
   rfl
  |none=>
   obtain⟨o,ho,hi⟩:=ZJW hf hu cu g h1 m (k+1);refine⟨o,ho,λx4 x5 x6 x7 x8 x9 G=>?_⟩;obtain⟨y5,y6,y7,y8,y9,e⟩:=hb x5 x6 x7 x8 x9 G;obtain⟨z4,z5,z6,z7,z8,z9,e2⟩:=hi (vE (.int k)) y5 y6 y7 y8 y9 G;refine⟨z4,z5,z6,z7,z8,z9,?_⟩;have e1:((k:Int)+1)=((k+1:Nat):Int):=by lia
   rw[Io,Dg];simp only[Dr,R.Dm,qJ,e,Ea,e1,e2]
theorem ZM5(hf:∀k:Nat,k<=1000->∀G,Az [.fl (ns.map D.int),.int k] G=.ok (.int (f k)) G)(hu:0<u)(cu:∀G,Fj [.fl (ns.map D.int)] G=.ok (.int u) G)(g:GoodH h)(h1:1<=h.n):
  ∃o:Option (Nat×Nat×Bool×Int),(∀c p b m,o=vE (c,p,b,m)->1<=c/\c<=5/\p<h.n/\(h.pl p).kd.txt=knT c)/\∀G,Ri [.fl (ns.map D.int),h.enc] G=.ok (R4 o) G:=by
 obtain⟨o,ho,hL⟩:=ZJW hf hu cu g h1 h.n 0;refine⟨o,ho,λG=>?_⟩;have hn:=g.len;have hr:inR (h.n:Int):=Gu (by lia) (by lia);obtain⟨y4,y5,y6,y7,y8,y9,e⟩:=hL vF vF vF vF vF vF G;have m20:∀G,Bk (.int 20) (.int (h.n:Int)) G=.ok (.int (20*(h.n:Int))) G:=λG=>Je (by lia) (by lia)
 have e6:(6+20*(h.n:Int))=((6+20*h.n:Nat):Int):=by lia
 have e':Bq (gV 4) Qc (Cm 0 h.n) _ G=_:=e;generalize((6+20*h.n:Nat):Int)=B at e' e6;unfold Ri ZHn;rw[Bp];cases o with
 |some q=>
  obtain⟨c,p,b,m⟩:=q;have tq:tidy G (.ok (Dk c p b m) G)=.ok (Dk c p b m) G:=By ZPW;simp -implicitDefEqProofs [Dy,Hs.Kl,m20,e6,hr,e',tq,R4]
 |none=>simp -implicitDefEqProofs [Dy,Hs.Kl,m20,e6,hr,e',By,R4]
def Oj(b:Bool)(k:Nat)(x:Int):Option (Nat×Int)->Option (Nat×Int)
 |none=>vE (k,x)
 |some (i,v)=>if byd b x v=vG then vE (k,x)else vE (i,v)
def Mm(b:Bool)(x:Int):Option (Nat×Int)->Bool
 |none=>vG
 |some (_,v)=>byd b x v
def Ju(b:Bool)(m:Int):List Int->Nat->Option (Nat×Int)->D
 |[],_,vF=>.tup [.str "kept",.non,.non]
 |[],_,vE (i,v)=>.tup [.str "kept",.int i,.int v]
 |x::r,k,o=>if byd b x m=vG then .tup [.str "broken",.int k,.int x]else Ju b m r (k+1) (Oj b k x o)
theorem ZEy{m:Int}:∀(xs:List Int)(k:Nat)(o:Option (Nat×Int))(i:Nat)(x:Int),Fv b m xs k=vE (i,x)->Ju b m xs k o=.tup [.str "broken",.int i,.int x]
 |[],k,o,i,x,h=>by cases h
 | y::r,k,o,i,x,h=>by
  unfold Fv at h;unfold Ju;cases e:byd b y m with
  |true=>
   rw[e,if_pos rfl]at h;cases h;rw[if_pos rfl]
  |false=>
   rw[e,if_neg (by simp)]at h;rw[if_neg (by simp)];exact ZEy r (k+1) _ i x h
theorem ZHX{r:List Int}{y:Int}:Df b (y::r) x=Df b r (if byd b y x=vG then y else x):=by
 unfold Df byd;cases b
 ·simp only[jx,if_false,jV]
  congr 1
  by_cases h:x<y
  ·rw[if_pos (decide_eq_true h)];lia
  ·rw[if_neg (by simpa using h)];lia
 ·simp only[if_true,jV]
  congr 1
  by_cases h:y<x
  ·rw[if_pos (decide_eq_true h)];lia
  ·rw[if_neg (by simpa using h)];lia
theorem Vh{b:Bool}:∀(r:List Int)(x:Int),Df b r x=x∨byd b (Df b r x) x=vG
 |[],x=>.inl (by unfold Df;cases b<;>rfl)
 | y::r,x=>by
  rw[ZHX];cases e:byd b y x with
  |false=>
   rw[if_neg (by simp)];exact Vh r x
  | true=>
   rw[if_pos rfl];rcases Vh (b:=b) r y with h|h
   ·rw[h];exact .inr e
   ·refine .inr ?_;unfold byd at e h⊢
    cases b<;>simp at e h⊢<;> lia
theorem ZCn{b:Bool}{m:Int}:∀(xs:List Int)(k i:Nat)(v:Int),Fv b m xs k=vF->Ju b m xs k (vE (i,v))=.tup [.str "kept",.int ((if Df b xs v=v then i else k+xs.idxOf (Df b xs v):Nat):Int),.int (Df b xs v)]
 |[],k,i,v,h=>by
  have e:Df b [] v=v:=by unfold Df;cases b<;>rfl
  unfold Ju;rw[e,if_pos rfl]
 | x::r,k,i,v,h=>by
  unfold Fv at h;unfold Ju;cases e:byd b x m with
  |true=>rw[e,if_pos rfl]at h;cases h
  | false=>
   rw[e,if_neg (by simp)]at h;rw[if_neg (by simp),ZHX];unfold Oj;dsimp only;cases e2:byd b x v with
   | true=>
    simp only[if_true];rw[ZCn r (k+1) k x h];have ne:¬Df b r x=v:=by
     rcases Vh (b:=b) r x with q|q
     ·rw[q];intro z;rw[z]at e2;unfold byd at e2;cases b<;>simp at e2
     ·intro z;rw[z]at q;unfold byd at q e2;cases b<;>simp at q e2<;>lia
    rw[if_neg ne,jA];by_cases q:Df b r x=x
    ·rw[if_pos q,q];simp -implicitDefEqProofs
    ·have q':(x==Df b r x)=vH:=by simpa using λz:x=Df b r x=>q z.symm
     rw[if_neg q,q'];simp only[cond_false];rw[show k+1+jT (Df b r x) r=k+(jT (Df b r x) r+1) by lia]
   | false=>
    simp only[jx,if_false];rw[ZCn r (k+1) i v h];by_cases q:Df b r v=v
    ·rw[if_pos q,if_pos q]
    ·have q':(x==Df b r v)=vH:=by
      rcases Vh (b:=b) r v with z|z
      ·exact absurd z q
      ·simp only[beq_eq_false_iff_ne];intro w;rw[<-w]at z;rw[z]at e2;cases e2
     rw[if_neg q,if_neg q,jA,q'];simp only[cond_false];rw[show k+1+jT (Df b r v) r=k+(jT (Df b r v) r+1) by lia]
theorem ZRT{m:Int}:Ju b m xs 0 vF=Fp b m xs:=by
 unfold Fp;cases h:Fv b m xs 0 with
 |some q=>
  obtain⟨i,x⟩:=q;exact ZEy xs 0 vF i x h
 | none=>
  cases xs with
  |nil=>rfl
  | cons x r=>
   dsimp only;unfold Fv at h;unfold Ju;cases e:byd b x m with
   |true=>rw[e,if_pos rfl]at h;cases h
   | false=>
    rw[e,if_neg (by simp)]at h;rw[if_neg (by simp)];unfold Oj;dsimp only;rw[ZCn r 1 0 x h,jA];by_cases q:Df b r x=x
    ·rw[if_pos q,q];simp -implicitDefEqProofs
    ·have q':(x==Df b r x)=vH:=by simpa using λz:x=Df b r x=>q z.symm
     rw[if_neg q,q'];simp only[cond_false];rw[show 1+jT (Df b r x) r=jT (Df b r x) r+1 by lia]
noncomputable def Im:Option (Nat×Int)->D
 |none=>.tup [.str "kept",.non,.non]
 |some (i,v)=>.tup [.str "kept",.int i,.int v]
theorem ZHD{xs:List Int}{b:Bool}{m:Int}{G:DH}{A:D}(q2:∀G,Aj A (.int 2) G=.ok (.str (snT b)) G)(q3:∀G,Aj A (.int 3) G=.ok (.int m) G):∀(j k:Nat)(o:Option (Nat×Int))(x3 x4:Option D),k+j=xs.length->∃y3 y4 o',Bq (gV 3) Tq (Cm k j) [vE (.fl (xs.map D.int)),vE A,vE (Im o),x3,x4] G=
   (match Fv b m (xs.drop k) k with
    |some (i,x)=>.rt (.tup [.str "broken",.int i,.int x]) G
    |none=>.nx [vE (.fl (xs.map D.int)),vE A,vE (Im o'),y3,y4] G)/\(Fv b m (xs.drop k) k=vF->Ju b m (xs.drop k) k o=Im o')
 |0,k,o,x3,x4,e=>⟨x3,x4,o,by
  rw[List.drop_eq_nil_of_le (by lia)];refine⟨by rw[Jy,Ei];rfl,λ_=>?_⟩
  cases o<;>rfl⟩
 | j+1,k,o,x3,x4,e=>by
  have hk:k<xs.length:=by lia
  rw[zM hk];generalize hx:xs[k]=x;have ax:atI (xs.map D.int) (k:Int)=vE (.int x):=Fe rfl (by rw[zx,zJ hk,hx];rfl);have s1:Tq [vE (.fl (xs.map D.int)),vE A,vE (Im o),vE (.int k),x4] G=if byd b x m=vG then .rt (.tup [.str "broken",.int k,.int x]) G else X7 [vE (.fl (xs.map D.int)),vE A,vE (Im o),vE (.int k),x4] G:=by
   generalize xs.map D.int=X at ax;unfold Tq byd;cases b with
   |true=>by_cases hm:x<m<;>simp -implicitDefEqProofs [q2,q3,Qn,Yi,ax,Bb,hm]
   |false=>by_cases hm:m<x<;>simp -implicitDefEqProofs [q2,q3,Qn,Yi,ax,Bb,hm]
  have s2:X7 [vE (.fl (xs.map D.int)),vE A,vE (Im o),vE (.int k),x4] G=Yv [vE (.fl (xs.map D.int)),vE A,vE (Im o),vE (.int k),vE (.bl (Mm b x o))] G:=by
   generalize xs.map D.int=X at ax;unfold X7 ZFZ;cases o with
   |none=>simp -implicitDefEqProofs [Im,Mm]
   |some q=>
    obtain⟨i,v⟩:=q
    cases b<;>simp -implicitDefEqProofs [Im,Mm,byd,q2,Qn,ax]
  have s3:Yv [vE (.fl (xs.map D.int)),vE A,vE (Im o),vE (.int k),vE (.bl (Mm b x o))] G=.nx [vE (.fl (xs.map D.int)),vE A,vE (Im (Oj b k x o)),vE (.int k),vE (.bl (Mm b x o))] G:=by
   generalize xs.map D.int=X at ax;unfold Yv;cases o with
   |none=>simp -implicitDefEqProofs [Im,Mm,Oj,ax,Bb]
   |some q=>
    obtain⟨i,v⟩:=q
    cases e:byd b x v<;>simp -implicitDefEqProofs [Im,Mm,Oj,ax,Bb,e]
  rw[s2,s3]at s1;cases eb:byd b x m with
  |true=>
   refine⟨x3,x4,o,?_,λz=>by unfold Fv at z;rw[eb,if_pos rfl]at z;cases z⟩;rw[eb,if_pos rfl]at s1;rw[Io,Dg];simp only[Dr,R.Dm,qJ,s1];unfold Fv;rw[eb,if_pos rfl]
   rfl
  | false=>
   rw[eb,if_neg (by simp)]at s1;obtain⟨y3,y4,o',ih,ih2⟩:=ZHD (xs:=xs) (b:=b) (m:=m) (G:=G) (A:=A) q2 q3 j (k+1) (Oj b k x o) (vE (.int k)) (vE (.bl (Mm b x o))) (by lia);refine⟨y3,y4,o',?_,?_⟩
   ·rw[Io,Dg];have e1:((k:Int)+1)=((k+1:Nat):Int):=by lia
    simp only[Dr,R.Dm,qJ,s1,Ea,e1,ih]
    conv=>rhs;unfold Fv
    rw[eb,if_neg (by simp)]
   ·intro z;unfold Fv at z;rw[eb,if_neg (by simp)]at z;unfold Ju;rw[eb,if_neg (by simp)];exact ih2 z
theorem ZHm{m:Int}:∃s x y,Fp b m xs=.tup [.str s,x,y]/\(x=.non/\y=.non∨∃i j,x=.int i/\y=.int j):=by
 unfold Fp;split
 ·exact⟨_,_,_,rfl,.inr ⟨_,_,rfl,rfl⟩⟩
 ·split
  ·exact⟨_,_,_,rfl,.inl ⟨rfl,rfl⟩⟩
  ·exact⟨_,_,_,rfl,.inr ⟨_,_,rfl,rfl⟩⟩
theorem ZK3(hx:xs.length<=1000){c:Nat}{m:Int}(G:DH):Xi [.fl (xs.map D.int),Dk c p b m] G=.ok (Fp b m xs) G:=by
 obtain⟨y3,y4,o',hL,h2⟩:=ZHD (xs:=xs) (b:=b) (m:=m) (G:=G) (A:=Dk c p b m) (λ_=>rfl) (λ_=>rfl) xs.length 0 vF vF vF (by lia);rw[jE]at hL h2;have e:=ZRT (b:=b) (m:=m) (xs:=xs);have hr:inR (xs.length:Int):=Gu (by lia) (by lia);have hL':Bq (gV 3) Tq (Cm 0 xs.length) [vE (.fl (xs.map D.int)),vE (Dk c p b m),vE (.tup [.str "kept",.non,.non]),vF,vF] G=_:=hL;have bA:bel G.length (Fp b m xs)=vG:=ZCe
 unfold Xi ZKD;rw[Bp];cases hF:Fv b m xs 0 with
 |some q=>
  obtain⟨i,x⟩:=q;rw[hF]at hL';have ea:Fp b m xs=.tup [.str "broken",.int i,.int x]:=by unfold Fp;rw[hF]
  simp -implicitDefEqProofs [Bb,hr,hL',By,ea]
 |none=>
  rw[hF]at hL';have ea:Im o'=Fp b m xs:=((h2 hF).symm.trans e);simp only[ea]at hL';simp -implicitDefEqProofs [Bb,hr,hL',By,bA]
theorem ZNp{s:Str}{x y:D}(h:x=.non/\y=.non∨∃i j,x=.int i/\y=.int j)(G:DH):Rr [.tup [.str s,x,y]] G=.ok (.bl vG) G:=by
 have fz:∀x y:D,bel G.length x=vG->bel G.length y=vG->freeze G (.ok (.tup [x,y]) G)=.ok (.tup [x,y]) G:=λx y h1 h2=>Jx (by simp -implicitDefEqProofs [h1,h2])
 have b1:∀(s1:Option D)(i:Int),U5 [s1,vE (.int i)] G=.nx [s1,vE (.int i)] G:=λs1 i=>by unfold U5;simp -implicitDefEqProofs [tyD]
 have b2:∀(s1:Option D),U5 [s1,vE .non] G=.nx [s1,vE .non] G:=λs1=>by unfold U5;simp -implicitDefEqProofs [tyD]
 have ct:∀x y:D,cutD [D.str s,x,y] (vE 1) vF=[x,y]:=λx y=>rfl
 unfold Rr ZGx;rw[Bp];rcases h with⟨rfl,rfl⟩|⟨i,j,rfl,rfl⟩
 ·simp -implicitDefEqProofs [tyD,ct,fz,Dg,Ei,b2,By]
 ·simp -implicitDefEqProofs [tyD,ct,fz,Dg,Ei,b1,By]
theorem ZMl(hb:∀k b r q,k<h.n->(h.pl k).kd=.basin b r q->lv k<=b){k:Nat}(hk:k<h.n):lv k<=lvM h f u lv k:=by
 unfold lvM;cases e:(h.pl k).kd with
 |basin b r q=>
  have h1:=hb k b r q hk e;have h2:0<=amt (mcell h f k/2) u%(b-lv k+1):=qR _ (by lia);have h3:=ZEV (c:=mcell h f k) h2;show lv k<=lv k+_;lia
 |town _ _=>exact qq _
 |mill _=>exact qq _
theorem ZGv(hu:0<u)(k j:Nat):co k j<=coM h f u co k j:=by unfold coM;have h3:=ZEV (x:=u) (c:=mcell h f k/2) (by lia);lia
theorem ZFw(hu:0<u){fl:Nat->Nat->Int}(i k:Nat):fl i k<=flM h f u fl i k:=by unfold flM;have h3:=ZEV (x:=amt (f (6+24*h.n+h.n+i*h.n+k)/2) u) (c:=f (6+24*h.n+h.n+i*h.n+k)) (Uz hu);lia
theorem ZKV{n:Nat}{a b:Nat->Int}(h:∀k,k<n->a k<=b k):leN n a b=vG:=qK.mpr λk hk=>decide_eq_true (h k (qW.mp hk))
theorem ZIe{w:Nat}{A B:Nat->Nat->Int}(h:∀i,i<m->∀k,k<w->A i k<=B i k):leR w m A B=vG:=qK.mpr λi hi=>ZKV (h i (qW.mp hi))
theorem ZFB{t:Nat}{F:Nat->Nat->Int}(hi:i<t):((zZ t).map F).getD i (λ_=>0)=F i:=by simp -implicitDefEqProofs [zD,hi]
noncomputable def clm:List (Str×D):=[("took",.int 1),("spilled",.int 2),("let",.int 3),("pumped",.int 4),("lies",.int 5)]
theorem ZSc{c:Nat}(h1:1<=c)(h2:c<=5):Il (Ik [] (clm.map λkv=>(.inr kv.1,kv.2))) (.inr (wt c))=vE (.int c):=five (P:=λc=>Il (Ik [] (clm.map λkv=>(.inr kv.1,kv.2))) (.inr (wt c))=vE (.int c)) h1 h2 rfl rfl rfl rfl rfl
theorem ZQc{c:Nat}(h1:1<=c)(h2:c<=5)(G:DH):Wm [.str (wt c)] G=.ok (.int c) G:=by unfold Wm ZIz;rw[Bp];exact ZEi (kvs:=clm) (ZSc h1 h2) rfl
theorem ZIy(po:∀pg∈pgs,Row6 h pg){c:Nat}(hp:p<h.n)(h1:1<=c)(h2:c<=5){m:Int}(G:DH):
  Du (gV 0) Cd Ul [vF,vE (Dk c p b m)] (pgs.map (pgD h.n)) G=.ok ((Gr pgs p c).map D.int) G:=by
 have:=N5 (te:=Ul) (S:=[vF,vE (Dk c p b m)]) (E:=pgD h.n) (F:=λpg=>.int ((pg p).getD c 0)) (G:=G) (l:=pgs) λpg hpg=>by obtain⟨t,e1,e2⟩:=ZHP (po pg hpg) hp h1 h2 G;unfold Ul pgD Dk;simp -implicitDefEqProofs [e1,e2,ZQc h1 h2]
 rw[this,Gr,qF]
 rfl
section
variable{S E T1 T2 K A:D}{F1 F2 P1 P2:List D}{a:Int}{b:Bool}{G:DH}
theorem ZQ4{ra rb:D}(z1:freeze G (.ok (.ref G.length) (G++[.lst F1]))=.ok (.fl F1) G)(z2:freeze G (.ok (.ref G.length) (G++[.lst F2]))=.ok (.fl F2) G)(zp:freeze G (.ok (.ref G.length) (G++[.lst [.fl F1,.fl F2]]))=.ok (.fl [.fl F1,.fl F2]) G)
  (qi:M4 K=vH) (lk:U4 [E,T1,T2,.int a,.fl F1,.fl F2,K] G=.ok A G) (np:∀G,Hi (.fl [.fl F1,.fl F2]) (.fl [.fl F1,.fl F2]) G=.ok (.bl vH) G) (told:Rr [A] G=.ok (.bl vG) G)
  (cr:freeze G (Mq [E,T1,.int a,.fl F1] G)=.ok (.tup [.fl P1,ra]) G) (cr':b=vH->freeze G (Mq [E,T2,.int a,.fl F2] G)=.ok (.tup [.fl P2,rb]) G) (q2:∀G,Aj K (.int 2) G=.ok (.str (snT b)) G)
  (k1:b=vG->U7 [vE S,vE E,vE (.int a),vE T1,vE (.fl F1),vE T2,vE (.fl F2),vE K,vE (.fl [.fl F1,.fl F2]),vE A,vE (.fl P1),vF] G=.rt (.bl vG) G) (k2:b=vH->U7 [vE S,vE E,vE (.int a),vE T1,vE (.fl F1),vE T2,vE (.fl F2),vE K,vE (.fl [.fl F1,.fl F2]),vE A,vE (.fl P2),vF] G=.rt (.bl vG) G):
  Ml [vE S,vE E,vE (.int a),vE T1,vE (.fl F1),vE T2,vE (.fl F2),vE K,vF,vF,vF,vF] G=.rt (.bl vG) G:=by
 have s6:Ml [vE S,vE E,vE (.int a),vE T1,vE (.fl F1),vE T2,vE (.fl F2),vE K,vF,vF,vF,vF] G=Yy [vE S,vE E,vE (.int a),vE T1,vE (.fl F1),vE T2,vE (.fl F2),vE K,vE (.fl [.fl F1,.fl F2]),vF,vF,vF] G:=by unfold Ml ZFg;simp -implicitDefEqProofs [qi,Av,z1,z2,zp]
 have s8:Yy [vE S,vE E,vE (.int a),vE T1,vE (.fl F1),vE T2,vE (.fl F2),vE K,vE (.fl [.fl F1,.fl F2]),vF,vF,vF] G=Zi [vE S,vE E,vE (.int a),vE T1,vE (.fl F1),vE T2,vE (.fl F2),vE K,vE (.fl [.fl F1,.fl F2]),vE A,vF,vF] G:=by unfold Yy ZJa;simp -implicitDefEqProofs [Av,lk,zp,np,told]
 have s10:Zi [vE S,vE E,vE (.int a),vE T1,vE (.fl F1),vE T2,vE (.fl F2),vE K,vE (.fl [.fl F1,.fl F2]),vE A,vF,vF] G=ZES [vE S,vE E,vE (.int a),vE T1,vE (.fl F1),vE T2,vE (.fl F2),vE K,vE (.fl [.fl F1,.fl F2]),vE A,vE (.fl P1),vF] G:=by unfold Zi;simp -implicitDefEqProofs [cr]
 rw[s6,s8,s10];unfold ZES;cases b with
 |true=>simp -implicitDefEqProofs [q2,Yi,k1]
 |false=>simp -implicitDefEqProofs [cr',q2,Yi,k2]
theorem ZPt{t:Nat}(hf:∀k:Nat,k<=1000->∀G,Az [.fl (ns.map D.int),.int k] G=.ok (.int (f k)) G)(ch:∀G,Tv [.fl (ns.map D.int)] G=.ok E G)(ca:∀G,Qy [.fl (ns.map D.int)] G=.ok (.int a) G)
  (cs:∀G,Us [.fl (ns.map D.int),E] G=.ok T1 G) (et:(t:Int)=f 2%7) (cf:Th [.fl (ns.map D.int),E,.int t] G=.ok (.ref G.length) (G++[.lst F1])) (z1:freeze G (.ok (.ref G.length) (G++[.lst F1]))=.ok (.fl F1) G)
  (cm:freeze G (R9 [.fl (ns.map D.int),E,T1,.fl F1] G)=.ok (.tup [T2,.fl F2]) G) (cq:Ri [.fl (ns.map D.int),E] G=.ok A G) (fq:freeze G (.ok A G)=.ok A G):
  ZAU [vE (.fl (ns.map D.int)),vF,vF,vF,vF,vF,vF,vF,vF,vF,vF,vF] G=Ml [vE (.fl (ns.map D.int)),vE E,vE (.int a),vE T1,vE (.fl F1),vE T2,vE (.fl F2),vE A,vF,vF,vF,vF] G:=by
 have f2:∀G,Az [.fl (ns.map D.int),.int 2] G=.ok (.int (f 2)) G:=hf 2 (by lia);unfold ZAU ZGN ZKm ZKN ZF4 ZJg;simp -implicitDefEqProofs [ch,ca,cs,f2,<-et,cf,z1,cm,cq,fq]
end
theorem ZMQ(g:GoodH h)(hl:fls.length<=6)(hl':fls'.length<=6){c:Nat}{m:Int}(h1:1<=c)(h2:c<=5)(hp:p<h.n)(hk:(h.pl p).kd.txt=knT c)
  (u1:(leN h.n lv lv'&&leR 5 h.n co co')=vG) (u2:(decide (fls.length=fls'.length)&&leR h.n fls.length (λi=>fls.getD i λ_=>0) λi=>fls'.getD i λ_=>0)=vG) (so:∀k j,k<h.n->j<5->0<=co k j) (so':∀k j,k<h.n->j<5->0<=co' k j)
  (hfn:∀fl∈fls,∀k,k<h.n->0<=fl k) (hfn':∀fl∈fls',∀k,k<h.n->0<=fl k) (G:DH):Ml [vE (.fl (ns.map D.int)),vE h.enc,vE (.int a),vE (stD h.n lv co),vE (.fl (Be h.n fls)),vE (stD h.n lv' co'),vE (.fl (Be h.n fls')),vE (Dk c p b m),vF,vF,vF,vF] G=.rt (.bl vG) G:=by
 have lk:=ZMR g (a:=a) (by lia) (by lia) hp h1 h2 hk (b:=b) (m:=m) u1 u2 so so' hfn hfn' G;have cr:=ZEF g (s:=(lv,co)) (a:=a) (fls:=fls) (by lia) so hfn G;have cr':=ZEF g (s:=(lv',co')) (a:=a) (fls:=fls') (by lia) so' hfn' G;have fr:=ZDz (G:=G) (ds:=(h.G8 fls (lv,co) a).map (pgD h.n)) (e:=stD h.n (h.I8 fls (lv,co) a).1 (h.I8 fls (lv,co) a).2) ZAk X8;have fr':=ZDz (G:=G) (ds:=(h.G8 fls' (lv',co') a).map (pgD h.n)) (e:=stD h.n (h.I8 fls' (lv',co') a).1 (h.I8 fls' (lv',co') a).2) ZAk X8
 rw[<-cr]at fr;rw[<-cr']at fr';have key:∀(PS:List (Nat->List Int))(s0 s1 s2 s3 s4 s5 s6 s8:Option D),PS.length<=1000->Du (gV 0) Cd Ul [vF,vE (Dk c p b m)] (PS.map (pgD h.n)) G=.ok ((Gr PS p c).map D.int) G->
   U7 [s0,s1,s2,s3,s4,s5,s6,vE (Dk c p b m),s8,vE (Fp b m (Gr PS p c)),vE (.fl (PS.map (pgD h.n))),vF] G=.rt (.bl vG) G:=λPS s0 s1 s2 s3 s4 s5 s6 s8 hPS hcp=>by
  have hx:(Gr PS p c).length<=1000:=by simp -implicitDefEqProofs [Gr];exact hPS
  have cd:=ZK3 (xs:=Gr PS p c) hx (c:=c) (p:=p) (b:=b) (m:=m) G;generalize Gr PS p c=xs at*;have fz:freeze G (.ok (.ref G.length) (G++[.lst (xs.map D.int)]))=.ok (.fl (xs.map D.int)) G:=Fb (G9 λ_ _=>rfl);have eq:∀G,Cv (Fp b m xs) (Fp b m xs) G=.ok (.bl vG) G:=λG=>by
   obtain⟨s,x,y,e,hxy⟩:=ZHm (b:=b) (m:=m) (xs:=xs);rw[e];refine ZLM (ZIr (n:=29) λd hd=>?_)
   rcases hxy with⟨rfl,rfl⟩|⟨i,j,rfl,rfl⟩<;>simp at hd<;>rcases hd with rfl|rfl|rfl<;>rfl
  have hxl:(xs.map D.int).length<=1000000:=by simp;lia
  have hpl:(PS.map (pgD h.n)).length<=1000000:=by simp;lia
  generalize xs.map D.int=X at*;generalize PS.map (pgD h.n)=PG at*;unfold U7 ZFN;simp -implicitDefEqProofs [Bm,hcp,fz,hxl,hpl,cd,eq]
 obtain⟨sA,xA,yA,eA,hA⟩:=ZHm (b:=b) (m:=m) (xs:=Gr (h.G8 (if b=vG then fls else fls') (if b=vG then lv else lv',if b=vG then co else co') a) p c);have told:=ZNp hA (s:=sA) G;rw[<-eA]at told;refine ZQ4 (Fb Zf) (Fb Zf) (Fb (by simp)) rfl lk (λG=>ZPK ZSz) told fr (λ_=>fr') (λG=>rfl) (λe=>?_) λe=>?_
 ·rw[if_pos e,if_pos e,if_pos e];exact key _ _ _ _ _ _ _ _ _ (by rw[Wn];lia) (ZIy (run6 g fls (lv,co) a) hp h1 h2 G)
 ·rw[if_neg (by simp -implicitDefEqProofs [e]),if_neg (by simp -implicitDefEqProofs [e]),if_neg (by simp -implicitDefEqProofs [e])];exact key _ _ _ _ _ _ _ _ _ (by rw[Wn];lia) (ZIy (run6 g fls' (lv',co') a) hp h1 h2 G)
theorem ZOK(hl:ns.length<=63)(G:DH):My [.fl (ns.map D.int)] G=.ok (.bl vG) G:=by
 obtain⟨f,hf⟩:=cells hl;obtain⟨u,hu1,cu⟩:=ZMk hf;have hu:0<u:=by lia
 obtain⟨yr,hyr,cy⟩:=ZK0 hf;obtain⟨h,hT,ch⟩:=ZOt hf hyr cy hu cu;have g:=hT.good;have hn:=g.len;obtain⟨a,ha,ca⟩:=ZMB hf;obtain⟨t,ht1,ht2,et⟩:∃t:Nat,6+14*h.n+t*h.n<=1000/\t<=6/\(t:Int)=f 2%7:=by
  have h6:(f 2%7).toNat<=6:=by lia
  have hm:=jU h6 hn;exact⟨(f 2%7).toNat,by lia,by lia,by lia⟩
 have cs:=ZNu hf hu cu g;have cf:=ZTK hf hu cu g ht1 (by lia);have f2:∀G,Az [.fl (ns.map D.int),.int 2] G=.ok (.int (f 2)) G:=hf 2 (by lia);have hbr:∀k b r q,k<h.n->(h.pl k).kd=.basin b r q->lvS h f u k<=b:=λk b r q hk e=>(ZS8 g hk).2.1 b r q e
 have cm:=ZTP hf hu cu g (lv:=lvS h f u) (co:=coS h f u) hbr (fl:=flS h.n f u) ht2;have so:∀k j,k<h.n->j<5->0<=coS h f u k j:=λk j _ _=>ZNc hu k j
 have so':∀k j,k<h.n->j<5->0<=coM h f u (coS h f u) k j:=λk j hk hj=>Int.le_trans (so k j hk hj) (ZGv hu k j)
 have u1:(leN h.n (lvS h f u) (lvM h f u (lvS h f u))&&leR 5 h.n (coS h f u) (coM h f u (coS h f u)))=vG:=by
  rw[ZKV λk hk=>ZMl hbr hk,ZIe λi _ k _=>ZGv hu i k]
  rfl
 have u2:(decide (((zZ t).map (flS h.n f u)).length=((zZ t).map (flM h f u (flS h.n f u))).length)&&leR h.n ((zZ t).map (flS h.n f u)).length (λi=>((zZ t).map (flS h.n f u)).getD i λ_=>0) λi=>((zZ t).map (flM h f u (flS h.n f u))).getD i λ_=>0)=vG:=by
  rw[ZIe λi hi k _=>?_]
  ·simp -implicitDefEqProofs
  ·have hi:i<t:=by simpa using hi
   rw[ZFB hi,ZFB hi];exact ZFw hu i k
 have hfn:∀fl∈(zZ t).map (flS h.n f u),∀k,k<h.n->0<=fl k:=λfl hm k _=>by obtain⟨i,_,rfl⟩:=zH.mp hm;exact ZKc hu i k
 have hfn':∀fl∈(zZ t).map (flM h f u (flS h.n f u)),∀k,k<h.n->0<=fl k:=λfl hm k hk=>by obtain⟨i,_,rfl⟩:=zH.mp hm;exact Int.le_trans (ZKc hu i k) (ZFw hu i k)
 have l1:((zZ t).map (flS h.n f u)).length=t:=by simp -implicitDefEqProofs
 have l2:((zZ t).map (flM h f u (flS h.n f u))).length=t:=by simp -implicitDefEqProofs
 obtain⟨o,ho,cq⟩:=ZM5 hf hu cu g hT.one;have fz0:∀l:List (Nat->Int),freeze G (.ok (.ref G.length) (G++[.lst (Be h.n l)]))=.ok (.fl (Be h.n l)) G:=λl=>Fb Zf
 have pre:=ZPt hf ch ca cs et (cf G) (fz0 _) (cm G) (cq G) (Jx (by
  cases o with
  |none=>rfl
  |some q=>rfl))
 unfold My;rw[Bp];show tidy G ((ZAU [vE (.fl (ns.map D.int)),vF,vF,vF,vF,vF,vF,vF,vF,vF,vF,vF] G).ret)=_;rw[pre];cases o with
 |none=>
  unfold Ml;simp -implicitDefEqProofs [R4,By]
 |some q=>
  obtain⟨c,p,b,m⟩:=q;obtain⟨h1,h2,hp,hk⟩:=ho c p b m rfl;show tidy G ((Ml [_,_,_,_,_,_,_,vE (Dk c p b m),_,_,_,_] G).ret)=_;rw[ZMQ g (by lia) (by lia) h1 h2 hp hk u1 u2 so so' hfn hfn' G];exact By rfl
theorem holds:Holds:=λns hl=>⟨[],ZOK hl []⟩
end Law
namespace Law
open PySem L2 DL
seal QE QT QA QS QSs QG QGs QI QTs QW QO
structure Txt (K:PySem.W.Frag) (mg:Str->Option xj):Prop where
 K5:FT K mg "_law_amount" ZB1 ZCG
 Y5:FT K mg "_law_off" ZAl ZDP
 Rh:FT K mg "_law_tape" ZCM ZBZ
 Eg:FT K mg "_law_cell_at" ZA3 ZCE
 Kz:FT K mg "_law_unit" ZCX ZDZ
 Vv:FT K mg "_law_added" Nq ZBl
 Yb:FT K mg "_law_ask" ZCz ZER
 Zj:FT K mg "_law_column" ZD5 ZBS
 Xd:FT K mg "_law_due" ZDO ZBU
 X5:FT K mg "_law_floods" Ti ZCT
 W5:FT K mg "_law_pumped" ZCO ZAu
 Wg:FT K mg "_law_steps" ZBR ZA4
 Rv:FT K mg "_law_year" ZDt ZCI
 Xc:FT K mg "_law_rule" Rz ZBX
 We:FT K mg "_law_basin" Wc ZEW
 Zb:FT K mg "_law_name" ZBt ZCY
 ZAR:FT K mg "_law_house" Xu ZDd
 Xk:FT K mg "_law_number" ZD3 ZA6
 Zv:FT K mg "_law_state" ZDX ZBv
 Yc:FT K mg "_law_told" ZBH ZEQ
 ZAM:FT K mg "is_beyond" ZCR ZCi
 ZAN:FT K mg "part_asked" ZCN ZDK
 ZAd:FT K mg "answered" Xa ZCD
 Vk:FT K mg "check_ask" ZEK ZCP
 U0:FT K mg "none_above" Va ZBT
 V1:FT K mg "rows_under" Vm ZAp
 Xo:FT K mg "under" ZDk ZDr
 Y9:FT K mg "check_bounds" ZBm ZEY
 Vn:FT K mg "looked_through" ZDG ZEC
 Up:MT K "Course" "__init__" "Course.__init__" T8 ZBn
 Og:MT K "Course" "send" "Course.send" ZDx ZA5
 Rt:FT K mg "number_of" ZCF ZD1
 Uy:FT K mg "down_of" ZET ZDW
 O9:MT K "Course" "send_down" "Course.send_down" ZB7 ZB3
 W6:FT K mg "opened" ZBK ZAe
 Yx:FT K mg "stairs_at" ZAr ZB6
 Ux:MT K "Course" "go_basin" "Course.go_basin" ZED ZDH
 Uc:FT K mg "passed" ZAD ZCv
 S6:FT K mg "down_in_reach" ZC4 ZDV
 Vt:FT K mg "reach_rows" ZBC ZBN
 Zt:FT K mg "served" Ub ZCZ
 Xj:FT K mg "way_down" ZBB ZCC
 Vu:FT K mg "shares" Vf ZEI
 Uw:MT K "Course" "go_reach" "Course.go_reach" ZDu ZBE
 Z8:FT K mg "lasts_of_reaches" ZDb ZAq
 Uq:MT K "Course" "go" "Course.go" V7 ZBL
 Ru:MT K "Course" "state_behind" "Course.state_behind" Sq ZD9
 Z3:FT K mg "turn" ZCJ ZEO
 Pu:FT K mg "run" ZBx ZBe
 Yh:FT K mg "look" ZBs ZDq
 V3:FT K mg "law" J7 ZBh
 Ba:CT K mg "Course"
 Qj:NoAttr K (Bv K "Course") "came"
 Sh:NoAttr K (Bv K "Course") "coming"
 Jv:NoAttr K (Bv K "Course") "house"
 V6:NoAttr K (Bv K "Course") "levels"
 O5:NoAttr K (Bv K "Course") "page"
 Zh:NoAttr K (Bv K "Course") "reaches"
 Za:NoAttr K (Bv K "Course") "year_turn"
 ZHy:mg "all"=vF
 ZLW:mg "bool"=vF
 Mu:mg "enumerate"=vF
 ZPJ:mg "int"=vF
 Yw:mg "isinstance"=vF
 Ed:mg "len"=vF
 Vp:mg "list"=vF
 ZDf:mg "max"=vF
 Pq:mg "min"=vF
 Gj:mg "range"=vF
 ZPE:mg "sorted"=vF
 ZLI:mg "str"=vF
 H8:mg "tuple"=vF
 U9:mg "zip"=vF
 ZCo:mg "BRIM"=vE (.int 4 (Dz K "BRIM"))
 Y6:mg "DELAY"=vE (.int 3 (Dz K "DELAY"))
 ZAg:mg "DOWN"=vE (.int 2 (Dz K "DOWN"))
 Od:mg "KIND"=vE (.int 0 (Dz K "KIND"))
 ZBJ:mg "LET"=vE (.int 3 (Dz K "LET"))
 Zc:mg "LIES"=vE (.int 5 (Dz K "LIES"))
 ZDy:mg "NAME"=vE (.int 1 (Dz K "NAME"))
 ZBA:mg "NEED"=vE (.int 4 (Dz K "NEED"))
 J9:mg "PLACES"=vE (.int 1 (Dz K "PLACES"))
 Tn:mg "PUMP"=vE (.int 6 (Dz K "PUMP"))
 ZCK:mg "PUMPED"=vE (.int 4 (Dz K "PUMPED"))
 ZBc:mg "PUMP_DELAY"=vE (.int 1 (Dz K "PUMP_DELAY"))
 ZCf:mg "PUMP_TO"=vE (.int 0 (Dz K "PUMP_TO"))
 ZBk:mg "RANK"=vE (.int 5 (Dz K "RANK"))
 Q9:mg "ROW_DOWN"=vE (.int 0 (Dz K "ROW_DOWN"))
 ZC9:mg "ROW_NEED"=vE (.int 2 (Dz K "ROW_NEED"))
 ZDE:mg "ROW_RANK"=vE (.int 3 (Dz K "ROW_RANK"))
 ZBb:mg "ROW_WATER"=vE (.int 1 (Dz K "ROW_WATER"))
 ZAz:mg "RULE"=vE (.int 5 (Dz K "RULE"))
 ZCB:mg "SEA"=vE (.str "sea" (Dz K "SEA"))
 ZB0:mg "SPILLED"=vE (.int 2 (Dz K "SPILLED"))
 ZCU:mg "TOOK"=vE (.int 1 (Dz K "TOOK"))
 ZBY:mg "YEAR"=vE (.int 0 (Dz K "YEAR"))
 ZDl:TupG K mg "SENSES" ["least","most"]
 ZAC:DctG K mg "KINDS_ASKED" [("lies","basin"),("spilled","basin"),("let","basin"),("pumped","basin"),("took","town")]
section
variable{P:xK}{w:xw}{K:PySem.W.Frag}{mg:Str->Option xj}{base:Heap}
theorem Ob(T:Txt K mg):FnO P w K mg base 1 "_law_amount" ZCG Kp:=by
 refine Cg T.K5.F ZR5 λcdv A outer s H E hr=>?_
 exact(An (Bl (Ag Bc (Ag Dj (Aa 1) (Ag Bx (Aa 0) Af)) (Ag Bx (Ag Dv (Aa 0) Af) (Aa 1)))))
theorem ZPI(T:Txt K mg):FnO P w K mg base 1 "_law_off" ZDP Rq:=by
 refine Cg T.Y5.F Uh λcdv A outer s H E hr=>?_
 exact(Ai (Bw (ZFl Z6 Jd Af (Aa 0) (Ag O6 Af Af)) (Ai (Ao 0 Uh.nd (Ag Bx (Ag Bc (Ag Bc (Aa 0) (Ag Dj Af (Aa 1))) Af) Af)) (Ai (Ao 0 Uh.nd (Ag Bx (Ag Dj (Aa 0) (Aa 0)) Af)) (An (Bl (Ag Bx (Ag Dj (Aa 0) (Ag Bc (Aa 0) (Aa 1))) Af))))) Ci) (Ai (Ex PassesOwn.never rfl (Gs rfl T.Gj (Ac (Aa 1) Ae)) (Aq 2 Uh.nd) (An (Ao 0 Uh.nd (Ag Dv (Aa 0) (Ag O6 Af Af))))) (An (Bl (Ag Bx (Aa 0) (Ag O6 Af Af))))))
theorem ZHG(T:Txt K mg):FnO P w K mg base 1 "_law_tape" ZBZ Mw:=by
 refine Cg T.Rh.F ZOk λcdv A outer s H E hr=>?_
 exact(An (Bl (ZCA (Jg Kr (Cu Eh rfl T.Ed Eb (Ac (Aa 0) Ae)) Af (nomark _)) (ZAY (ZS0 (Jg Jd (Ak Al (Aa 0) Af) Af (nomark _)) (ZAY (Jg o_ge (Ak Al (Aa 0) Af) (Ag O6 Af Af) (nomark _))))))))
theorem Ey(T:Txt K mg):FnO P w K mg base 2 "_law_cell_at" ZCE Az:=by
 refine Cg T.Eg.F Ug λcdv A outer s H E hr=>?_
 exact(Ai (Bw (Hk (Aw (ZHG T) T.Rh hr (Ac (Aa 0) Ae))) (Ai (Ao 2 Ug.nd Af) (Ai (Bw (Bs Jd (Ag Bc Af (Ag Dv (Aa 1) Af)) (Cu Eh rfl T.Ed Eb (Ac (Aa 0) Ae)) (nomark _)) (An (Ao 2 Ug.nd (Ak Al (Aa 0) (Ag Bc Af (Ag Dv (Aa 1) Af))))) Ci) (An (Bl (Aw (ZPI T) T.Y5 hr (Ac (Aa 2) (Ac (Ag Bx (Aa 1) Af) Ae))))))) Ci) (Ai (Bw (Bs Jd (Aa 1) (Cu Eh rfl T.Ed Eb (Ac (Aa 0) Ae)) (nomark _)) (An (Bl (Ak Al (Aa 0) (Aa 1)))) Ci) (Ai (Ao 2 Ug.nd (Ag Bx (Ag Dj Af (Ag Bc (Ag Dj (Aa 1) (Aa 1)) (Ag Dj Af (Cu Eh rfl T.Ed Eb (Ac (Aa 0) Ae))))) Af)) (Ai (Bw (Bs Kr (Cu Eh rfl T.Ed Eb (Ac (Aa 0) Ae)) Af (nomark _)) (An (Ao 2 Ug.nd (Ag Bc (Aa 2) (Ag Bx (Ag Dj (Ak Al (Aa 0) (Ag Bx (Aa 1) (Cu Eh rfl T.Ed Eb (Ac (Aa 0) Ae)))) Af) Af)))) Ci) (An (Bl (Aa 2)))))))
theorem Qw(T:Txt K mg):FnO P w K mg base 3 "_law_unit" ZDZ Fj:=by
 refine Cg T.Kz.F ZRi λcdv A outer s H E hr=>?_
 exact(An (Bl (Ak Al (Ck (Ep (Ac Af (Ac Af (Ac (Ag O6 Af Af) Ae))))) (Ag Bx (Ag Dv (Aw (Ey T) T.Eg hr (Ac (Aa 0) (Ac Af Ae))) Af) Af))))
theorem ZMc(T:Txt K mg):FnO P w K mg base 4 "_law_added" ZBl R9:=by
 refine Cg T.Vv.F Hr λcdv A outer s H E hr=>?_
 exact(Ai (Ao 4 Hr.nd (Ck (Aw (Qw T) T.Kz hr (Ac (Aa 0) Ae)))) (Ai (Ao 5 Hr.nd (Cu Eh rfl T.Ed Eb (Ac (Ak Al (Aa 1) Af) Ae))) (Ai (Ao 6 Hr.nd (Ag Bc Af (Ag Dj Af (Aa 5)))) (Ai (Ao 7 Hr.nd (Gd (Ep Ae))) (Ai (Ao 8 Hr.nd (Gd (Ep Ae))) (Ai (Ex PassesOwn.never rfl (Gs rfl T.Gj (Ac (Aa 5) Ae)) (Aq 9 Hr.nd) (Ai (Ao 10 Hr.nd (Aw (Ey T) T.Eg hr (Ac (Aa 0) (Ac (Ag Bc (Aa 6) (Aa 9)) Ae)))) (Ai (Ao 11 Hr.nd (Ak Al (Ak Al (Aa 2) Af) (Aa 9))) (Ai (Bw (Bs (Dq hr.units) (Ak Al (Ak Al (Ak Al (Aa 1) Af) (Aa 9)) Af) Dc (nomark _)) (Ai (Ao 12 Hr.nd (Ag Bc (Ag Ha (Ak Al (Ak Al (Ak Al (Aa 1) Af) (Aa 9)) Af) (Aa 11)) Af)) (An (Ao 11 Hr.nd (Ag Bc (Aa 11) (Ag Dj (Ag Bx (Aw (Ob T) T.K5 hr (Ac (Ag Dv (Aa 10) Af) (Ac (Aa 4) Ae))) (Aa 12)) (Ag Bx (Aa 10) Af)))))) Ci) (Ai (Es (Gi PySem.F.slot_list_append PySem.F.type_list_append Gw (Aa 7) (Ac (Aa 11) Ae))) (An (Es (Gi PySem.F.slot_list_append PySem.F.type_list_append Gw (Aa 8) (Ac (Gn Ht rfl T.H8 Hf (Ac (Ck (Hj rfl (Fg (dn:=(Ar Nq).names) (N0:=Qv) (N:=["_law_number_here","_law_unit_here","_law_cell"]) (nt:=1) (caps:=[4,10])) (Gm (Ak Al (Ak Al (Aa 2) Af) (Aa 9))) (λC s₀ H₀ ex=>(Aq 0 (show(["_law_number_here","_law_unit_here","_law_cell"]:List Str).Nodup by decide +kernel))) (Ds (by decide)) (λC s₀ H₀ ex=>Fl) (λC s₀ H₀ ex=>(Ag Bc (Aa 0) (Ag Dj (Aa 1) (Ag Bx (Ag Dv (Aa 2) Af) Af)))))) Ae)) Ae))))))))) (Ai (Ao 13 Hr.nd (Gd (Ep Ae))) (Ai (Ex PassesOwn.never rfl (Gs rfl T.Gj (Ac (Cu Eh rfl T.Ed Eb (Ac (Aa 3) Ae)) Ae)) (Aq 14 Hr.nd) (Ai (Ma (Mr 15 rfl Hr.nd (Fg (dn:=(Ar Nq).names) (N0:=Qv) (N:=["_law_k","_law_script","_law_many","_law_b","_law_at"]) (nt:=1) (caps:=[0,5,6,14])) (Gs rfl T.Gj (Ac (Aa 5) Ae)) (λC s₀ H₀ ex=>(Aq 0 (show(["_law_k","_law_script","_law_many","_law_b","_law_at"]:List Str).Nodup by decide +kernel))) (Ds (by decide)) (λC s₀ H₀ ex=>Fl) (λC s₀ H₀ ex=>(Aw (Ey T) T.Eg hr (Ac (Aa 1) (Ac (Ag Bc (Ag Bc (Ag Bc (Aa 3) (Aa 2)) (Ag Dj (Aa 4) (Aa 2))) (Aa 0)) Ae)))))) (Ai (Ma (Ao 16 Hr.nd (Hj rfl (Fg (dn:=(Ar Nq).names) (N0:=Qv) (N:=["_law_cell","_law_unit_here"]) (nt:=1) (caps:=[4])) (Gm (Aa 15)) (λC s₀ H₀ ex=>(Aq 0 (show(["_law_cell","_law_unit_here"]:List Str).Nodup by decide +kernel))) (Ds (by decide)) (λC s₀ H₀ ex=>Fl) (λC s₀ H₀ ex=>(Ag Dj (Aw (Ob T) T.K5 hr (Ac (Ag Dv (Aa 0) Af) (Ac (Aa 1) Ae))) (Ag Bx (Aa 0) Af)))))) (An (Es (Gi PySem.F.slot_list_append PySem.F.type_list_append Gw (Aa 13) (Ac (Gn Ht rfl T.H8 Hf (Ac (Ck (Hj rfl (Fg (dn:=(Ar Nq).names) (N0:=Qv) (N:=["_law_k","_law_lows","_law_at","_law_added_here"]) (nt:=1) (caps:=[3,14,16])) (Gs rfl T.Gj (Ac (Aa 5) Ae)) (λC s₀ H₀ ex=>(Aq 0 (show(["_law_k","_law_lows","_law_at","_law_added_here"]:List Str).Nodup by decide +kernel))) (Ds (by decide)) (λC s₀ H₀ ex=>Fl) (λC s₀ H₀ ex=>(Ag Bc (Ak Al (Ak Al (Aa 1) (Aa 2)) (Aa 0)) (Ak Al (Aa 3) (Aa 0)))))) Ae)) Ae))))))) (An (Bl (Dp (Ac (Dp (Ac (Gn Ht rfl T.H8 Hf (Ac (Aa 7) Ae)) (Ac (Gn Ht rfl T.H8 Hf (Ac (Aa 8) Ae)) Ae))) (Ac (Aa 13) Ae)))))))))))))
theorem ZMP(T:Txt K mg):FnO P w K mg base 4 "_law_ask" ZER Ri:=by
 refine Cg T.Yb.F Ke λcdv A outer s H E hr=>?_
 exact(Ai (Ao 2 Ke.nd (Cu Eh rfl T.Ed Eb (Ac (Ak Al (Aa 1) Af) Ae))) (Ai (Ao 3 Ke.nd (Ag Bc Af (Ag Dj Af (Aa 2)))) (Ai (Ex PassesOwn.never rfl (Gs rfl T.Gj (Ac (Aa 2) Ae)) (Aq 4 Ke.nd) (Ai (Ao 5 Ke.nd (Ag Bx (Ag Bc (Aw (Ey T) T.Eg hr (Ac (Aa 0) (Ac (Aa 3) Ae))) (Aa 4)) (Aa 2))) (Ai (Ao 6 Ke.nd (Ak Al (Ak Al (Ak Al (Aa 1) Af) (Aa 5)) Af)) (Ai (Ao 7 Ke.nd Dc) (Ai (Bw (Bs (Dq hr.units) (Aa 6) Dc (nomark _)) (An (Ao 7 Ke.nd (Ak Al (Ck (Ep (Ac Dc (Ac Dc (Ac Dc (Ac Dc Ae)))))) (Ag Bx (Aw (Ey T) T.Eg hr (Ac (Aa 0) (Ac (Ag Bc (Aa 3) Af) Ae))) Af)))) Ci) (An (Bw (Bs (Ra hr.units) (Aa 6) Dc (nomark _)) (Ai (Ao 8 Ke.nd (Aw (Ey T) T.Eg hr (Ac (Aa 0) (Ac (Ag Bc (Aa 3) Af) Ae)))) (Ai (Ao 9 Ke.nd (Ag Ha (Aw (Ob T) T.K5 hr (Ac (Ag Dv (Aa 8) Af) (Ac (Ck (Aw (Qw T) T.Kz hr (Ac (Aa 0) Ae))) Ae))) (Ag Bx (Ag Dv (Aa 8) Af) Af))) (An (Bl (Dp (Ac (Aa 7) (Ac (Aa 5) (Ac (Ak Al (Ck (Ep (Ac Dc (Ac Dc Ae)))) (Ag Bx (Aa 8) Af)) (Ac (Aa 9) Ae))))))))) Ci))))))) (An (Bl Fw)))))
theorem ZNg(T:Txt K mg):FnO P w K mg base 1 "_law_column" ZBS Wm:=by
 refine Cg T.Zj.F ZLa λcdv A outer s H E hr=>?_
 exact(An (Bl (Ak (ZJp hr.units) (ZKR (K1 Af (K1 Af (K1 Af (K1 Af (K1 Af ZJU)))))) (Aa 0))))
theorem ZSp(T:Txt K mg):FnO P w K mg base 1 "_law_due" ZBU Xi:=by
 refine Cg T.Xd.F Nr λcdv A outer s H E hr=>?_
 exact(Ai (Ao 2 Nr.nd (Dp (Ac Dc (Ac Fw (Ac Fw Ae))))) (Ai (Ex PassesOwn.never rfl (Gs rfl T.Gj (Ac (Cu Eh rfl T.Ed Eb (Ac (Aa 0) Ae)) Ae)) (Aq 3 Nr.nd) (Ai (Bw (Hd (Kc (Hd (Oo (Bs (Dq hr.units) (Ak Al (Aa 1) Af) Dc (nomark _)) (O4 (Bs Jd (Ak Al (Aa 0) (Aa 3)) (Ak Al (Aa 1) Af) (nomark _))))) (Lk (Hd (Oo (Bs (Dq hr.units) (Ak Al (Aa 1) Af) Dc (nomark _)) (O4 (Bs Kr (Ak Al (Aa 0) (Aa 3)) (Ak Al (Aa 1) Af) (nomark _)))))))) (An (Bl (Dp (Ac Dc (Ac (Aa 3) (Ac (Ak Al (Aa 0) (Aa 3)) Ae)))))) Ci) (Ai (Ao 4 Nr.nd (Jg Xl (Ak Al (Aa 2) Af) Fw (nomark _))) (Ai (Bw (Hd (Oo (Kw (Hk (Aa 4))) (O4 (Bs (Dq hr.units) (Ak Al (Aa 1) Af) Dc (nomark _))))) (An (Ao 4 Nr.nd (Jg Jd (Ak Al (Aa 0) (Aa 3)) (Ak Al (Aa 2) Af) (nomark _)))) (An (Bw (Kw (Hk (Aa 4))) (An (Ao 4 Nr.nd (Jg Kr (Ak Al (Aa 0) (Aa 3)) (Ak Al (Aa 2) Af) (nomark _)))) Ci))) (An (Bw (Hk (Aa 4)) (An (Ao 2 Nr.nd (Dp (Ac Dc (Ac (Aa 3) (Ac (Ak Al (Aa 0) (Aa 3)) Ae)))))) Ci)))))) (An (Bl (Aa 2)))))
theorem ZNd(T:Txt K mg):FnO P w K mg base 4 "_law_floods" ZCT Th:=by
 refine Cg T.X5.F R6 λcdv A outer s H E hr=>?_
 exact(Ai (Ao 3 R6.nd (Cu Eh rfl T.Ed Eb (Ac (Ak Al (Aa 1) Af) Ae))) (Ai (Ao 4 R6.nd (Ag Bc Af (Ag Dj Af (Aa 3)))) (Ai (Ao 5 R6.nd (Gd (Ep Ae))) (Ai (Ex PassesOwn.never rfl (Gs rfl T.Gj (Ac (Aa 2) Ae)) (Aq 6 R6.nd) (Ai (Ma (Mr 7 rfl R6.nd (Fg (dn:=(Ar Ti).names) (N0:=Wo) (N:=["_law_k","_law_script","_law_many","_law_b","_law_at"]) (nt:=1) (caps:=[0,3,4,6])) (Gs rfl T.Gj (Ac (Aa 3) Ae)) (λC s₀ H₀ ex=>(Aq 0 (show(["_law_k","_law_script","_law_many","_law_b","_law_at"]:List Str).Nodup by decide +kernel))) (Ds (by decide)) (λC s₀ H₀ ex=>Fl) (λC s₀ H₀ ex=>(Aw (Ey T) T.Eg hr (Ac (Aa 1) (Ac (Ag Bc (Ag Bc (Aa 3) (Ag Dj (Aa 4) (Aa 2))) (Aa 0)) Ae)))))) (An (Es (Gi PySem.F.slot_list_append PySem.F.type_list_append Gw (Aa 5) (Ac (Gn Ht rfl T.H8 Hf (Ac (Ck (Hj rfl (Fg (dn:=(Ar Ti).names) (N0:=Wo) (N:=["_law_cell","_law_script"]) (nt:=1) (caps:=[0])) (Gm (Aa 7)) (λC s₀ H₀ ex=>(Aq 0 (show(["_law_cell","_law_script"]:List Str).Nodup by decide +kernel))) (Ds (by decide)) (λC s₀ H₀ ex=>Fl) (λC s₀ H₀ ex=>(Aw (Ob T) T.K5 hr (Ac (Aa 0) (Ac (Ck (Aw (Qw T) T.Kz hr (Ac (Aa 1) Ae))) Ae)))))) Ae)) Ae)))))) (An (Bl (Aa 5)))))))
theorem ZRs(T:Txt K mg):FnO P w K mg base 1 "_law_pumped" ZAu W7:=by
 refine Cg T.W5.F Q6 λcdv A outer s H E hr=>?_
 exact(Ai (Ao 1 Q6.nd Af) (Ai (Ex PassesOwn.never rfl (Gm (Aa 0)) (Eo rfl (Bh (Aq 2 Q6.nd) (Bh (Aq 3 Q6.nd) (Bh (Aq 4 Q6.nd) Em)))) (An (Bw (Bs (Dq hr.units) (Aa 4) Dc (nomark _)) (An (Ao 1 Q6.nd (Ag Bc (Aa 1) (Aa 3)))) Ci))) (An (Bl (Aa 1)))))
theorem ZSZ(T:Txt K mg):FnO P w K mg base 1 "_law_steps" ZA4 Vy:=by
 refine Cg T.Wg.F Ld λcdv A outer s H E hr=>?_
 exact(Ai (Ao 3 Ld.nd (Gd (Ep Ae))) (Ai (Ao 4 Ld.nd Af) (Ai (Ex PassesOwn.never rfl (Gs rfl T.Gj (Ac (Ag Bx (Ak Al (Aa 0) Af) Af) Ae)) (Aq 5 Ld.nd) (Ai (Ao 4 Ld.nd (Ag Bc (Aa 4) (Ag Dj (Aa 1) (Ag Bx (Ak Al (Aa 0) (Ag Bc Af (Aa 5))) Af)))) (Ai (Ao 6 Ld.nd (Ag Bc Af (Ag Dj (Aa 1) (Ag Bx (Ag Dv (Ak Al (Aa 0) (Ag Bc Af (Aa 5))) Af) Af)))) (Ai (Ao 7 Ld.nd Dc) (Ai (Bw (Hd (Oo (Hk (Aa 2)) (O4 (Bs (Dq hr.units) (Ag Bx (Ag Dv (Ak Al (Aa 0) (Ag Bc Af (Aa 5))) Af) Af) Af (nomark _))))) (An (Ao 7 Ld.nd Dc)) Ci) (Ai (Es (Gi PySem.F.slot_list_append PySem.F.type_list_append Gw (Aa 3) (Ac (Dp (Ac (Aa 4) (Ac (Aa 6) (Ac (Aa 7) Ae)))) Ae))) (An (Ao 4 Ld.nd (Ag Bc (Aa 4) (Aa 6)))))))))) (An (Bl (Gn Ht rfl T.H8 Hf (Ac (Aa 3) Ae)))))))
theorem ZHF(T:Txt K mg):FnO P w K mg base 3 "_law_year" ZCI Kq:=by
 refine Cg T.Rv.F ZSU λcdv A outer s H E hr=>?_
 exact(An (Bl (Ag Bc Af (Ag Bx (Aw (Ey T) T.Eg hr (Ac (Aa 0) (Ac Af Ae))) Af))))
theorem ZTW(T:Txt K mg):FnO P w K mg base 4 "_law_rule" ZBX Yr:=by
 refine Cg T.Xc.F Js λcdv A outer s H E hr=>?_
 exact(Ai (Ao 4 Js.nd (Aw (ZHF T) T.Rv hr (Ac (Aa 0) Ae))) (Ai (Ao 5 Js.nd (Gd (Ep Ae))) (Ai (Ao 6 Js.nd Af) (Ai (Ex PassesOwn.never rfl (Gs rfl T.Gj (Ac Af Ae)) (Aq 7 Js.nd) (Ai (Ao 8 Js.nd (Ag Bx (Ag Dj (Ag Dj (Aw (Ey T) T.Eg hr (Ac (Aa 0) (Ac (Ag Bc (Aa 1) Af) Ae))) Af) (Ag Bc (Ag Dj (Aa 7) (Aa 7)) Af)) Af)) (Ai (Ma (Mr 9 rfl Js.nd (Fg (dn:=(Ar Rz).names) (N0:=Zz) (N:=["_law_k","_law_script","_law_b","_law_j"]) (nt:=1) (caps:=[0,1,7])) (Gs rfl T.Gj (Ac Af Ae)) (λC s₀ H₀ ex=>(Aq 0 (show(["_law_k","_law_script","_law_b","_law_j"]:List Str).Nodup by decide +kernel))) (Ds (by decide)) (λC s₀ H₀ ex=>Fl) (λC s₀ H₀ ex=>(Ag Dv (Aw (Ey T) T.Eg hr (Ac (Aa 1) (Ac (Ag Bc (Ag Bc (Aa 2) Af) (Ag Bx (Ag Bc (Ag Dj Af (Aa 3)) (Aa 0)) Af)) Ae))) (Ag Bc Af (Ag Dj Af (Ag Dv (Aa 3) Af))))))) (Ai (Bw (Hk (Aw (ZHG T) T.Rh hr (Ac (Aa 0) Ae))) (Ai (Ao 8 Js.nd (Ag Dv (Aw (Ey T) T.Eg hr (Ac (Aa 0) (Ac (Ag Bc (Aa 1) Af) Ae))) (Ak Al (Ck (Ep (Ac Af (Ac Af (Ac Af (Ac Af Ae)))))) (Aa 7)))) (An (Ma (Mr 9 rfl Js.nd (Fg (dn:=(Ar Rz).names) (N0:=Zz) (N:=["_law_k","_law_script","_law_b","_law_j"]) (nt:=1) (caps:=[0,1,7])) (Gs rfl T.Gj (Ac Af Ae)) (λC s₀ H₀ ex=>(Aq 0 (show(["_law_k","_law_script","_law_b","_law_j"]:List Str).Nodup by decide +kernel))) (Ds (by decide)) (λC s₀ H₀ ex=>Fl) (λC s₀ H₀ ex=>(Ag Dv (Aw (Ey T) T.Eg hr (Ac (Aa 1) (Ac (Ag Bc (Ag Bc (Aa 2) Af) (Aa 0)) Ae))) (Ak Al (Ck (Ep (Ac Af (Ac Af (Ac Af (Ac Af Ae)))))) (Aa 3)))))))) Ci) (An (Bw (Hd (Kc (Bs (Dq hr.units) (Aa 7) Af (nomark _)) (Lk (Hd (Oo (Bs (Dq hr.units) (Ag Bx (Aa 8) Af) Af (nomark _)) (O4 (Bs Jd (Ag Bc (Aa 6) Af) (Aa 4) (nomark _)))))))) (Ai (Bw (Bs Kr (Aa 7) Af (nomark _)) (An (Ao 6 Js.nd (Ag Bc (Ag Bc (Aa 6) Af) (Ag Bx (Ag Dv (Aa 8) Af) (Ag Ha (Ag Ha (Aa 4) (Aa 6)) Af))))) Ci) (An (Es (Gi PySem.F.slot_list_append PySem.F.type_list_append Gw (Aa 5) (Ac (Dp (Ac (Aa 6) (Ac (Aw (ZSZ T) T.Wg hr (Ac (Aa 9) (Ac (Aa 2) (Ac (Aa 3) Ae)))) Ae))) Ae))))) Ci)))))) (An (Bl (Gn Ht rfl T.H8 Hf (Ac (Aa 5) Ae))))))))
theorem ZQv(T:Txt K mg):FnO P w K mg base 5 "_law_basin" ZEW Um:=by
 refine Cg T.We.F K4 λcdv A outer s H E hr=>?_
 exact(Ai (Ao 5 K4.nd (Ck (Aw (Qw T) T.Kz hr (Ac (Aa 0) Ae)))) (Ai (Ao 6 K4.nd (Aw (Ey T) T.Eg hr (Ac (Aa 0) (Ac (Ag Bc (Aa 1) Af) Ae)))) (Ai (Ao 7 K4.nd (ZCA (Jg Kr (Cu Eh rfl T.Ed Eb (Ac (Aa 3) Ae)) Af (nomark _)) (ZAY (Jg (Dq hr.units) (Ag Bx (Aa 6) Af) Af (nomark _))))) (Ai (Ao 8 K4.nd (Aw (ZTW T) T.Xc hr (Ac (Aa 0) (Ac (Aa 1) (Ac (Aa 5) (Ac (Aa 7) Ae)))))) (Ai (Ao 9 K4.nd Fw) (Ai (Bw (Hk (Aa 7)) (Ai (Ao 10 K4.nd (Ag Bc (Cu (ZHd rfl) rfl T.ZDf ZCL (Ac (Ck (Hj rfl (Fg (dn:=(Ar Wc).names) (N0:=ZCg) (N:=["_law_season"]) (nt:=1) (caps:=[])) (Gm (Aa 8)) (λC s₀ H₀ ex=>(Aq 0 (show(["_law_season"]:List Str).Nodup by decide +kernel))) (Ds (by decide)) (λC s₀ H₀ ex=>Fl) (λC s₀ H₀ ex=>(Aw (ZRs T) T.W5 hr (Ac (Ak Al (Aa 0) Af) Ae))))) Ae)) (Ag Dj (Aa 5) (Ag Bx (Ag Dv (Aa 6) Af) Af)))) (Ai (Ao 11 K4.nd (Ak Al (Aa 3) (Ag Bx (Ag Bc (Ag Bc (Aa 2) Af) (Ag Bx (Ag Dv (Aa 6) Af) (Ag Ha (Cu Eh rfl T.Ed Eb (Ac (Aa 3) Ae)) Af))) (Cu Eh rfl T.Ed Eb (Ac (Aa 3) Ae))))) (An (Ao 9 K4.nd (Dp (Ac (Aa 11) (Ac (Ag Bc Af (Ag Bx (Ag Dv (Aa 6) Af) Af)) (Ac (Aa 10) Ae)))))))) Ci) (Ai (Ao 12 K4.nd (Aw (Ob T) T.K5 hr (Ac (Aw (Ey T) T.Eg hr (Ac (Aa 0) (Ac (Ag Bc (Aa 1) Af) Ae))) (Ac (Aa 5) Ae)))) (An (Bl (Dp (Ac Dc (Ac (Ak Al (Aa 3) (Aa 2)) (Ac (Ak Al (Aa 4) Af) (Ac (Ak Al (Aa 4) Af) (Ac (Aa 12) (Ac (Aa 8) (Ac (Aa 9) Ae)))))))))))))))))
theorem ZOc(T:Txt K mg):FnO P w K mg base 1 "_law_name" ZCY Ym:=by
 refine Cg T.Zb.F ZC1 λcdv A outer s H E hr=>?_
 exact(Ai (Ao 3 ZC1.nd (Ak Al Dc (Ag Bx (Ag Dv (Aa 0) Af) Af))) (Ai (Bw (Hd (Oo (Bs (Dq hr.units) (Ag Bx (Aa 0) Af) Af (nomark _)) (O4 (Bs Jd (Aa 2) Af (nomark _))))) (An (Bl (Ag Dj (Aa 3) (Ag Bc (Aa 1) Af)))) Ci) (Ai (Ao 4 ZC1.nd (Ak Al Dc (Ag Bx (Ag Bc (Ag Dj Af (Aa 1)) (Ag Dv (Aa 0) Af)) Af))) (Ai (Bw (Bs (Dq hr.units) (Ag Bx (Aa 0) Af) Af (nomark _)) (An (Bl (Ag Bc (Aa 4) (Ag Dj (Aa 3) (Ag Bx (Ag Dv (Aa 0) Af) Af))))) Ci) (An (Bl (Ag Bc (Ag Bc (Ag Dj (Aa 3) (Ag Bx (Ag Dv (Aa 0) Af) Af)) (Aa 4)) (Ag Dj (Aa 3) (Ag Ha Af (Ag Bx (Ag Dv (Aa 0) Af) Af))))))))))
theorem ZTD(T:Txt K mg):FnO P w K mg base 6 "_law_house" ZDd Tv:=by
 refine Cg T.ZAR.F Hl λcdv A outer s H E hr=>?_
 exact(Ai (Ao 1 Hl.nd (Aw (Ey T) T.Eg hr (Ac (Aa 0) (Ac Af Ae)))) (Ai (Ao 2 Hl.nd (Ag Bc Af (Ag Bx (Aa 1) Af))) (Ai (Ma (Mr 3 rfl Hl.nd (Fg (dn:=(Ar Xu).names) (N0:=ZDp) (N:=["_law_k","_law_script","_law_many"]) (nt:=1) (caps:=[0,2])) (Gs rfl T.Gj (Ac (Aa 2) Ae)) (λC s₀ H₀ ex=>(Aq 0 (show(["_law_k","_law_script","_law_many"]:List Str).Nodup by decide +kernel))) (Ds (by decide)) (λC s₀ H₀ ex=>Fl) (λC s₀ H₀ ex=>(Aw (ZOc T) T.Zb hr (Ac (Aw (Ey T) T.Eg hr (Ac (Aa 1) (Ac Af Ae))) (Ac (Aa 0) (Ac (Aa 2) Ae))))))) (Ai (Ao 5 Hl.nd (Gd (Ep Ae))) (Ai (Ex PassesOwn.never rfl (Gs rfl T.Gj (Ac (Aa 2) Ae)) (Aq 4 Hl.nd) (Ai (Ao 6 Hl.nd (Ag Bc Af (Ag Dj Af (Aa 4)))) (Ai (Ao 7 Hl.nd (Ag Bx (Aw (Ey T) T.Eg hr (Ac (Aa 0) (Ac (Ag Bc (Aa 6) Af) Ae))) (Ag Ha (Aa 2) (Aa 4)))) (Ai (Bw (Bs (Dq hr.units) (Ag Bx (Ag Dv (Aa 1) Af) Af) Af (nomark _)) (An (Ao 7 Hl.nd (Cu (Ys rfl) rfl T.Pq Qf (Ac Af (Ac (Ag Ha (Ag Ha (Aa 2) Af) (Aa 4)) Ae))))) Ci) (Ai (Ao 8 Hl.nd (Aw (Ey T) T.Eg hr (Ac (Aa 0) (Ac (Ag Bc (Aa 6) Af) Ae)))) (Ai (Ao 9 Hl.nd (Dp (Ac Dc (Ac (Ag Dj (Ag Bx (Aa 8) Af) (Ag Bx (Ag Dv (Aa 8) Af) Af)) Ae)))) (Ai (Bw (Bs Kr (Aa 7) Af (nomark _)) (An (Ao 9 Hl.nd (Dp (Ac (Ak Al (Aa 3) (Ag Bc (Aa 4) (Aa 7))) (Ac (Ak Al (Aa 9) Af) Ae))))) Ci) (Ai (Ao 10 Hl.nd (Ag Bx (Aw (Ey T) T.Eg hr (Ac (Aa 0) (Ac (Aa 6) Ae))) Af)) (Ai (Ao 11 Hl.nd (Aw (Ob T) T.K5 hr (Ac (Aw (Ey T) T.Eg hr (Ac (Aa 0) (Ac (Ag Bc (Aa 6) Af) Ae))) (Ac (Ck (Aw (Qw T) T.Kz hr (Ac (Aa 0) Ae))) Ae)))) (Ai (Ao 12 Hl.nd (Ag Bx (Aw (Ey T) T.Eg hr (Ac (Aa 0) (Ac (Ag Bc (Aa 6) Af) Ae))) (Ak Al (Ck (Ep (Ac Af (Ac (Ag O6 Af Af) Ae)))) (Ag Bx (Ag Dv (Aa 1) Af) Af)))) (An (Bw (Bs Jd (Aa 10) Af (nomark _)) (An (Es (Gi PySem.F.slot_list_append PySem.F.type_list_append Gw (Aa 5) (Ac (Ck (Aw (ZQv T) T.We hr (Ac (Aa 0) (Ac (Aa 6) (Ac (Aa 4) (Ac (Aa 3) (Ac (Aa 9) Ae))))))) Ae)))) (An (Bw (Bs Jd (Aa 10) Af (nomark _)) (An (Es (Gi PySem.F.slot_list_append PySem.F.type_list_append Gw (Aa 5) (Ac (Dp (Ac Dc (Ac (Ak Al (Aa 3) (Aa 4)) (Ac (Ak Al (Aa 9) Af) (Ac (Ak Al (Aa 9) Af) (Ac (Aa 11) (Ac (Aa 12) Ae))))))) Ae)))) (An (Es (Gi PySem.F.slot_list_append PySem.F.type_list_append Gw (Aa 5) (Ac (Dp (Ac Dc (Ac (Ak Al (Aa 3) (Aa 4)) (Ac (Ak Al (Aa 9) Af) (Ac (Ak Al (Aa 9) Af) (Ac (Aa 11) Ae)))))) Ae)))))))))))))))))) (An (Bl (Dp (Ac (Aw (ZHF T) T.Rv hr (Ac (Aa 0) Ae)) (Ac (Gn Ht rfl T.H8 Hf (Ac (Aa 5) Ae)) Ae))))))))))
theorem ZQn(T:Txt K mg):FnO P w K mg base 3 "_law_number" ZA6 Qy:=by
 refine Cg T.Xk.F ZJ1 λcdv A outer s H E hr=>?_
 exact(Ai (Ao 1 ZJ1.nd (Aw (Ey T) T.Eg hr (Ac (Aa 0) (Ac Af Ae)))) (An (Bl (Ag Bx (Ag Dv (Aa 1) Af) (Ak Al (Ck (Ep (Ac Af (Ac (Ag O6 Af Af) Ae)))) (Ag Bx (Aa 1) Af))))))
theorem ZPH(T:Txt K mg):FnO P w K mg base 4 "_law_state" ZBv Us:=by
 refine Cg T.Zv.F Iu λcdv A outer s H E hr=>?_
 exact(Ai (Ao 2 Iu.nd (Ak Al (Aa 1) Af)) (Ai (Ao 3 Iu.nd (Ck (Aw (Qw T) T.Kz hr (Ac (Aa 0) Ae)))) (Ai (Ao 4 Iu.nd (Ag Bc Af (Ag Dj Af (Cu Eh rfl T.Ed Eb (Ac (Aa 2) Ae))))) (Ai (Ao 5 Iu.nd (Gd (Ep Ae))) (Ai (Ao 6 Iu.nd (Gd (Ep Ae))) (Ai (Ex PassesOwn.never rfl (Gs rfl T.Gj (Ac (Cu Eh rfl T.Ed Eb (Ac (Aa 2) Ae)) Ae)) (Aq 7 Iu.nd) (Ai (Ao 8 Iu.nd Af) (Ai (Bw (Bs (Dq hr.units) (Ak Al (Ak Al (Aa 2) (Aa 7)) Af) Dc (nomark _)) (An (Ao 8 Iu.nd (Ag Bx (Aw (Ob T) T.K5 hr (Ac (Aw (Ey T) T.Eg hr (Ac (Aa 0) (Ac (Ag Bc (Aa 4) (Aa 7)) Ae))) (Ac (Aa 3) Ae))) (Ag Bc (Ak Al (Ak Al (Aa 2) (Aa 7)) Af) Af)))) Ci) (Ai (Es (Gi PySem.F.slot_list_append PySem.F.type_list_append Gw (Aa 5) (Ac (Aa 8) Ae))) (Ai (Ao 9 Iu.nd (Aw (Ey T) T.Eg hr (Ac (Aa 0) (Ac (Ag Bc (Ag Bc (Aa 4) (Cu Eh rfl T.Ed Eb (Ac (Aa 2) Ae))) (Aa 7)) Ae)))) (Ai (Ao 10 Iu.nd (Gd (Ep Ae))) (Ai (Ex PassesOwn.never rfl (Gs rfl T.Gj (Ac Af Ae)) (Aq 11 Iu.nd) (Ai (Es (Gi PySem.F.slot_list_append PySem.F.type_list_append Gw (Aa 10) (Ac (Ag Dj (Aa 3) (Ag Bx (Aa 9) Af)) Ae))) (An (Ao 9 Iu.nd (Ag Dv (Aa 9) Af))))) (An (Es (Gi PySem.F.slot_list_append PySem.F.type_list_append Gw (Aa 6) (Ac (Gn Ht rfl T.H8 Hf (Ac (Aa 10) Ae)) Ae))))))))))) (An (Bl (Dp (Ac (Gn Ht rfl T.H8 Hf (Ac (Aa 5) Ae)) (Ac (Gn Ht rfl T.H8 Hf (Ac (Aa 6) Ae)) Ae)))))))))))
theorem ZSL(T:Txt K mg):FnO P w K mg base 1 "_law_told" ZEQ Rr:=by
 refine Cg T.Yc.F ZEp λcdv A outer s H E hr=>?_
 exact(Ai (Bw (Hd (Kc (Kw (Hk (Cu Ze rfl T.Yw Yl (Ac (Aa 0) (Ac (Vr rfl T.H8 Hf) Ae))))) (Kc (Bs (Ra hr.units) (Cu Eh rfl T.Ed Eb (Ac (Aa 0) Ae)) Af (nomark _)) (Lk (Kw (Hk (Cu Ze rfl T.Yw Yl (Ac (Ak Al (Aa 0) Af) (Ac (Vr rfl T.ZLI ZN5) Ae))))))))) (An (Bl Oi)) Ci) (Ai (Ex PassesOwn.never rfl (Gm (Ck (ZG8 (Aa 0) (ZJt Af) ZJz))) (Aq 1 ZEp.nd) (An (Bw (Hd (Oo (Bs Qp (Aa 1) Fw (nomark _)) (O4 (Hd (Kc (Kw (Hk (Cu Ze rfl T.Yw Yl (Ac (Aa 1) (Ac (Vr rfl T.ZPJ ZQt) Ae))))) (Lk (Hk (Cu Ze rfl T.Yw Yl (Ac (Aa 1) (Ac (Vr rfl T.ZLW ZOq) Ae)))))))))) (An (Bl Oi)) Ci))) (An (Bl Oi))))
theorem ZNE(T:Txt K mg):FnO P w K mg base 1 "is_beyond" ZCi Y0:=by
 refine Cg T.ZAM.F ZQJ λcdv A outer s H E hr=>?_
 exact(Ai (Bw (Bs (Dq hr.units) (Aa 1) Dc (nomark _)) (An (Bl (Jg Jd (Aa 0) (Aa 2) (nomark _)))) Ci) (An (Bl (Jg Kr (Aa 0) (Aa 2) (nomark _)))))
theorem ZK9(T:Txt K mg):FnO P w K mg base 1 "part_asked" ZDK W3:=by
 refine Cg T.ZAN.F ZRl λcdv A outer s H E hr=>?_
 exact(An (Bl (Ak (ZJp hr.units) (ZKR (K1 (Cq (v:=(.int 5)) rfl T.Zc ⟨_,rfl⟩ (λ_ _=>rfl)) (K1 (Cq (v:=(.int 2)) rfl T.ZB0 ⟨_,rfl⟩ (λ_ _=>rfl)) (K1 (Cq (v:=(.int 3)) rfl T.ZBJ ⟨_,rfl⟩ (λ_ _=>rfl)) (K1 (Cq (v:=(.int 4)) rfl T.ZCK ⟨_,rfl⟩ (λ_ _=>rfl)) (K1 (Cq (v:=(.int 1)) rfl T.ZCU ⟨_,rfl⟩ (λ_ _=>rfl)) ZJU)))))) (Aa 0))))
theorem ZRn(T:Txt K mg):FnO P w K mg base 2 "answered" ZCD Xg:=by
 refine Cg T.ZAd.F Kh λcdv A outer s H E hr=>?_
 exact(Ai (Hw (Aa 1) (Eo rfl (Bh (Aq 2 Kh.nd) (Bh (Aq 3 Kh.nd) (Bh (Aq 4 Kh.nd) (Bh (Aq 5 Kh.nd) Em)))))) (Ai (Ao 6 Kh.nd (Aw (ZK9 T) T.ZAN hr (Ac (Aa 2) Ae))) (Ai (Ma (Mr 7 rfl Kh.nd (Fg (dn:=(Ar Xa).names) (N0:=ZDY) (N:=["page","place","part"]) (nt:=1) (caps:=[3,6])) (Gm (Aa 0)) (λC s₀ H₀ ex=>(Aq 0 (show(["page","place","part"]:List Str).Nodup by decide +kernel))) (Ds (by decide)) (λC s₀ H₀ ex=>Fl) (λC s₀ H₀ ex=>(Ak Al (Ak Al (Aa 0) (Aa 1)) (Aa 2))))) (Ai (Ex PassesOwn.never rfl (R7 rfl T.Mu (Ac (Aa 7) Ae)) (Eo rfl (Bh (Aq 8 Kh.nd) (Bh (Aq 9 Kh.nd) Em))) (An (Bw (Hk (Aw (ZNE T) T.ZAM hr (Ac (Aa 9) (Ac (Aa 4) (Ac (Aa 5) Ae))))) (An (Bl (Dp (Ac Dc (Ac (Aa 8) (Ac (Aa 9) Ae)))))) Ci))) (Ai (Bw (Bs (Dq hr.units) (Cu Eh rfl T.Ed Eb (Ac (Aa 7) Ae)) Af (nomark _)) (An (Bl (Dp (Ac Dc (Ac Fw (Ac Fw Ae)))))) Ci) (Ai (Ao 10 Kh.nd (ZIC (Bs (Dq hr.units) (Aa 4) Dc (nomark _)) (Cu (ZH0 rfl) rfl T.Pq Qf (Ac (Aa 7) Ae)) (Cu (ZHd rfl) rfl T.ZDf ZCL (Ac (Aa 7) Ae)))) (An (Bl (Dp (Ac Dc (Ac (Gi PySem.F.slot_list_index PySem.F.type_list_index ZJH (Aa 7) (Ac (Aa 10) Ae)) (Ac (Aa 10) Ae))))))))))))
theorem ZN8(T:Txt K mg):FnO P w K mg base 1 "check_ask" ZCP Ww:=by
 refine Cg T.Vk.F Rc λcdv A outer s H E hr=>?_
 exact(Ai (Hw (Aa 1) (Eo rfl (Bh (Aq 2 Rc.nd) (Bh (Aq 3 Rc.nd) (Bh (Aq 4 Rc.nd) (Bh (Aq 5 Rc.nd) Em)))))) (Ai (Bw (Hd (Kc (Bs ZNy (Aa 4) (ZN7 (ss:=["least","most"]) rfl T.ZDl) (by with_unfolding_all rfl)) (Lk (ZLD rfl T.ZAC (Aa 2) (by with_unfolding_all rfl))))) (An U3) Ci) (Ai (Bw (Kw (ZFl Z6 Jd Af (Aa 3) (Cu Eh rfl T.Ed Eb (Ac (Ak Al (Aa 0) (Cq (v:=(.int 1)) rfl T.J9 ⟨_,rfl⟩ (λ_ _=>rfl))) Ae)))) (An U3) Ci) (An (Bw (Bs (Ra hr.units) (Ak Al (Ak Al (Ak Al (Aa 0) (Cq (v:=(.int 1)) rfl T.J9 ⟨_,rfl⟩ (λ_ _=>rfl))) (Aa 3)) (Cq (v:=(.int 0)) rfl T.Od ⟨_,rfl⟩ (λ_ _=>rfl))) (ZOw rfl T.ZAC (Aa 2)) (nomark _)) (An U3) Ci)))))
theorem ZJR(T:Txt K mg):FnO P w K mg base 1 "none_above" ZBT Tf:=by
 refine Cg T.U0.F ZQO λcdv A outer s H E hr=>?_
 exact(Ai (Bw (Bs (Ra hr.units) (Cu Eh rfl T.Ed Eb (Ac (Aa 0) Ae)) (Cu Eh rfl T.Ed Eb (Ac (Aa 1) Ae)) (nomark _)) (An (Bl Oi)) Ci) (An (Bl (Cu (ZGO rfl) rfl T.ZHy ZHp (Ac (Ck (Hj rfl (Fg (dn:=(Ar Va).names) (N0:=ZDm) (N:=["number","other"]) (nt:=2) (caps:=[])) (Zr rfl T.U9 (Ac (Aa 0) (Ac (Aa 1) Ae))) (λC s₀ H₀ ex=>(Eo rfl (Bh (Aq 0 (show(["number","other"]:List Str).Nodup by decide +kernel)) (Bh (Aq 1 (show(["number","other"]:List Str).Nodup by decide +kernel)) Em)))) (Nj (Ii (Ds (by decide)) (Ii (Ds (by decide)) Nm))) (λC s₀ H₀ ex=>Fl) (λC s₀ H₀ ex=>(Jg Z6 (Aa 0) (Aa 1) (nomark _))))) Ae)))))
theorem ZHB(T:Txt K mg):FnO P w K mg base 2 "rows_under" ZAp Nk:=by
 refine Cg T.V1.F ZOL λcdv A outer s H E hr=>?_
 exact(Ai (Bw (Bs (Ra hr.units) (Cu Eh rfl T.Ed Eb (Ac (Aa 0) Ae)) (Cu Eh rfl T.Ed Eb (Ac (Aa 1) Ae)) (nomark _)) (An (Bl Oi)) Ci) (An (Bl (Cu (ZGO rfl) rfl T.ZHy ZHp (Ac (Ck (Hj rfl (Fg (dn:=(Ar Vm).names) (N0:=ZCV) (N:=["flood","other"]) (nt:=2) (caps:=[])) (Zr rfl T.U9 (Ac (Aa 0) (Ac (Aa 1) Ae))) (λC s₀ H₀ ex=>(Eo rfl (Bh (Aq 0 (show(["flood","other"]:List Str).Nodup by decide +kernel)) (Bh (Aq 1 (show(["flood","other"]:List Str).Nodup by decide +kernel)) Em)))) (Nj (Ii (Ds (by decide)) (Ii (Ds (by decide)) Nm))) (λC s₀ H₀ ex=>Fl) (λC s₀ H₀ ex=>(Aw (ZJR T) T.U0 hr (Ac (Aa 0) (Ac (Aa 1) Ae)))))) Ae)))))
theorem ZO6(T:Txt K mg):FnO P w K mg base 3 "under" ZDr Ws:=by
 refine Cg T.Xo.F Uu λcdv A outer s H E hr=>?_
 exact(Ai (Hw (Aa 0) (Eo rfl (Bh (Aq 2 Uu.nd) (Bh (Aq 3 Uu.nd) Em)))) (Ai (Hw (Aa 1) (Eo rfl (Bh (Aq 4 Uu.nd) (Bh (Aq 5 Uu.nd) Em)))) (An (Bl (ZCA (Aw (ZJR T) T.U0 hr (Ac (Aa 2) (Ac (Aa 4) Ae))) (ZAY (Aw (ZHB T) T.V1 hr (Ac (Aa 3) (Ac (Aa 5) Ae)))))))))
theorem ZRf(T:Txt K mg):FnO P w K mg base 4 "check_bounds" ZEY X3:=by
 refine Cg T.Y9.F ZRx λcdv A outer s H E hr=>?_
 exact(An (Bw (Hd (Kc (Kw (Hk (Aw (ZO6 T) T.Xo hr (Ac (Aa 0) (Ac (Aa 1) Ae))))) (Lk (Kw (Hk (Aw (ZHB T) T.V1 hr (Ac (Aa 2) (Ac (Aa 3) Ae)))))))) (An U3) Ci))
theorem ZOG(T:Txt K mg):FnO P w K mg base 1 "looked_through" ZEC Yg:=by
 refine Cg T.Vn.F T6 λcdv A outer s H E hr=>?_
 exact(Ai (Hw (Aa 4) (Eo rfl (Bh (Aq 5 T6.nd) (Bh (Aq 6 T6.nd) (Bh (Aq 7 T6.nd) (Bh (Aq 8 T6.nd) Em)))))) (Ai (Bw (Bs (Dq hr.units) (Aa 7) Dc (nomark _)) (An (Bl (Dp (Ac (Aa 0) (Ac (Aa 2) Ae))))) Ci) (An (Bl (Dp (Ac (Aa 1) (Ac (Aa 3) Ae)))))))
theorem ZNK(T:Txt K mg):MtO P w K mg base 1 "Course" "__init__" ZBn S7:=by
 refine Cg T.Up.F ZAm λcdv A outer s H E hr=>?_
 exact(Ai (Hw (Aa 2) (Eo rfl (Bh (Aq 5 ZAm.nd) (Bh (Aq 6 ZAm.nd) Em)))) (Ai (Nu T.Ba.N T.Ba.cl T.Jv (Aa 0) (Aa 1)) (Ai (Nu T.Ba.N T.Ba.cl T.V6 (Aa 0) (Aa 5)) (Ai (Nu T.Ba.N T.Ba.cl T.Za (Aa 0) (Ag Bx (Aa 3) (Ak Al (Aa 1) (Cq (v:=(.int 0)) rfl T.ZBY ⟨_,rfl⟩ (λ_ _=>rfl))))) (Ai (Nu T.Ba.N T.Ba.cl T.Qj (Aa 0) (Hj rfl (Fg (dn:=(Ar T8).names) (N0:=Vx) (N:=["cubes","ahead"]) (nt:=2) (caps:=[])) (Zr rfl T.U9 (Ac (Aa 4) (Ac (Aa 6) Ae))) (λC s₀ H₀ ex=>(Eo rfl (Bh (Aq 0 (show(["cubes","ahead"]:List Str).Nodup by decide +kernel)) (Bh (Aq 1 (show(["cubes","ahead"]:List Str).Nodup by decide +kernel)) Em)))) (Nj (Ii (Ds (by decide)) (Ii (Ds (by decide)) Nm))) (λC s₀ H₀ ex=>Fl) (λC s₀ H₀ ex=>(Ag Bc (Aa 0) (Ak Al (Aa 1) Af))))) (Ai (Nu T.Ba.N T.Ba.cl T.Sh (Aa 0) (Hj rfl (Fg (dn:=(Ar T8).names) (N0:=Vx) (N:=["ahead"]) (nt:=1) (caps:=[])) (Gm (Aa 6)) (λC s₀ H₀ ex=>(Aq 0 (show(["ahead"]:List Str).Nodup by decide +kernel))) (Ds (by decide)) (λC s₀ H₀ ex=>Fl) (λC s₀ H₀ ex=>(Gd (Ag Bc (Ck (Gn (ZCd rfl) rfl T.Vp Y4 (Ac (Ck (ZG8 (Aa 0) (ZJt Af) ZJz)) Ae))) (Ck (Ep (Ac Af Ae)))))))) (Ai (Nu T.Ba.N T.Ba.cl T.O5 (Aa 0) (Gd (Ag ZHK (Ep (Ac Fw Ae)) (Cu Eh rfl T.Ed Eb (Ac (Aa 5) Ae))))) (An (Nu T.Ba.N T.Ba.cl T.Zh (Aa 0) (Gd (Ep Ae)))))))))))
theorem ZGf(T:Txt K mg):MtO P w K mg base 1 "Course" "send" ZA5 Su:=by
 refine Cg T.Og.F ZNS λcdv A outer s H E hr=>?_
 exact(An (Bw (Bs (Dq hr.units) (Aa 2) Af (nomark _)) (An (Zm (Gg T.Ba.N T.Ba.cl T.Qj (Aa 0)) (Aa 1) (Aa 3) Rm)) (An (Zm (Ak Al (Gg T.Ba.N T.Ba.cl T.Sh (Aa 0)) (Aa 1)) (Ag Ha (Aa 2) Af) (Aa 3) Rm))))
theorem ZHq(T:Txt K mg):FnO P w K mg base 1 "number_of" ZD1 T7:=by
 refine Cg T.Rt.F ZCx λcdv A outer s H E hr=>?_
 exact(Ai (Ex PassesOwn.never rfl (R7 rfl T.Mu (Ac (Ak Al (Aa 0) (Cq (v:=(.int 1)) rfl T.J9 ⟨_,rfl⟩ (λ_ _=>rfl))) Ae)) (Eo rfl (Bh (Aq 2 ZCx.nd) (Bh (Aq 3 ZCx.nd) Em))) (An (Bw (Bs (Dq hr.units) (Ak Al (Aa 3) (Cq (v:=(.int 1)) rfl T.ZDy ⟨_,rfl⟩ (λ_ _=>rfl))) (Aa 1) (nomark _)) (An (Bl (Aa 2))) Ci))) (An U3))
theorem ZG2(T:Txt K mg):FnO P w K mg base 2 "down_of" ZDW Uk:=by
 refine Cg T.Uy.F ZJM λcdv A outer s H E hr=>?_
 exact(Ai (Ao 2 ZJM.nd (Ak Al (Ak Al (Ak Al (Aa 0) (Cq (v:=(.int 1)) rfl T.J9 ⟨_,rfl⟩ (λ_ _=>rfl))) (Aa 1)) (Cq (v:=(.int 2)) rfl T.ZAg ⟨_,rfl⟩ (λ_ _=>rfl)))) (Ai (Bw (Bs (Dq hr.units) (Aa 2) (Cq (v:=(.str "sea")) rfl T.ZCB ⟨_,rfl⟩ (λ_ _=>rfl)) (nomark _)) (An (Bl Fw)) Ci) (An (Bl (Aw (ZHq T) T.Rt hr (Ac (Aa 0) (Ac (Aa 2) Ae)))))))
theorem ZKW(T:Txt K mg):MtO P w K mg base 3 "Course" "send_down" ZB3 Sx:=by
 refine Cg T.O9.F ZF1 λcdv A outer s H E hr=>?_
 exact(Ai (Ao 3 ZF1.nd (Aw (ZG2 T) T.Uy hr (Ac (Gg T.Ba.N T.Ba.cl T.Jv (Aa 0)) (Ac (Aa 1) Ae)))) (An (Bw (Bs Qp (Aa 3) Fw (nomark _)) (An (Es (Qi T.Ba.N T.Ba.cl T.Og.me (ZGf T) (hr.mono (by decide)) T.Og.b pass0 (Aa 0) (Ac (Aa 3) (Ac (Ak Al (Ak Al (Ak Al (Gg T.Ba.N T.Ba.cl T.Jv (Aa 0)) (Cq (v:=(.int 1)) rfl T.J9 ⟨_,rfl⟩ (λ_ _=>rfl))) (Aa 1)) (Cq (v:=(.int 3)) rfl T.Y6 ⟨_,rfl⟩ (λ_ _=>rfl))) (Ac (Aa 2) Ae)))))) Ci)))
theorem ZRB(T:Txt K mg):FnO P w K mg base 1 "opened" ZAe Y8:=by
 refine Cg T.W6.F Le λcdv A outer s H E hr=>?_
 exact(Ai (Ao 2 Le.nd Af) (Ai (Ao 3 Le.nd Af) (Ai (Ex PassesOwn.never rfl (Gm (Aa 0)) (Eo rfl (Bh (Aq 4 Le.nd) (Bh (Aq 5 Le.nd) (Bh (Aq 6 Le.nd) Em)))) (Ai (Ao 7 Le.nd (Cu (ZNs rfl) rfl T.ZDf ZCL (Ac Af (Ac (Cu (Ys rfl) rfl T.Pq Qf (Ac (Aa 5) (Ac (Ag Ha (Aa 1) (Aa 4)) Ae))) Ae)))) (An (Bw (Bs (Dq hr.units) (Aa 6) Dc (nomark _)) (An (ZHC 2 Le.nd (Aa 7) Rm)) (An (ZHC 3 Le.nd (Aa 7) Rm)))))) (An (Bl (Dp (Ac (Aa 2) (Ac (Aa 3) (Ac (Ag Ha (Ag Ha (Aa 1) (Aa 2)) (Aa 3)) Ae)))))))))
theorem ZK6(T:Txt K mg):FnO P w K mg base 1 "stairs_at" ZB6 Yp:=by
 refine Cg T.Yx.F S8 λcdv A outer s H E hr=>?_
 exact(Ai (Ao 2 S8.nd (Dp Ae)) (Ai (Ex PassesOwn.never rfl (Gm (Aa 0)) (Eo rfl (Bh (Aq 3 S8.nd) (Bh (Aq 4 S8.nd) Em))) (An (Bw (Bs Z6 (Aa 3) (Aa 1) (nomark _)) (An (Ao 2 S8.nd (Aa 4))) Ci))) (An (Bl (Aa 2)))))
theorem ZQs(T:Txt K mg):MtO P w K mg base 4 "Course" "go_basin" ZDH Vz:=by
 refine Cg T.Ux.F Ms λcdv A outer s H E hr=>?_
 exact(Ai (Ao 2 Ms.nd (Ak Al (Ak Al (Gg T.Ba.N T.Ba.cl T.Jv (Aa 0)) (Cq (v:=(.int 1)) rfl T.J9 ⟨_,rfl⟩ (λ_ _=>rfl))) (Aa 1))) (Ai (Ao 3 Ms.nd (Ak Al (Gg T.Ba.N T.Ba.cl T.Qj (Aa 0)) (Aa 1))) (Ai (Hw (Aw (ZRB T) T.W6 hr (Ac (Aw (ZK6 T) T.Yx hr (Ac (Ak Al (Aa 2) (Cq (v:=(.int 5)) rfl T.ZAz ⟨_,rfl⟩ (λ_ _=>rfl))) (Ac (Gg T.Ba.N T.Ba.cl T.Za (Aa 0)) Ae))) (Ac (Ag Bc (Ak Al (Gg T.Ba.N T.Ba.cl T.V6 (Aa 0)) (Aa 1)) (Aa 3)) Ae))) (Eo rfl (Bh (Aq 4 Ms.nd) (Bh (Aq 5 Ms.nd) (Bh (Aq 6 Ms.nd) Em))))) (Ai (Ao 7 Ms.nd (Cu (Ys rfl) rfl T.Pq Qf (Ac (Aa 6) (Ac (Ak Al (Aa 2) (Cq (v:=(.int 4)) rfl T.ZCo ⟨_,rfl⟩ (λ_ _=>rfl))) Ae)))) (Ai (Ao 8 Ms.nd (Ag Ha (Aa 6) (Aa 7))) (Ai (Hw (Dp (Ac (Aa 3) (Ac Af (Ac (Aa 8) (Ac (Aa 4) (Ac (Aa 5) (Ac (Aa 7) Ae))))))) (Xy (Gg T.Ba.N T.Ba.cl T.O5 (Aa 0)) (Aa 1))) (Ai (Es (Qi T.Ba.N T.Ba.cl T.O9.me (ZKW T) (hr.mono (by decide)) T.O9.b pass0 (Aa 0) (Ac (Aa 1) (Ac (Ag Bc (Aa 4) (Aa 8)) Ae)))) (An (Bw (Bs Qp (Ak Al (Aa 2) (Cq (v:=(.int 6)) rfl T.Tn ⟨_,rfl⟩ (λ_ _=>rfl))) Fw (nomark _)) (An (Es (Qi T.Ba.N T.Ba.cl T.Og.me (ZGf T) (hr.mono (by decide)) T.Og.b pass0 (Aa 0) (Ac (Aw (ZHq T) T.Rt hr (Ac (Gg T.Ba.N T.Ba.cl T.Jv (Aa 0)) (Ac (Ak Al (Ak Al (Aa 2) (Cq (v:=(.int 6)) rfl T.Tn ⟨_,rfl⟩ (λ_ _=>rfl))) (Cq (v:=(.int 0)) rfl T.ZCf ⟨_,rfl⟩ (λ_ _=>rfl))) Ae))) (Ac (Ak Al (Ak Al (Aa 2) (Cq (v:=(.int 6)) rfl T.Tn ⟨_,rfl⟩ (λ_ _=>rfl))) (Cq (v:=(.int 1)) rfl T.ZBc ⟨_,rfl⟩ (λ_ _=>rfl))) (Ac (Aa 5) Ae)))))) Ci)))))))))
theorem ZJV(T:Txt K mg):FnO P w K mg base 1 "passed" ZCv Q4:=by
 refine Cg T.Uc.F Zo λcdv A outer s H E hr=>?_
 exact(Ai (Mr 2 rfl Zo.nd (Fg (dn:=(Ar ZAD).names) (N0:=ZA2) (N:=["row","take"]) (nt:=2) (caps:=[])) (Zr rfl T.U9 (Ac (Aa 0) (Ac (Aa 1) Ae))) (λC s₀ H₀ ex=>(Eo rfl (Bh (Aq 0 (show(["row","take"]:List Str).Nodup by decide +kernel)) (Bh (Aq 1 (show(["row","take"]:List Str).Nodup by decide +kernel)) Em)))) (Nj (Ii (Ds (by decide)) (Ii (Ds (by decide)) Nm))) (λC s₀ H₀ ex=>Fl) (λC s₀ H₀ ex=>(Ag Ha (Ak Al (Aa 0) (Cq (v:=(.int 1)) rfl T.ZBb ⟨_,rfl⟩ (λ_ _=>rfl))) (Aa 1)))) (Ai (Ex PassesOwn.never rfl (R7 rfl T.Mu (Ac (Aa 0) Ae)) (Eo rfl (Bh (Aq 4 Zo.nd) (Bh (Aq 3 Zo.nd) Em))) (An (Bw (Bs Qp (Ak Al (Aa 3) (Cq (v:=(.int 0)) rfl T.Q9 ⟨_,rfl⟩ (λ_ _=>rfl))) Fw (nomark _)) (An (Zm (Aa 2) (Ak Al (Aa 3) (Cq (v:=(.int 0)) rfl T.Q9 ⟨_,rfl⟩ (λ_ _=>rfl))) (Ak Al (Aa 2) (Aa 4)) Rm)) Ci))) (An (Bl (Aa 2)))))
theorem ZJY(T:Txt K mg):FnO P w K mg base 3 "down_in_reach" ZDV Rk:=by
 refine Cg T.S6.F ZC7 λcdv A outer s H E hr=>?_
 exact(Ai (Ao 2 ZC7.nd (Ak Al (Aa 0) (Cq (v:=(.int 1)) rfl T.J9 ⟨_,rfl⟩ (λ_ _=>rfl)))) (Ai (Ao 3 ZC7.nd (Aw (ZG2 T) T.Uy hr (Ac (Aa 0) (Ac (Aa 1) Ae)))) (Ai (Bw (Hd (Kc (Bs Xl (Aa 3) Fw (nomark _)) (Lk (Bs Kr (Ak Al (Ak Al (Aa 2) (Aa 1)) (Cq (v:=(.int 3)) rfl T.Y6 ⟨_,rfl⟩ (λ_ _=>rfl))) Af (nomark _))))) (An (Bl Fw)) Ci) (Ai (Bw (Hd (Kc (Bs (Dq hr.units) (Ak Al (Ak Al (Aa 2) (Aa 1)) (Cq (v:=(.int 0)) rfl T.Od ⟨_,rfl⟩ (λ_ _=>rfl))) Dc (nomark _)) (Lk (Bs (Dq hr.units) (Ak Al (Ak Al (Aa 2) (Aa 3)) (Cq (v:=(.int 0)) rfl T.Od ⟨_,rfl⟩ (λ_ _=>rfl))) Dc (nomark _))))) (An (Bl Fw)) Ci) (An (Bl (Aa 3)))))))
theorem ZPc(T:Txt K mg):FnO P w K mg base 4 "reach_rows" ZBN ZAS:=by
 refine Cg T.Vt.F R0 λcdv A outer s H E hr=>?_
 exact(Ai (Ao 3 R0.nd (Gd (Ep Ae))) (Ai (Ex PassesOwn.never rfl (Gm (Aa 1)) (Aq 4 R0.nd) (Ai (Ao 5 R0.nd (Ak Al (Ak Al (Aa 0) (Cq (v:=(.int 1)) rfl T.J9 ⟨_,rfl⟩ (λ_ _=>rfl))) (Aa 4))) (Ai (Ao 6 R0.nd (Aw (ZJY T) T.S6 hr (Ac (Aa 0) (Ac (Aa 4) Ae)))) (Ai (Ao 7 R0.nd (ZIC (Bs Xl (Aa 6) Fw (nomark _)) Fw (Gi PySem.F.slot_list_index PySem.F.type_list_index ZJH (Aa 1) (Ac (Aa 6) Ae)))) (An (Bw (Bs (Dq hr.units) (Ak Al (Aa 5) (Cq (v:=(.int 0)) rfl T.Od ⟨_,rfl⟩ (λ_ _=>rfl))) Dc (nomark _)) (An (Es (Gi PySem.F.slot_list_append PySem.F.type_list_append Gw (Aa 3) (Ac (Dp (Ac (Aa 7) (Ac (Ak Al (Aa 2) (Aa 4)) (Ac (Ak Al (Aa 5) (Cq (v:=(.int 4)) rfl T.ZBA ⟨_,rfl⟩ (λ_ _=>rfl))) (Ac (Ak Al (Aa 5) (Cq (v:=(.int 5)) rfl T.ZBk ⟨_,rfl⟩ (λ_ _=>rfl))) Ae))))) Ae)))) (An (Es (Gi PySem.F.slot_list_append PySem.F.type_list_append Gw (Aa 3) (Ac (Dp (Ac (Aa 7) (Ac (Ak Al (Aa 2) (Aa 4)) (Ac Af (Ac Af Ae))))) Ae)))))))))) (An (Bl (Aa 3)))))
theorem ZR7(T:Txt K mg):FnO P w K mg base 1 "served" ZCZ ZAK:=by
 refine Cg T.Zt.F ZJF λcdv A outer s H E hr=>?_
 exact(Ai (Ao 1 ZJF.nd (Ck (Cu ZOu rfl T.ZPE ZLG (Ac (Ck (Hj rfl (Fg (dn:=(Ar Ub).names) (N0:=Vb) (N:=["number","row"]) (nt:=2) (caps:=[])) (R7 rfl T.Mu (Ac (Aa 0) Ae)) (λC s₀ H₀ ex=>(Eo rfl (Bh (Aq 0 (show(["number","row"]:List Str).Nodup by decide +kernel)) (Bh (Aq 1 (show(["number","row"]:List Str).Nodup by decide +kernel)) Em)))) (Nj (Ii (Ds (by decide)) (Ii (Ds (by decide)) Nm))) (λC s₀ H₀ ex=>Fl) (λC s₀ H₀ ex=>(Dp (Ac (Ak Al (Aa 1) (Cq (v:=(.int 3)) rfl T.ZDE ⟨_,rfl⟩ (λ_ _=>rfl))) (Ac (Aa 0) Ae)))))) Ae)))) (An (Bl (Hj rfl (Fg (dn:=(Ar Ub).names) (N0:=Vb) (N:=["rank","number"]) (nt:=2) (caps:=[])) (Gm (Aa 1)) (λC s₀ H₀ ex=>(Eo rfl (Bh (Aq 0 (show(["rank","number"]:List Str).Nodup by decide +kernel)) (Bh (Aq 1 (show(["rank","number"]:List Str).Nodup by decide +kernel)) Em)))) (Nj (Ii (Ds (by decide)) (Ii (Ds (by decide)) Nm))) (λC s₀ H₀ ex=>Fl) (λC s₀ H₀ ex=>(Aa 1))))))
theorem ZL3(T:Txt K mg):FnO P w K mg base 1 "way_down" ZCC Wu:=by
 refine Cg T.Xj.F Xw λcdv A outer s H E hr=>?_
 exact(Ai (Ao 2 Xw.nd (Gd (Ep (Ac (Aa 1) Ae)))) (Ai (Ao 3 Xw.nd (Ak Al (Ak Al (Aa 0) (Aa 1)) (Cq (v:=(.int 0)) rfl T.Q9 ⟨_,rfl⟩ (λ_ _=>rfl)))) (Ai (ZRL fuel PassesOwn.never (Bs Qp (Aa 3) Fw (nomark _)) (Ai (Es (Gi PySem.F.slot_list_append PySem.F.type_list_append Gw (Aa 2) (Ac (Aa 3) Ae))) (An (Ao 3 Xw.nd (Ak Al (Ak Al (Aa 0) (Aa 3)) (Cq (v:=(.int 0)) rfl T.Q9 ⟨_,rfl⟩ (λ_ _=>rfl))))))) (An (Bl (Aa 2))))))
theorem ZLr(T:Txt K mg):FnO P w K mg base 2 "shares" ZEI W8:=by
 refine Cg T.Vu.F O8 λcdv A outer s H E hr=>?_
 exact(Ai (Ao 1 O8.nd (Gd (Ag ZHK (Ep (Ac Af Ae)) (Cu Eh rfl T.Ed Eb (Ac (Aa 0) Ae))))) (Ai (Ao 2 O8.nd (Gd (Aw (ZJV T) T.Uc hr (Ac (Aa 0) (Ac (Aa 1) Ae))))) (Ai (Ex PassesOwn.never rfl (Gm (Ck (Aw (ZR7 T) T.Zt hr (Ac (Aa 0) Ae)))) (Aq 3 O8.nd) (Ai (Ao 4 O8.nd (Ck (Aw (ZL3 T) T.Xj hr (Ac (Aa 0) (Ac (Aa 3) Ae))))) (Ai (Ao 5 O8.nd (Cu (Ys rfl) rfl T.Pq Qf (Ac (Ak Al (Ak Al (Aa 0) (Aa 3)) (Cq (v:=(.int 2)) rfl T.ZC9 ⟨_,rfl⟩ (λ_ _=>rfl))) (Ac (Cu (ZH0 rfl) rfl T.Pq Qf (Ac (Ck (Hj rfl (Fg (dn:=(Ar Vf).names) (N0:=ZC8) (N:=["below","passing"]) (nt:=1) (caps:=[2])) (Gm (Aa 4)) (λC s₀ H₀ ex=>(Aq 0 (show(["below","passing"]:List Str).Nodup by decide +kernel))) (Ds (by decide)) (λC s₀ H₀ ex=>Fl) (λC s₀ H₀ ex=>(Ak Al (Aa 1) (Aa 0))))) Ae)) Ae)))) (Ai (Hw (Aa 5) (Xy (Aa 1) (Aa 3))) (An (Ex PassesOwn.never rfl (Gm (Aa 4)) (Aq 6 O8.nd) (An (Zm (Aa 2) (Aa 6) (Aa 5) ZQu)))))))) (An (Bl (Aa 1))))))
theorem ZM1(T:Txt K mg):MtO P w K mg base 5 "Course" "go_reach" ZBE ZAc:=by
 refine Cg T.Uw.F Qk λcdv A outer s H E hr=>?_
 exact(Ai (Ao 2 Qk.nd (Ck (Aw (ZPc T) T.Vt hr (Ac (Gg T.Ba.N T.Ba.cl T.Jv (Aa 0)) (Ac (Aa 1) (Ac (Gg T.Ba.N T.Ba.cl T.Qj (Aa 0)) Ae)))))) (Ai (Ao 3 Qk.nd (Ck (Aw (ZLr T) T.Vu hr (Ac (Aa 2) Ae)))) (Ai (Ex PassesOwn.never rfl (ZL0 rfl T.U9 (Ac (Aa 1) (Ac (Aa 3) (Ac (Ck (Aw (ZJV T) T.Uc hr (Ac (Aa 2) (Ac (Aa 3) Ae)))) Ae)))) (Eo rfl (Bh (Aq 4 Qk.nd) (Bh (Aq 5 Qk.nd) (Bh (Aq 6 Qk.nd) Em)))) (Ai (Hw (Dp (Ac (Ag Bc (Aa 5) (Aa 6)) (Ac (Aa 5) (Ac Af (Ac (Aa 6) (Ac Af (Ac Af Ae))))))) (Xy (Gg T.Ba.N T.Ba.cl T.O5 (Aa 0)) (Aa 4))) (An (Bw (Bs (Dq hr.units) (Aa 4) (Ak Al (Aa 1) (ZDM ZDU Af)) (nomark _)) (An (Es (Qi T.Ba.N T.Ba.cl T.O9.me (ZKW T) (hr.mono (by decide)) T.O9.b pass0 (Aa 0) (Ac (Aa 4) (Ac (Aa 6) Ae))))) Ci)))) (An (Es (Gi PySem.F.slot_list_append PySem.F.type_list_append Gw (Gg T.Ba.N T.Ba.cl T.Zh (Aa 0)) (Ac (Gd (Dp (Ac (Aa 1) (Ac (Aa 2) Ae)))) Ae)))))))
theorem ZPq(T:Txt K mg):FnO P w K mg base 4 "lasts_of_reaches" ZAq Wj:=by
 refine Cg T.Z8.F ZAF λcdv A outer s H E hr=>?_
 exact(Ai (Ao 1 ZAF.nd (Gd (ZOH rfl rfl T.Vp rfl T.Gj (Ac (Cu Eh rfl T.Ed Eb (Ac (Ak Al (Aa 0) (Cq (v:=(.int 1)) rfl T.J9 ⟨_,rfl⟩ (λ_ _=>rfl))) Ae)) Ae)))) (Ai (Ex PassesOwn.never rfl (ZQP rfl T.Gj (Ac (Ag Ha (Cu Eh rfl T.Ed Eb (Ac (Ak Al (Aa 0) (Cq (v:=(.int 1)) rfl T.J9 ⟨_,rfl⟩ (λ_ _=>rfl))) Ae)) Af) (Ac (ZDM ZDU Af) (Ac (ZDM ZDU Af) Ae)))) (Aq 2 ZAF.nd) (Ai (Ao 3 ZAF.nd (Aw (ZJY T) T.S6 hr (Ac (Aa 0) (Ac (Aa 2) Ae)))) (An (Bw (Bs Qp (Aa 3) Fw (nomark _)) (An (Hw (Ak Al (Aa 1) (Aa 3)) (Xy (Aa 1) (Aa 2)))) Ci)))) (An (Bl (Aa 1)))))
theorem ZKu(T:Txt K mg):MtO P w K mg base 6 "Course" "go" ZBL Wf:=by
 refine Cg T.Uq.F Xe λcdv A outer s H E hr=>?_
 exact(Ai (Ao 1 Xe.nd (Ck (Aw (ZPq T) T.Z8 hr (Ac (Gg T.Ba.N T.Ba.cl T.Jv (Aa 0)) Ae)))) (An (Ex PassesOwn.never rfl (R7 rfl T.Mu (Ac (Aa 1) Ae)) (Eo rfl (Bh (Aq 2 Xe.nd) (Bh (Aq 3 Xe.nd) Em))) (An (Bw (Bs (Dq hr.units) (Ak Al (Ak Al (Ak Al (Gg T.Ba.N T.Ba.cl T.Jv (Aa 0)) (Cq (v:=(.int 1)) rfl T.J9 ⟨_,rfl⟩ (λ_ _=>rfl))) (Aa 2)) (Cq (v:=(.int 0)) rfl T.Od ⟨_,rfl⟩ (λ_ _=>rfl))) Dc (nomark _)) (An (Es (Qi T.Ba.N T.Ba.cl T.Ux.me (ZQs T) (hr.mono (by decide)) T.Ux.b pass0 (Aa 0) (Ac (Aa 2) Ae)))) (An (Bw (Bs (Dq hr.units) (Aa 3) (Aa 2) (nomark _)) (An (Es (Qi T.Ba.N T.Ba.cl T.Uw.me (ZM1 T) (hr.mono (by decide)) T.Uw.b pass0 (Aa 0) (Ac (Ck (Hj rfl (Fg (dn:=(Ar V7).names) (N0:=ZDo) (N:=["member","end","number"]) (nt:=2) (caps:=[2])) (R7 rfl T.Mu (Ac (Aa 1) Ae)) (λC s₀ H₀ ex=>(Eo rfl (Bh (Aq 0 (show(["member","end","number"]:List Str).Nodup by decide +kernel)) (Bh (Aq 1 (show(["member","end","number"]:List Str).Nodup by decide +kernel)) Em)))) (Nj (Ii (Ds (by decide)) (Ii (Ds (by decide)) Nm))) (λC s₀ H₀ ex=>(ZPC (Bs (Dq hr.units) (Aa 1) (Aa 2) (nomark _)))) (λC s₀ H₀ ex=>(Aa 0)))) Ae)))) Ci)))))))
theorem ZPZ(T:Txt K mg):MtO P w K mg base 1 "Course" "state_behind" ZD9 Wk:=by
 refine Cg T.Ru.F ZMX λcdv A outer s H E hr=>?_
 exact(An (Bl (Dp (Ac (Gn Ht rfl T.H8 Hf (Ac (Ck (Hj rfl (Fg (dn:=(Ar Sq).names) (N0:=Wh) (N:=["row"]) (nt:=1) (caps:=[])) (Gm (Gg T.Ba.N T.Ba.cl T.O5 (Aa 0))) (λC s₀ H₀ ex=>(Aq 0 (show(["row"]:List Str).Nodup by decide +kernel))) (Ds (by decide)) (λC s₀ H₀ ex=>Fl) (λC s₀ H₀ ex=>(Ak Al (Aa 0) (Cq (v:=(.int 5)) rfl T.Zc ⟨_,rfl⟩ (λ_ _=>rfl)))))) Ae)) (Ac (Gn Ht rfl T.H8 Hf (Ac (Ck (Hj rfl (Fg (dn:=(Ar Sq).names) (N0:=Wh) (N:=["ahead"]) (nt:=1) (caps:=[])) (Gm (Gg T.Ba.N T.Ba.cl T.Sh (Aa 0))) (λC s₀ H₀ ex=>(Aq 0 (show(["ahead"]:List Str).Nodup by decide +kernel))) (Ds (by decide)) (λC s₀ H₀ ex=>Fl) (λC s₀ H₀ ex=>(Gn Ht rfl T.H8 Hf (Ac (Aa 0) Ae))))) Ae)) Ae)))))
theorem ZQq(T:Txt K mg):FnO P w K mg base 7 "turn" ZEO Vs:=by
 refine Cg T.Z3.F ZIt λcdv A outer s H E hr=>?_
 exact(Ai (Ao 4 ZIt.nd (ZRw T.Ba.N T.Ba.mK (ZNK T) (hr.mono (by decide)) rfl T.Ba.g T.Up.b pass0 (Ac (Aa 0) (Ac (Aa 1) (Ac (Aa 2) (Ac (Aa 3) Ae)))))) (Ai (Es (ZG6 T.Ba.N T.Ba.cl T.Uq.me (ZKu T) (hr.mono (by decide)) T.Uq.b pass0 (Aa 4))) (An (Bl (Dp (Ac (Gn Ht rfl T.H8 Hf (Ac (Gg T.Ba.N T.Ba.cl T.O5 (Aa 4)) Ae)) (Ac (ZG6 T.Ba.N T.Ba.cl T.Ru.me (ZPZ T) (hr.mono (by decide)) T.Ru.b pass0 (Aa 4)) Ae)))))))
theorem ZD7(T:Txt K mg):FnO P w K mg base 8 "run" ZBe Mq:=by
 refine Cg T.Pu.F Qu λcdv A outer s H E hr=>?_
 exact(Ai (Ao 4 Qu.nd (Gd (Ep Ae))) (Ai (Ex PassesOwn.never rfl (ZMj rfl T.Mu (Ac (Aa 3) Ae) (Aa 2)) (Eo rfl (Bh (Aq 5 Qu.nd) (Bh (Aq 6 Qu.nd) Em))) (Ai (Hw (Aw (ZQq T) T.Z3 hr (Ac (Aa 0) (Ac (Aa 1) (Ac (Aa 5) (Ac (Aa 6) Ae))))) (Eo rfl (Bh (Aq 7 Qu.nd) (Bh (Aq 1 Qu.nd) Em)))) (An (Es (Gi PySem.F.slot_list_append PySem.F.type_list_append Gw (Aa 4) (Ac (Aa 7) Ae)))))) (An (Bl (Dp (Ac (Aa 4) (Ac (Aa 1) Ae)))))))
theorem ZSr(T:Txt K mg):FnO P w K mg base 9 "look" ZDq U4:=by
 refine Cg T.Yh.F Rn λcdv A outer s H E hr=>?_
 exact(Ai (Es (Aw (ZN8 T) T.Vk hr (Ac (Aa 0) (Ac (Aa 6) Ae)))) (Ai (Es (Aw (ZRf T) T.Y9 hr (Ac (Aa 1) (Ac (Aa 2) (Ac (Aa 4) (Ac (Aa 5) Ae)))))) (Ai (Hw (Aw (ZOG T) T.Vn hr (Ac (Aa 1) (Ac (Aa 2) (Ac (Aa 4) (Ac (Aa 5) (Ac (Aa 6) Ae)))))) (Eo rfl (Bh (Aq 7 Rn.nd) (Bh (Aq 8 Rn.nd) Em)))) (Ai (Hw (Ck (Aw (ZD7 T) T.Pu hr (Ac (Aa 0) (Ac (Aa 7) (Ac (Aa 3) (Ac (Aa 8) Ae)))))) (Eo rfl (Bh (Aq 9 Rn.nd) (Bh (Aq 10 Rn.nd) Em)))) (An (Bl (Aw (ZRn T) T.ZAd hr (Ac (Aa 9) (Ac (Aa 6) Ae)))))))))
theorem ZLz(T:Txt K mg):FnO P w K mg base 10 "law" ZBh My:=by
 refine Cg T.V3.F Ir λcdv A outer s H E hr=>?_
 exact(Ai (Ao 1 Ir.nd (Aw (ZTD T) T.ZAR hr (Ac (Aa 0) Ae))) (Ai (Ao 2 Ir.nd (Aw (ZQn T) T.Xk hr (Ac (Aa 0) Ae))) (Ai (Ao 3 Ir.nd (Aw (ZPH T) T.Zv hr (Ac (Aa 0) (Ac (Aa 1) Ae)))) (Ai (Ao 4 Ir.nd (Ck (Aw (ZNd T) T.X5 hr (Ac (Aa 0) (Ac (Aa 1) (Ac (Ag Bx (Aw (Ey T) T.Eg hr (Ac (Aa 0) (Ac Af Ae))) Af) Ae)))))) (Ai (Hw (Ck (Aw (ZMc T) T.Vv hr (Ac (Aa 0) (Ac (Aa 1) (Ac (Aa 3) (Ac (Aa 4) Ae)))))) (Eo rfl (Bh (Aq 5 Ir.nd) (Bh (Aq 6 Ir.nd) Em)))) (Ai (Ao 7 Ir.nd (Ck (Aw (ZMP T) T.Yb hr (Ac (Aa 0) (Ac (Aa 1) Ae))))) (Ai (Bw (Bs Xl (Aa 7) Fw (nomark _)) (An (Bl Oi)) Ci) (Ai (Ao 8 Ir.nd (Ck (Ep (Ac (Ck (Gn (ZCd rfl) rfl T.Vp Y4 (Ac (Aa 4) Ae))) (Ac (Ck (Gn (ZCd rfl) rfl T.Vp Y4 (Ac (Aa 6) Ae))) Ae))))) (Ai (Ao 9 Ir.nd (Aw (ZSr T) T.Yh hr (Ac (Aa 1) (Ac (Aa 3) (Ac (Aa 5) (Ac (Aa 2) (Ac (Ak Al (Aa 8) Af) (Ac (Ak Al (Aa 8) Af) (Ac (Aa 7) Ae))))))))) (Ai (Bw (Hd (Kc (Bs (Ra hr.units) (Aa 8) (Ck (Ep (Ac (Aa 4) (Ac (Aa 6) Ae)))) (nomark _)) (Lk (Kw (Hk (Aw (ZSL T) T.Yc hr (Ac (Aa 9) Ae))))))) (An (Bl Oi)) Ci) (Ai (Ao 10 Ir.nd (Ak Al (Ck (Aw (ZD7 T) T.Pu hr (Ac (Aa 1) (Ac (Aa 3) (Ac (Aa 2) (Ac (Aa 4) Ae)))))) Af)) (Ai (Bw (Bs (Dq hr.units) (Ak Al (Aa 7) Af) Dc (nomark _)) (An (Ao 10 Ir.nd (Ak Al (Ck (Aw (ZD7 T) T.Pu hr (Ac (Aa 1) (Ac (Aa 5) (Ac (Aa 2) (Ac (Aa 6) Ae)))))) Af))) Ci) (Ai (Ma (Mr 11 rfl Ir.nd (Fg (dn:=(Ar J7).names) (N0:=ZDj) (N:=["_law_page","_law_ask_here"]) (nt:=1) (caps:=[7])) (Gm (Aa 10)) (λC s₀ H₀ ex=>(Aq 0 (show(["_law_page","_law_ask_here"]:List Str).Nodup by decide +kernel))) (Ds (by decide)) (λC s₀ H₀ ex=>Fl) (λC s₀ H₀ ex=>(Ak Al (Ak Al (Aa 0) (Ak Al (Aa 1) Af)) (Aw (ZNg T) T.Zj hr (Ac (Ak Al (Aa 1) Af) Ae)))))) (An (Bl (Jg (Dq hr.units) (Aa 9) (Aw (ZSp T) T.Xd hr (Ac (Aa 11) (Ac (Aa 7) Ae))) (nomark _)))))))))))))))))
end
def asks:List Ask:=[.cl "Course",.fn "_law_amount" ZB1,.fn "_law_off" ZAl,.fn "_law_tape" ZCM,.fn "_law_cell_at" ZA3,.fn "_law_unit" ZCX,.fn "_law_added" Nq,.fn "_law_ask" ZCz,.fn "_law_column" ZD5,.fn "_law_due" ZDO,.fn "_law_floods" Ti,.fn "_law_pumped" ZCO,.fn "_law_steps" ZBR,.fn "_law_year" ZDt,.fn "_law_rule" Rz,.fn "_law_basin" Wc,.fn "_law_name" ZBt,.fn "_law_house" Xu,.fn "_law_number" ZD3,.fn "_law_state" ZDX,.fn "_law_told" ZBH,.fn "is_beyond" ZCR,.fn "part_asked" ZCN,.fn "answered" Xa,.fn "check_ask" ZEK,.fn "none_above" Va,.fn "rows_under" Vm,.fn "under" ZDk,.fn "check_bounds" ZBm,.fn "looked_through" ZDG,.mt "Course" "__init__" "Course.__init__" T8,.mt "Course" "send" "Course.send" ZDx,.fn "number_of" ZCF,.fn "down_of" ZET,.mt "Course" "send_down" "Course.send_down" ZB7,.fn "opened" ZBK,.fn "stairs_at" ZAr,.mt "Course" "go_basin" "Course.go_basin" ZED,.fn "passed" ZAD,.fn "down_in_reach" ZC4,.fn "reach_rows" ZBC,.fn "served" Ub,.fn "way_down" ZBB,.fn "shares" Vf,.mt "Course" "go_reach" "Course.go_reach" ZDu,.fn "lasts_of_reaches" ZDb,.mt "Course" "go" "Course.go" V7,.mt "Course" "state_behind" "Course.state_behind" Sq,.fn "turn" ZCJ,.fn "run" ZBx,.fn "look" ZBs,.fn "law" J7,.no "Course" "came",.no "Course" "coming",.no "Course" "house",.no "Course" "levels",.no "Course" "page",.no "Course" "reaches",.no "Course" "year_turn",.z "all",.z "bool",.z "enumerate",.z "int",.z "isinstance",.z "len",.z "list",.z "max",.z "min",.z "range",.z "sorted",.z "str",.z "tuple",.z "zip",.gi "BRIM" 4,.gi "DELAY" 3,.gi "DOWN" 2,.gi "KIND" 0,.gi "LET" 3,.gi "LIES" 5,.gi "NAME" 1,.gi "NEED" 4,.gi "PLACES" 1,.gi "PUMP" 6,.gi "PUMPED" 4,.gi "PUMP_DELAY" 1,.gi "PUMP_TO" 0,.gi "RANK" 5,.gi "ROW_DOWN" 0,.gi "ROW_NEED" 2,.gi "ROW_RANK" 3,.gi "ROW_WATER" 1,.gi "RULE" 5,.gs "SEA" "sea",.gi "SPILLED" 2,.gi "TOOK" 1,.gi "YEAR" 0,.gt "SENSES" ["least","most"],.gd "KINDS_ASKED" [("lies","basin"),("spilled","basin"),("let","basin"),("pumped","basin"),("took","town")]]
theorem all_mk{l:PySem.W.OpenLaw}{w:xw}{K:PySem.W.Frag}{h:Heap}{mg:Str->Option xj}{fa:xZ}(X:K.In h)(G:h.Ns vQ mg)(hfa:mg "law"=vE (.ref fa))(S:AllSaid K asks):
  ∃fd:xV,(∀(s:xq)(v:xj),BindsTo s fd ⟨[v],[]⟩ [("_law_script",v)])/\∀base:Heap,K.In base->base.Ns vQ mg->FnOk l.prog w K mg base CX0 10 fa fd ["_law_script"] (lF K My):=by
 obtain⟨Ba,K5,Y5,Rh,Eg,Kz,Vv,Yb,Zj,Xd,X5,W5,Wg,Rv,Xc,We,Zb,ZAR,Xk,Zv,Yc,ZAM,ZAN,ZAd,Vk,U0,V1,Xo,Y9,Vn,Up,Og,Rt,Uy,O9,W6,Yx,Ux,Uc,S6,Vt,Zt,Xj,Vu,Uw,Z8,Uq,Ru,Z3,Pu,Yh,V3,Qj,Sh,Jv,V6,O5,Zh,Za,ZTX,ZTY,ZTZ,ZTa,ZTb,ZTc,ZTd,ZTe,ZTf,ZTg,ZTh,ZTi,ZTj,ZTl,ZCo,Y6,ZAg,Od,ZBJ,Zc,ZDy,ZBA,J9,Tn,ZCK,ZBc,ZCf,ZBk,Q9,ZC9,ZDE,ZBb,ZAz,ZCB,ZB0,ZCU,ZBY,ZDl,ZAC,_⟩:=S
 have T:Txt K mg:=⟨Cr X G K5 (λ_ _ _ _ _ _ us hl=>match us,hl with |[_,_],_=>rfl),
  Cr X G Y5 (λ_ _ _ _ _ _ us hl=>match us,hl with |[_,_],_=>rfl),
  Cr X G Rh (λ_ _ _ _ _ _ us hl=>match us,hl with |[_],_=>rfl),
  Cr X G Eg (λ_ _ _ _ _ _ us hl=>match us,hl with |[_,_],_=>rfl),
  Cr X G Kz (λ_ _ _ _ _ _ us hl=>match us,hl with |[_],_=>rfl),
  Cr X G Vv (λ_ _ _ _ _ _ us hl=>match us,hl with |[_,_,_,_],_=>rfl),
  Cr X G Yb (λ_ _ _ _ _ _ us hl=>match us,hl with |[_,_],_=>rfl),
  Cr X G Zj (λ_ _ _ _ _ _ us hl=>match us,hl with |[_],_=>rfl),
  Cr X G Xd (λ_ _ _ _ _ _ us hl=>match us,hl with |[_,_],_=>rfl),
  Cr X G X5 (λ_ _ _ _ _ _ us hl=>match us,hl with |[_,_,_],_=>rfl),
  Cr X G W5 (λ_ _ _ _ _ _ us hl=>match us,hl with |[_],_=>rfl),
  Cr X G Wg (λ_ _ _ _ _ _ us hl=>match us,hl with |[_,_,_],_=>rfl),
  Cr X G Rv (λ_ _ _ _ _ _ us hl=>match us,hl with |[_],_=>rfl),
  Cr X G Xc (λ_ _ _ _ _ _ us hl=>match us,hl with |[_,_,_,_],_=>rfl),
  Cr X G We (λ_ _ _ _ _ _ us hl=>match us,hl with |[_,_,_,_,_],_=>rfl),
  Cr X G Zb (λ_ _ _ _ _ _ us hl=>match us,hl with |[_,_,_],_=>rfl),
  Cr X G ZAR (λ_ _ _ _ _ _ us hl=>match us,hl with |[_],_=>rfl),
  Cr X G Xk (λ_ _ _ _ _ _ us hl=>match us,hl with |[_],_=>rfl),
  Cr X G Zv (λ_ _ _ _ _ _ us hl=>match us,hl with |[_,_],_=>rfl),
  Cr X G Yc (λ_ _ _ _ _ _ us hl=>match us,hl with |[_],_=>rfl),
  Cr X G ZAM (λ_ _ _ _ _ _ us hl=>match us,hl with |[_,_,_],_=>rfl),
  Cr X G ZAN (λ_ _ _ _ _ _ us hl=>match us,hl with |[_],_=>rfl),
  Cr X G ZAd (λ_ _ _ _ _ _ us hl=>match us,hl with |[_,_],_=>rfl),
  Cr X G Vk (λ_ _ _ _ _ _ us hl=>match us,hl with |[_,_],_=>rfl),
  Cr X G U0 (λ_ _ _ _ _ _ us hl=>match us,hl with |[_,_],_=>rfl),
  Cr X G V1 (λ_ _ _ _ _ _ us hl=>match us,hl with |[_,_],_=>rfl),
  Cr X G Xo (λ_ _ _ _ _ _ us hl=>match us,hl with |[_,_],_=>rfl),
  Cr X G Y9 (λ_ _ _ _ _ _ us hl=>match us,hl with |[_,_,_,_],_=>rfl),
  Cr X G Vn (λ_ _ _ _ _ _ us hl=>match us,hl with |[_,_,_,_,_],_=>rfl),
  O3 Up (λ_ _ _ _ _ _ us hl=>match us,hl with |[_,_,_,_,_],_=>rfl),
  O3 Og (λ_ _ _ _ _ _ us hl=>match us,hl with |[_,_,_,_],_=>rfl),
  Cr X G Rt (λ_ _ _ _ _ _ us hl=>match us,hl with |[_,_],_=>rfl),
  Cr X G Uy (λ_ _ _ _ _ _ us hl=>match us,hl with |[_,_],_=>rfl),
  O3 O9 (λ_ _ _ _ _ _ us hl=>match us,hl with |[_,_,_],_=>rfl),
  Cr X G W6 (λ_ _ _ _ _ _ us hl=>match us,hl with |[_,_],_=>rfl),
  Cr X G Yx (λ_ _ _ _ _ _ us hl=>match us,hl with |[_,_],_=>rfl),
  O3 Ux (λ_ _ _ _ _ _ us hl=>match us,hl with |[_,_],_=>rfl),
  Cr X G Uc (λ_ _ _ _ _ _ us hl=>match us,hl with |[_,_],_=>rfl),
  Cr X G S6 (λ_ _ _ _ _ _ us hl=>match us,hl with |[_,_],_=>rfl),
  Cr X G Vt (λ_ _ _ _ _ _ us hl=>match us,hl with |[_,_,_],_=>rfl),
  Cr X G Zt (λ_ _ _ _ _ _ us hl=>match us,hl with |[_],_=>rfl),
  Cr X G Xj (λ_ _ _ _ _ _ us hl=>match us,hl with |[_,_],_=>rfl),
  Cr X G Vu (λ_ _ _ _ _ _ us hl=>match us,hl with |[_],_=>rfl),
  O3 Uw (λ_ _ _ _ _ _ us hl=>match us,hl with |[_,_],_=>rfl),
  Cr X G Z8 (λ_ _ _ _ _ _ us hl=>match us,hl with |[_],_=>rfl),
  O3 Uq (λ_ _ _ _ _ _ us hl=>match us,hl with |[_],_=>rfl),
  O3 Ru (λ_ _ _ _ _ _ us hl=>match us,hl with |[_],_=>rfl),
  Cr X G Z3 (λ_ _ _ _ _ _ us hl=>match us,hl with |[_,_,_,_],_=>rfl),
  Cr X G Pu (λ_ _ _ _ _ _ us hl=>match us,hl with |[_,_,_,_],_=>rfl),
  Cr X G Yh (λ_ _ _ _ _ _ us hl=>match us,hl with |[_,_,_,_,_,_,_],_=>rfl),
  Cr X G V3 (λ_ _ _ _ _ _ us hl=>match us,hl with |[_],_=>rfl),
  ZOi X G Ba Up,
  Qj,
  Sh,
  Jv,
  V6,
  O5,
  Zh,
  Za,
  PySem.W.mg_none_of X G ZTX,
  PySem.W.mg_none_of X G ZTY,
  PySem.W.mg_none_of X G ZTZ,
  PySem.W.mg_none_of X G ZTa,
  PySem.W.mg_none_of X G ZTb,
  PySem.W.mg_none_of X G ZTc,
  PySem.W.mg_none_of X G ZTd,
  PySem.W.mg_none_of X G ZTe,
  PySem.W.mg_none_of X G ZTf,
  PySem.W.mg_none_of X G ZTg,
  PySem.W.mg_none_of X G ZTh,
  PySem.W.mg_none_of X G ZTi,
  PySem.W.mg_none_of X G ZTj,
  PySem.W.mg_none_of X G ZTl,
  PySem.W.mg_of X G ZCo,
  PySem.W.mg_of X G Y6,
  PySem.W.mg_of X G ZAg,
  PySem.W.mg_of X G Od,
  PySem.W.mg_of X G ZBJ,
  PySem.W.mg_of X G Zc,
  PySem.W.mg_of X G ZDy,
  PySem.W.mg_of X G ZBA,
  PySem.W.mg_of X G J9,
  PySem.W.mg_of X G Tn,
  PySem.W.mg_of X G ZCK,
  PySem.W.mg_of X G ZBc,
  PySem.W.mg_of X G ZCf,
  PySem.W.mg_of X G ZBk,
  PySem.W.mg_of X G Q9,
  PySem.W.mg_of X G ZC9,
  PySem.W.mg_of X G ZDE,
  PySem.W.mg_of X G ZBb,
  PySem.W.mg_of X G ZAz,
  PySem.W.mg_of X G ZCB,
  PySem.W.mg_of X G ZB0,
  PySem.W.mg_of X G ZCU,
  PySem.W.mg_of X G ZBY,
  ZSV X G ZDl,
  ZTO X G ZAC⟩
 have eL:mg "law"=vE (.ref (Bv K "law")):=PySem.W.mg_of X G V3.1;obtain rfl:fa=Bv K "law":=by rw[hfa]at eL;cases eL;rfl
 exact⟨_,λs v=>ZTG (Rg V3.2),λbase _ _=>ZLz T⟩
theorem walk{l:PySem.W.OpenLaw}{q:xK}{loose:List Str}{XP:(Str->Option xj)->Heap->Prop}{YP:xw->Heap->Prop}{d:DefRec}{K:xw->PySem.W.Frag}(hn:l.most=vE 63)(hdf:d.params.defaults=[])(HH:Holds)
  (hY:∀(w:xw)(h:Heap),YP w h->(K w).In h)
  (F:∀(w:xw)(mg:Str->Option xj)(fa:xZ)(h:Heap),(K w).In h->h.Ns vQ mg->mg d.name=vE (.ref fa)->
   ∃fd:xV,(∀(s:xq)(u:xj),BindsTo s fd ⟨[u],[]⟩ [("_law_script",u)])/\∀base:Heap,(K w).In base->base.Ns vQ mg->FnOk l.prog w (K w) mg base CX0 10 fa fd ["_law_script"] (lF (K w) My)):
  PySem.W.WalkO q loose XP YP l.row.toRowW d [] (λf vs=>PySem.call f vs):=
 L2.ZN0 (n:=63) (k:=10) (x:="_law_script") (CX:=λ_=>CX0) (sp:=λw=>lF (K w) My) hn (by decide) hdf ⟨rfl,by decide,by decide⟩ hY F
  (λw H a ns hl hO hS=>by
   obtain⟨G,hG⟩:=HH ns hl;refine⟨⟨K w,0,λ_=>0,H⟩,[],[.fl (ns.map D.int)],rfl,rfl,⟨rfl,λi j h=>absurd h (Nat.not_lt_zero _),λi o h=>by simp at h,λi h=>absurd h (Nat.not_lt_zero _)⟩,Reps.cons ⟨a,ns.map V.int,rfl,?_,Reps.ints ns⟩ Reps.nil,?_⟩
   ·rcases hS with(hS|hS)|hS
    ·rcases hO a with z|⟨o,xs,z⟩
     ·rw[z]at hS;cases hS
     ·rw[z]at hS;cases hS
    ·exact .inl hS
    ·exact .inr hS
   ·rw[hG];exact λb v _ _ r=>r) λ_ _ _ _ _ z=>z
end Law
set_option maxRecDepth 100000
namespace Law
open PySem PySem.W L2 DL
abbrev rw_:OpenLaw:=PySem.Challenge.rw_sluiceway_k52_what_look_tells
abbrev pw:xK:=OpenLaw.prog PySem.Challenge.rw_sluiceway_k52_what_look_tells
def vw:xK:=view pw (zZ 81)
theorem ZMU:∀w os,(Tc pw (ftW w vG) os).map (λs=>(Tj pw (ftW w vG) s.abs,PySem.W.Fast.tw4187177175401517315 vw ["KINDS_ASKED"] (PySem.W.Fast.tw5923862056798008813 pw.main.body) (XtOf rw_ vw) vG s.abs,Rf asks s.abs.heap))=vE (vG,openGood vw ["KINDS_ASKED"],Sg asks):=λw os=>by kernel_rfl
theorem ZSE:∀w os,(Tc pw (ftW w vH) os).map (λs=>(Tj pw (ftW w vH) s.abs,PySem.W.Fast.tw4187177175401517315 vw ["KINDS_ASKED"] (PySem.W.Fast.tw5923862056798008813 pw.main.body) (XtOf rw_ vw) vG s.abs,Rf asks s.abs.heap))=vE (vG,openGood vw ["KINDS_ASKED"],Sg asks):=λw os=>by kernel_rfl
theorem ZQe:∀w os,(Tc pw w os).map (λs=>(Tj pw w s.abs,PySem.W.Fast.tw4187177175401517315 vw ["KINDS_ASKED"] (PySem.W.Fast.tw5923862056798008813 pw.main.body) (XtOf rw_ vw) vG s.abs,Rf asks s.abs.heap))=vE (vG,openGood vw ["KINDS_ASKED"],Sg asks):=ZST ZMU ZSE
theorem ZIb:∀w,(openEnds vK pw w 100000).map (λs=>(openSeen vw ["KINDS_ASKED"] (xL pw.main.body) (XtOf rw_ vw) vG s,Rf asks s.heap))=vE (openGood vw ["KINDS_ASKED"],Sg asks):=ZPA (by kernel_rfl) (λs=>rfl) ZQe
theorem well:rw_.wellSaid=vG:=ZNQ (by kernel_rfl)
theorem hdef:defOf vw rw_.row.name=vE (dOf J7,[]):=by kernel_rfl
theorem hp:rw_.row.prog.theDef rw_.row.name=vE ((dOf J7).params,(dOf J7).body,(dOf J7).scope):=by kernel_rfl
theorem hk:kwWritten? (dOf J7).params.kwonlyargs (dOf J7).params.kw_defaults=vE []:=by kernel_rfl
theorem hok:(chainsOk vw&&opensWell rw_.row.prog&&(frees rw_.row.toRowW&&rw_.row.within.isEmpty))=vG:=by kernel_rfl
theorem hdf:(dOf J7).params.defaults=[]:=by kernel_rfl
theorem hbare:rw_.row.prog.bare:=⟨rfl,rfl,rfl,rfl,rfl,by decide +kernel⟩
theorem hw:rw_.row.toRowW.promised:=by w_witness2
theorem walked:WalkO vw ["KINDS_ASKED"] (XL vw []) (Stays rw_.prog 100000) rw_.row.toRowW (dOf J7) [] λf vs=>PySem.call f vs:=
 walk (l:=rw_) (K:=λw=>Ro (Ku pw 100000 w)) rfl hdf holds (λw h Y=>Y.in) λw mg fa h KX G hmg=>all_mk KX G (show mg "law"=_ from hmg) (ZHa (ZPx ZIb w))
end Law
open PySem PySem.W PyProof.Rows DL
theorem PySem.Challenge.cw_sluiceway_k52_what_look_tells_holds : PySem.Challenge.rw_sluiceway_k52_what_look_tells.Holds := by
 refine holds_top (l:=Law.rw_) (q:=Law.vw) (loose:=["KINDS_ASKED"]) (N:=100000) (see:=Rf Law.asks) (val:=Sg Law.asks) (d:=dOf Law.J7) ?_ ?_ ?_ ?_ ?_ ?_ ?_ ?_ ?_ ?_
 ·exact Law.well
 ·exact Law.ZIb
 ·exact Law.hdef
 ·exact Law.hp
 ·exact Law.hk
 ·rfl
 ·exact Law.hok
 ·exact Law.hbare
 ·exact Law.hw
 ·exact Law.walked
