import PyProof.Rows.All
import Wide.All
import OpenK.AllK
import Wide.FinOn
import Lean
import PyProof.EqAt
import PyProof.EqKinds
import PyProof.TupleCall
import PyProof.NeKinds
import PyProof.IsInstanceH
import PyProof.SumWalkG
import PyProof.ConsumeWalk
import PyProof.IsiNone
import PyProof.WalksMore
import PyProof.PlainList
import PyProof.CompFree
import KE.KIntText
import PyProof.DictTable
import PyProof.ExcInit
import PyProof.ExcClass2
import PyProof.ExcBaseAll.ValueError
import OpenK.KOwn
import PyProof.RulesAs
import PyProof.NsDelKeeps
import PySem.Challenge.RW_sluiceway_k59_water_that_goes_round
set_option compiler.extract_closed false
set_option bootstrap.genMatcherCode false
set_option genSizeOf false
set_option Elab.async false
set_option linter.all false
set_option maxRecDepth 100000
open Option renaming some→vB,none→vC
open Bool renaming true→vD,false→vE
open List renaming getElem?_eq_getElem→zZ,mem_cons_of_mem→zJ,mem_cons_self→zX,size_toArray→zK,getElem?_map→zq,replicate→zx,mem_cons→zw,range→zk,getD_eq_getElem?_getD→zA,getElem?_eq_none→zD,mem_map→zF,map_cons→zG,getElem?_eq_some_iff→zH,getElem?_append_right→zI,getElem?_append_left→zL,drop_eq_getElem_cons→zM,drop_of_length_le→zO,getElem?_range→zP,mem_append_right→zR,length_append→zT,filterMap_cons→zU,map_congr_left→qQ,length_cons→qZ,length_map→qJ,replicate_succ→qW,getElem_of_mem→qK,mem_range→qY,filterMap_map→qq,mem_singleton→qz,getElem_mem→qx,append_nil→q8,getElem?_set_ne→q9,all_eq_true→qA,getElem?_set_self→qB,filterMap_eq_map'→qC,ext_getElem→qF,flatten_cons→qH,append_assoc→qI,getElem?_set→qL,nodup_cons→qN,range_succ_eq_map→qO,getElem?_eq_none_iff→qP,set→qS,lookup→jQ,getElem?_replicate→jZ,lookup_cons→jJ,pairwise_iff_getElem→jW,getElem?_take_of_lt→jY,getElem?_cons_succ→jq,length_set→jz,eq_nil_of_length_eq_zero→jx,length_nil→jv,length_singleton→jw,idxOf_lt_length_of_mem→jk,drop_zero→jy,map_map→j0,length_take→j1,all_cons→j2,getLast?_eq_getElem?→j4,mem_append→j5,nil_append→j7,mem_filterMap→j9,getElem?_cons_zero→jB,ext_getElem?→jC,length_replicate→jD,length_drop→jE,set_append_right→jF,take_length→jG,zipIdx_cons→jH,any_eq_true→jL,mem_append_left→jN,mem_of_getElem?→jO,forIn_cons→jP
open Nat renaming lt_of_lt_of_le→zV,le_refl→zW,le_trans→zC,ne_of_lt→zE,lt_irrefl→zS,lt_succ_self→qX,mod_eq_of_lt→qG,lt_succ_of_lt→qM,ne_of_gt→qU,le_succ→jX,le_of_ble_eq_true→jV,mod_lt→j3,zero_le→j6,le_add_right→jI,lt_or_ge→jS
open Int renaming le_refl→qE
open Option renaming map_eq_some_iff→zN,isSome_iff_exists→jK,map_some→jR
open Bool renaming false_ne_true→z9,and_eq_true→zB,and_eq_true_iff→qT,or_eq_true→j8,false_eq_true→jA
open Array renaming getElem?_eq_some_iff→qV,length_toList→qD,getElem?_toList→qR
open PySem.Heap renaming get?_push_of_some→zQ,lt_size→zY,get?_push_size→zy,get?_update_self→qj,size_push→qw,get?_update_other→qk,SameBut→qy,get?_none_of_le→jM
open PySem renaming Addr→jT,Around→jU,Expr→xQ,FuncData→xZ,NameKind→xJ,Program→xX,Scope→xV,Shared→xW,Stmt→xK,Value→xY,World→xq,assignEach→xz,attributeBase→xj,backTo→xk,backToKw→xy,behindInMarks→x8,binaryOp→x9,bootBuiltins→xA,call_isinstance→xB,checkBuiltinCall→xC,codeAny_mono→xD,compareOp→xE,importedModules→xF,isSubtype→xG,isinstance_false_int→xH,isinstance_false_list→xI,isinstance_false_none→xL,isinstance_false_str→xM,isinstance_false_tuple→xN,keywordEach→xO,letOwnedTupleGo→xP,mainGlobals→xR,model→xS,rawInt→xT,sizeLine_eq→xU,sliceBounds→vQ,starEach→vZ,treeTable→vJ,wpAny→vX,wpAny_Call_Name_kw→vV,wpAny_bind→vW,wpAny_callSpecial?_slot→vK,wpAny_call_entry→vY,wpAny_field→vq,wpAny_holding→vz,wpAny_mono→vj,wpAny_newObj_type→vx,wpAny_passesOwn→vv,wpAny_pure→v4,wpAny_setField_rec→v5,wpAny_truthy_bool→v6
open PySem.W renaming Frag→v7,boot_heap→v8,kas_rev→v9
set_option maxHeartbeats 0
noncomputable section
namespace _L
open PySem PySem.Spec PyProof.Rows
variable{us:List xY}{u:xY}{a b C:jT}{P:xX}{w:xq}{h base:Heap}{t' i k:Nat}{ch fp:List jT}{x:Str}{Q:Unit->xW->Prop}{e c tg:xQ}{A:jU}{E:xY->xW->Prop}{s:xW}{vA:List (jT×Obj)}{K:PySem.W.Frag}{body:List xK}{f:xY->xY->Sem xY}{op:CmpOp}{kw:List (Str×xY)}{mg:Str->Option xY}{kindOf:Str->Option xJ}
noncomputable abbrev Key:=Sum Int Str
def ZFE:Key->xY->Bool
 |.inl k,v=>Value.isInt k v
 |.inr x,v=>Value.isStrOf x v
def keyH(w:xq):Key->Int
 |.inl k=>hashInt k
 |.inr x=>hashStr w x
theorem Iu:∀{k:Key}{v:xY},ZFE k v=vD->(∃i t,k=Sum.inl i/\v=Value.int i t)∨(∃x t,k=Sum.inr x/\v=Value.str x t)
 |.inl i,v,h=>by obtain⟨t,e⟩:=Value.isInt_shape (k:=i) (v:=v) h;exact .inl ⟨i,t,rfl,e⟩
 |.inr x,v,h=>by obtain⟨t,e⟩:=Value.isStrOf_shape (x:=x) (v:=v) h;exact .inr ⟨x,t,rfl,e⟩
theorem ZOM(a b:Int):decide ((Sum.inl a:Key)=Sum.inl b)=(a==b):=by
 by_cases e:a=b
 ·subst e;simp
 ·have h:¬(Sum.inl a:Key)=Sum.inl b:=λq=>e (Sum.inl.inj q)
  rw[decide_eq_false h];exact(beq_eq_false_iff_ne.mpr e).symm
theorem ZNs(a b:Str):decide ((Sum.inr a:Key)=Sum.inr b)=decide (a=b):=by
 by_cases e:a=b
 ·subst e;simp
 ·have h:¬(Sum.inr a:Key)=Sum.inr b:=λq=>e (Sum.inr.inj q)
  rw[decide_eq_false h,decide_eq_false e]
theorem ZGe(a:Int)(b:Str):decide ((Sum.inl a:Key)=Sum.inr b)=vE:=decide_eq_false (λq=>nomatch q)
theorem ZIN(a:Str)(b:Int):decide ((Sum.inr a:Key)=Sum.inl b)=vE:=decide_eq_false (λq=>nomatch q)
def ZFB(prog:xX)(w:xq):PySem.KeyKind prog w Key where
 is:=ZFE
 hash:=keyH w
 inj:=λv a b ha hb=>by
  rcases Iu ha with⟨i,t,rfl,rfl⟩|⟨x,t,rfl,rfl⟩
  ·rcases Iu hb with⟨j,u,rfl,e⟩|⟨y,u,rfl,e⟩
   ·injection e with e1 _;rw[e1]
   ·exact nomatch e
  ·rcases Iu hb with⟨j,u,rfl,e⟩|⟨y,u,rfl,e⟩
   ·exact nomatch e
   ·injection e with e1 _;rw[e1]
 byValue:=λk v h=>by rcases Iu h with⟨i,t,rfl,rfl⟩|⟨x,t,rfl,rfl⟩<;>rfl
 pyHash:=λhv h=>by
  rcases Iu hv with⟨i,t,rfl,rfl⟩|⟨x,t,rfl,rfl⟩
  ·exact wpAny_pyHash_int h
  ·exact wpAny_pyHash_str h
 eqBool:=λhu hv h=>by
  rcases Iu hu with⟨i,t,rfl,rfl⟩|⟨x,t,rfl,rfl⟩
  ·rcases Iu hv with⟨j,u,rfl,rfl⟩|⟨y,u,rfl,rfl⟩
   ·rw[ZOM]at h;exact wpAny_eqBool_int h
   ·rw[ZGe]at h;exact SeqAt.EqAt.int_str i t y u _ _ _ _ h
  ·rcases Iu hv with⟨j,u,rfl,rfl⟩|⟨y,u,rfl,rfl⟩
   ·rw[ZIN]at h;exact SeqAt.EqAt.str_int x t j u _ _ _ _ h
   ·rw[ZNs]at h;exact wpAny_eqBool_str h
 «strs»:=λk x t v h=>by
  rcases Iu h with⟨i,u,rfl,e⟩|⟨y,u,rfl,e⟩
  ·exact nomatch e
  ·injection e with e1 _
   subst e1
   cases v<;>rfl
inductive V where
 |non|bl (b:Bool)|int (i:Int)|str (x:Str)|byt (b:Array UInt8)|flt (b:UInt64)|ref (a:jT)|ty (n:String)
 deriving DecidableEq
variable{v y:V}{vs:List V}
def RelV:V->xY->Prop
 |.non,u=>u=Value.none
 |.bl b,u=>u=Value.bool b
 |.int i,u=>∃t,u=Value.int i t
 |.str x,u=>∃t,u=Value.str x t
 |.byt b,u=>∃t,u=Value.bytes b t
 |.flt b,u=>∃t,u=Value.float b t
 |.ref a,u=>u=Value.ref a
 |.ty n,u=>u=Value.type n
abbrev Vals:List V->List xY->Prop:=Paired RelV
theorem Vals.length{xs:List V}(r:Vals xs us):xs.length=us.length:=Paired.length r
theorem Vals.get:∀{xs:List V}{us:List xY}{i:Nat}{x:V},Vals xs us->xs[i]?=vB x->∃u,us[i]?=vB u/\RelV x u
 |_,_,_,_,.nil,e=>by simp at e
 |_,_,0,_,.cons r _,e=>by simp at e;subst e;exact⟨_,rfl,r⟩
 |_,_,i+1,x,.cons _ t,e=>by obtain⟨u,h1,h2⟩:=Vals.get (i:=i) (x:=x) t (by simpa using e);exact⟨u,by simpa using h1,h2⟩
theorem Vals.set{x:V}(r:RelV x u):∀{xs:List V}{us:List xY}(i:Nat),Vals xs us->Vals (xs.set i x) (us.set i u)
 |_,_,_,.nil=>.nil
 |_,_,0,.cons _ t=>.cons r t
 |_,_,i+1,.cons q t=>.cons q (Vals.set r i t)
theorem Vals.append:∀{xs ys:List V}{us ws:List xY},Vals xs us->Vals ys ws->Vals (xs++ys) (us++ws)
 |_,_,_,_,.nil,s=>s
 |_,_,_,_,.cons r t,s=>.cons r (Vals.append t s)
theorem Vals.take:∀{xs:List V}{us:List xY}(n:Nat),Vals xs us->Vals (xs.take n) (us.take n)
 |_,_,0,_=>.nil
 |_,_,_+1,.nil=>.nil
 |_,_,n+1,.cons r t=>.cons r (Vals.take n t)
theorem Vals.drop:∀{xs:List V}{us:List xY}(n:Nat),Vals xs us->Vals (xs.drop n) (us.drop n)
 |_,_,0,r=>r
 |_,_,_+1,.nil=>.nil
 |_,_,n+1,.cons _ t=>Vals.drop n t
def RelO:Option V->Option xY->Prop
 |some v,vB u=>RelV v u
 |none,vC=>True
 |_,_=>False
def KV{κ:Type}:List (κ×V)->List (κ×xY)->Prop:=Paired λ(p:κ×V)(q:κ×xY)=>p.1=q.1/\RelV p.2 q.2
def kV:Key->V
 |.inl i=>.int i
 |.inr x=>.str x
inductive HO where
 |lst (xs:List V)
 |tup (xs:List V)
 |dK (kvs:List (Key×V))|dT (kvs:List (List Key×V))
 |set (S:Int->Bool) (n:Nat)
 |ins (C dx:jT) (fs:List (Str×V))
 |own (x:jT)
 |xd (fs:List (Str×V))
 |met (f x:jT)
 |rng (lo hi:Int)
 |frz (o:Obj) (u:HO)
 |tbl (ps:Array xY)
 |ext (φ:Heap->Prop)
variable{o:HO}
noncomputable abbrev Hp:=jT->Option HO
variable{H:Hp}
noncomputable def upd(H:Hp)(a:jT)(o:HO):Hp:=λb=>if b=a then vB o else H b
theorem Eo:upd H a o a=vB o:=by unfold upd;rw[if_pos rfl]
theorem Ay(h:b≠a):upd H a o b=H b:=by unfold upd;rw[if_neg h]
theorem Gf(h:H a=vB o)(h':H b=vC):a≠b:=by intro e;subst e;rw[h]at h';cases h'
section
variable(P:xX)(w:xq)
def ObjOk(H:Hp)(h:Heap)(a:jT):HO->Prop
 |.lst xs=>xs.length<=sizeLine/\∃(its:List xY)(n:Nat),Vals xs its/\h.get? a=vB {cls:=.type "list",data:=.seq its.toArray n}
 |.tup xs=>xs.length<=sizeLine/\∃its:List xY,Vals xs its/\IsTup h a its.toArray
 |.dK kvs=>kvs.length<=sizeLine/\(a==sysModules)=vE/\∃vs,KV kvs vs/\h.DictOf (ZFB P w) a vs
 | .dT kvs=>kvs.length<=sizeLine/\(a==sysModules)=vE/\∃xs:List (List Key×jT×xY),
   Paired (λ(p:List Key×V)(q:List Key×jT×xY)=>p.1=q.1/\H q.2.1=vB (.tup (p.1.map kV))/\RelV p.2 q.2.2) kvs xs/\
   ∃o es ep,h.get? a=vB o/\o.ExactDict/\o.data=.dict es ep/\es.toList=xs.map (entryOfKey (tupleKind (ZFB P w)))/\(xs.map (·.1)).Nodup
 |.set S n=>h.SetOf (intKind P w) a S n
 | .ins C dx fs=>H dx=vB (.own a)/\fs.length<=1000/\dx≠a/\h.get? a=vB (PySem.W.instObj C dx)/\
   ∃mA,h.Ns1 dx mA/\(∀f,RelO (fs.lookup f) (mA f))/\PySem.Within mA (fs.map (·.1))
 |.own _=>∃o,h.get? a=vB o
 |.xd fs=>∃mA,h.Ns1 a mA/\∀f,RelO (fs.lookup f) (mA f)
 |.rng lo hi=>∃t u v,h.get? a=vB {cls:=.type "range",data:=.fields #[.int lo t,.int hi u,.int 1 v]}
 |.frz o u=>h.get? a=vB o/\ObjOk H h a u
 |.tbl ps=>h.get? a=vB {cls:=.none,data:=.fields ps}
 |.met f x=>h.get? a=vB (PySem.W.methodObj (.ref f) (.ref x))
 |.ext φ=>φ h/\(∃o,h.get? a=vB o)/\∀h1 h2:Heap,φ h1->(∀o,h1.get? a=vB o->h2.get? a=vB o)->φ h2
def HOk(H:Hp)(h:Heap):Prop:=∀a o,H a=vB o->ObjOk P w H h a o
end
section
variable{P:xX}{w:xq}{H H':Hp}{h h':Heap}{a:jT}{o:HO}
theorem ObjOk.lt(x:ObjOk P w H h a o):a<h.objs.size:=by
 cases o with
 |lst xs=>obtain⟨_,_,_,_,e⟩:=x;exact zY e
 |tup xs=>obtain⟨_,_,_,p⟩:=x;exact p.lt
 |dK kvs=>obtain⟨_,_,_,_,o,_,_,e,_⟩:=x;exact zY e
 |dT kvs=>obtain⟨_,_,_,_,o,_,_,e,_⟩:=x;exact zY e
 |set S n=>obtain⟨o,_,_,_,e,_⟩:=x;exact zY e
 |ins C dx fs=>obtain⟨_,_,_,e,_⟩:=x;exact zY e
 |own y=>obtain⟨_,e⟩:=x;exact zY e
 |xd fs=>obtain⟨_,⟨_,_,_,e,_⟩,_⟩:=x;exact zY e
 |rng lo hi=>obtain⟨_,_,_,e⟩:=x;exact zY e
 |frz ob u=>obtain⟨e,_⟩:=x;exact zY e
 |tbl ps=>exact zY (show h.get? a=vB _ from x)
 |met f y=>exact zY (show h.get? a=vB _ from x)
 |ext φ=>obtain⟨_,⟨_,e⟩,_⟩:=x;exact zY e
theorem Paired.mapP{α β:Type}{F G:α->β->Prop}:∀{l₁:List α}{l₂:List β},Paired F l₁ l₂->(∀a b,F a b->G a b)->Paired G l₁ l₂
 |_,_,.nil,_=>.nil
 |_,_,.cons r t,f=>.cons (f _ _ r) (Paired.mapP t f)
theorem ObjOk.stay(x:ObjOk P w H h a o)(k:∀b u,(b=a∨H b=vB (.own a))->h.get? b=vB u->h'.get? b=vB u)
  (ho:∀b,H b=vB (.own a)->H' b=vB (.own a)) (ht:∀b xs,H b=vB (.tup xs)->H' b=vB (.tup xs)):ObjOk P w H' h' a o:=by
 induction o with
 |lst xs=>obtain⟨z,its,n,r,e⟩:=x;exact⟨z,its,n,r,k _ _ (.inl rfl) e⟩
 |tup xs=>obtain⟨z,its,r,ob,e,c⟩:=x;exact⟨z,its,r,ob,k _ _ (.inl rfl) e,c⟩
 |dK kvs=>obtain⟨z,y,vs,r,ob,es,ep,e,c⟩:=x;exact⟨z,y,vs,r,ob,es,ep,k _ _ (.inl rfl) e,c⟩
 |dT kvs=>
  obtain⟨z,y,xs,r,ob,es,ep,e,c⟩:=x;exact⟨z,y,xs,Paired.mapP r λp q z=>⟨z.1,ht _ _ z.2.1,z.2.2⟩,ob,es,ep,k _ _ (.inl rfl) e,c⟩
 |set S n=>obtain⟨ob,es,ep,t,e,c⟩:=x;exact⟨ob,es,ep,t,k _ _ (.inl rfl) e,c⟩
 |ins C dx fs=>
  obtain⟨d,z,ne,e,mA,⟨od,es,ep,e2,c⟩,r⟩:=x;exact⟨ho _ d,z,ne,k _ _ (.inl rfl) e,mA,⟨od,es,ep,k _ _ (.inr d) e2,c⟩,r⟩
 |own y=>obtain⟨ob,e⟩:=x;exact⟨ob,k _ _ (.inl rfl) e⟩
 |xd fs=>obtain⟨mA,⟨od,es,ep,e,c⟩,r⟩:=x;exact⟨mA,⟨od,es,ep,k _ _ (.inl rfl) e,c⟩,r⟩
 |rng lo hi=>obtain⟨t,u,v,e⟩:=x;exact⟨t,u,v,k _ _ (.inl rfl) e⟩
 |frz ob u ih=>obtain⟨e,q⟩:=x;exact⟨k _ _ (.inl rfl) e,ih q⟩
 |tbl ps=>
  have e:h.get? a=vB {cls:=.none,data:=.fields ps}:=x;show h'.get? a=vB {cls:=.none,data:=.fields ps};exact k a _ (.inl rfl) e
 |met f y=>
  have e:h.get? a=vB (PySem.W.methodObj (.ref f) (.ref y)):=x;show h'.get? a=vB (PySem.W.methodObj (.ref f) (.ref y));exact k a _ (.inl rfl) e
 |ext φ=>obtain⟨p,⟨o,e⟩,st⟩:=x;exact⟨st _ _ p λo q=>k _ _ (.inl rfl) q,⟨o,k _ _ (.inl rfl) e⟩,st⟩
theorem HOk.lt(x:HOk P w H h)(e:H a=vB o):a<h.objs.size:=(x a o e).lt
theorem HOk.fresh(x:HOk P w H h)(e:h.objs.size<=a):H a=vC:=by
 cases q:H a with
 |none=>rfl
 |some u=>exact absurd (zV (x.lt q) e) (zS _)
theorem HOk.kept(x:HOk P w H h)(k:∀b u,h.get? b=vB u->h'.get? b=vB u):HOk P w H h':=λa o e=>
 (x a o e).stay (λb u _ q=>k b u q) (λ_ q=>q) λ_ _ q=>q
theorem HOk.laid(x:HOk P w H h)(k:∀b u,h.get? b=vB u->h'.get? b=vB u)(hp:h.objs.size<=a)(new:ObjOk P w (upd H a o) h' a o):HOk P w (upd H a o) h':=λb u e=>by
 have hn:=x.fresh hp;by_cases hb:b=a
 ·subst hb;rw[Eo]at e;cases e;exact new
 ·rw[Ay hb]at e;exact(x b u e).stay (λc v _ q=>k c v q) (λc q=>by rw[Ay (Gf q hn)];exact q) λc xs q=>by rw[Ay (Gf q hn)];exact q
end
def Rd(H:Hp)(a:jT)(u:HO):Prop:=H a=vB u∨∃o,H a=vB (.frz o u)
theorem Rd.ok{u:HO}(r:Rd H a u)(x:HOk P w H h):ObjOk P w H h a u:=by
 rcases r with r|⟨o,r⟩
 ·exact x a u r
 ·obtain⟨_,q⟩:=x a _ r;exact q
def Mut:Option HO->Prop
 |some (.lst _)=>True
 |some (.dK _)=>True
 |some (.dT _)=>True
 |some (.set _ _)=>True
 |some (.ins _ _ _)=>True
 |some (.ext _)=>True
 |_=>False
section
variable{P:xX}{w:xq}{H:Hp}{h h':Heap}{x e:jT}{o':HO}
theorem HOk.write(ok:HOk P w H h)(mu:Mut (H x))(he:e=x∨H e=vB (.own x))(k:∀b u,b≠e->h.get? b=vB u->h'.get? b=vB u)(heo:∃u,h'.get? e=vB u)
  (new:ObjOk P w (upd H x o') h' x o'):HOk P w (upd H x o') h':=λb u q=>by
 have nown:∀c y,H c=vB (.own y)->c≠x:=λc y r z=>by subst z;rw[r]at mu;exact mu
 have ntup:∀c xs,H c=vB (.tup xs)->c≠x:=λc xs r z=>by subst z;rw[r]at mu;exact mu
 by_cases hb:b=x
 ·subst hb;rw[Eo]at q;cases q;exact new
 ·rw[Ay hb]at q;by_cases hbe:b=e
  ·have q':H b=vB (.own x):=by
    rcases he with z|z
    ·exact absurd (hbe.trans z) hb
    ·rw[hbe];exact z
   rw[q]at q';cases q';obtain⟨v,hv⟩:=heo;exact⟨v,by rw[hbe];exact hv⟩
  ·refine(ok b u q).stay (λc v hc r=>k c v ?_ r) (λc r=>by rw[Ay (nown c b r)];exact r) λc xs r=>by rw[Ay (ntup c xs r)];exact r
   rcases hc with rfl|hc
   ·exact hbe
   ·rintro rfl;rcases he with z|z
    ·exact nown c b hc z
    ·rw[hc]at z;cases z;exact hb rfl
end
structure Un (fs ex:List jT) (H H':Hp) (h h':Heap):Prop where
 keep:∀b o,h.get? b=vB o->H b=vC->b∉fs->b∉ex->h'.get? b=vB o
 slot:∀b o,h.get? b=vB o->H b=vC->b∈fs->b∉ex->∃sl,h'.get? b=vB {o with slots:=sl}
 free:∀b o,h.get? b=vB o->H b=vC->b∉ex->H' b=vC
 there:∀b o,h.get? b=vB o->b∉ex->∃o',h'.get? b=vB o'
 tups:∀b xs,H b=vB (.tup xs)->H' b=vB (.tup xs)
 frzs:∀b o u,H b=vB (.frz o u)->H' b=vB (.frz o u)
 tbls:∀b ps,H b=vB (.tbl ps)->∃more,H' b=vB (.tbl (ps++more))
section
variable{fs fs' ex ex':List jT}{H H1 H2:Hp}{h h1 h2 h':Heap}{a x e:jT}{o:HO}
theorem Un.any(u:Un fs ex H H1 h h1){ob:Obj}(q:h.get? b=vB ob)(n:H b=vC)(hx:b∉ex):∃sl,h1.get? b=vB {ob with slots:=sl}:=by
 by_cases hb:b∈fs
 ·exact u.slot b ob q n hb hx
 ·exact⟨ob.slots,u.keep b ob q n hb hx⟩
theorem Un.kept(k:∀b u,h.get? b=vB u->h'.get? b=vB u):Un fs ex H H h h':=
 ⟨λb ob q _ _ _=>k b ob q,λb ob q _ _ _=>⟨ob.slots,k b ob q⟩,λ_ _ _ n _=>n,λb ob q _=>⟨ob,k b ob q⟩,λ_ _ q=>q,λ_ _ _ q=>q,λ_ ps q=>⟨#[],by rw[q];simp⟩⟩
theorem Un.refl:Un fs ex H H h h:=Un.kept λ_ _ q=>q
theorem Un.laid(k:∀b u,h.get? b=vB u->h'.get? b=vB u)(hp:h.objs.size<=a)(hn:H a=vC):Un fs ex H (upd H a o) h h' where
 keep:=λb u q _ _ _=>k b u q
 slot:=λb u q _ _ _=>⟨u.slots,k b u q⟩
 free:=λb u q n _=>by rw[Ay (zE (zV (zY q) hp))];exact n
 there:=λb u q _=>⟨u,k b u q⟩
 tups:=λb xs q=>by rw[Ay (Gf q hn)];exact q
 frzs:=λb u xs q=>by rw[Ay (Gf q hn)];exact q
 tbls:=λb ps q=>⟨#[],by rw[Ay (Gf q hn),q];simp⟩
theorem Un.write(mu:Mut (H x))(he:e=x∨H e=vB (.own x))(k:∀b u,b≠e->h.get? b=vB u->h'.get? b=vB u)(heo:∃u,h'.get? e=vB u):Un fs ex H (upd H x o) h h':=by
 have hx:∀b,H b=vC->b≠x:=λb n z=>by subst z;rw[n]at mu;exact mu
 have hb:∀b,H b=vC->b≠e:=λb n z=>by
  subst z;rcases he with r|r
  ·exact hx b n r
  ·rw[n]at r;cases r
 have hm:∀b u,H b=vB u->¬Mut (vB u)->b≠x:=λb u q nm z=>by subst z;rw[q]at mu;exact nm mu
 refine⟨λb u q n _ _=>k b u (hb b n) q,λb u q n _ _=>⟨u.slots,k b u (hb b n) q⟩,λb u q n _=>by rw[Ay (hx b n)];exact n,λb u q _=>?_,
  λb xs q=>by rw[Ay (hm b _ q λz=>z)];exact q,λb u xs q=>by rw[Ay (hm b _ q λz=>z)];exact q,λb ps q=>⟨#[],by rw[Ay (hm b _ q λz=>z),q];simp⟩⟩
 by_cases hbe:b=e
 ·subst hbe;exact heo
 ·exact⟨u,k b u hbe q⟩
end
noncomputable def trk(h:Heap)(H:Hp):List jT:=(zk h.objs.size).filter λa=>(H a).isSome
def J9(h:Heap)(H:Hp):Heap:=PySem.W.hideAll h (trk h H)
theorem ZKV(h:Heap)(H:Hp):(J9 h H).objs.size=h.objs.size:=PySem.W.hideAll_size _ _
theorem ZNa{o:Obj}(e:h.get? b=vB o)(n:H b=vC):(J9 h H).get? b=vB o:=
 PySem.W.hideAll_get _ e λhm=>by have q:(H b).isSome=vD:=(List.mem_filter.mp hm).2;rw[n]at q;simp at q
theorem ZL4{o:Obj}(e:(J9 h H).get? b=vB o):h.get? b=vB o/\H b=vC:=by
 have e':h.get? b=vB o:=PySem.W.of_hideAll (trk h H) e;refine⟨e',?_⟩;cases q:H b with
 |none=>rfl
 |some x=>
  have hm:b∈trk h H:=List.mem_filter.mpr ⟨qY.mpr (zY e'),by simp[q]⟩;have z:(J9 h H).get? b=vC:=PySem.W.hideAll_none (trk h H) hm;rw[z]at e;cases e
noncomputable def ZI7(g h:Heap)(L:jT):List (jT×Obj):=(zk h.objs.size).filterMap λa=>if a=L∨(g.get? a).isSome=vD then vC else(h.get? a).map λo=>(a,o)
def rest(g h:Heap)(L d:jT):List (jT×Obj):=(ZI7 g h L).filter λp=>decide (p.1≠d)
structure Mod (K:PySem.W.Frag) (mg:Str->Option xY) (base:Heap):Prop where
 kin:K.In base
 glob:base.Ns xR mg
 blt:∃mb,base.Ns builtinsNs mb/\∀x:Str,x≠"__name__"->mb x=xA x
 nolimit:base.NoLimit
structure Cx where
 prog:xX
 w:xq
 K:PySem.W.Frag
 mg:Str->Option xY
 base:Heap
 A:jU
 N:List Str
 s₀:xW
 H₀:Hp
 env:Env
 outer:List Env
 stack:List Env
 ex:List jT
 fn:Str->Bool
 calm:Bool
 pn:List (jT×Obj)
 xe:xY->xW->Prop
variable{X:Cx}
noncomputable def frs(l:List Env):List jT:=l.filterMap (·.frame)
noncomputable abbrev Cx.fs(X:Cx):List jT:=frs X.outer
def Vis(sc:xV)(x:Str):Prop:=sc.names.lookup x=vB .local∨sc.names.lookup x=vB .cell∨sc.names.lookup x=vB .free
def Loc(sc:xV)(x:Str):Prop:=sc.names.lookup x=vB .local∨sc.names.lookup x=vB .cell
def Look(env:Env)(h:Heap)(m:Str->Option xY)(x:Str)(u:xY):Prop:=
 (env.kindOf x=vB .local/\m x=vB u)∨((env.kindOf x=vB .cell∨env.kindOf x=vB .free)/\∃c,env.cells.lookup x=vB c/\h.IsCell c (vB u))
structure Cx.Ok (X:Cx):Prop where
 mod:Mod X.K X.mg X.base
 kind:X.env.scope.kind=.function
 glob:X.env.globals=xR
 blt:X.env.builtins=builtinsNs
 above:X.s₀.heap.objs.size<=X.env.locals
 inj:∀x y c,X.env.cells.lookup x=vB c->X.env.cells.lookup y=vB c->x=y
 has:∀x,(X.env.kindOf x=vB .cell∨X.env.kindOf x=vB .free)->∃c,X.env.cells.lookup x=vB c
 cab:∀x c,X.fn x=vD->X.env.cells.lookup x=vB c->X.s₀.heap.objs.size<=c
 hd:X.calm=vD->X.A.handled=vC
 frames:X.A.frames=vB X.stack
 stk:X.stack=X.outer∨(X.stack=X.env::X.outer/\X.env.frame=vB X.env.locals)
 exf:∀b∈X.ex,b≠X.env.locals/\∀x c,X.env.cells.lookup x=vB c->c≠b
 bs:∀b o,X.base.get? b=vB o->X.s₀.heap.get? b=vB o/\X.H₀ b=vC
 bsz:X.base.objs.size<=X.s₀.heap.objs.size
 noex:∀b o,X.base.get? b=vB o->b∉X.ex
 exfs:∀b∈X.ex,b∉X.fs
 funs:X.s₀.heap.FunFrames X.base X.outer
 frf:∀b∈X.fs,X.H₀ b=vC
structure Inv (X:Cx) (vA:List (jT×Obj)) (σ:List (Option V)) (H:Hp) (s:xW):Prop where
 ok:X.Ok
 os:s.os=X.s₀.os
 bare:AllBare s.gens
 base:Un X.fs X.ex X.H₀ H X.s₀.heap s.heap
 loc:∃m,s.heap.Ns X.env.locals m/\∀(i:Nat)(x:Str)(v:V),X.N[i]?=vB x->σ[i]?=vB (vB v)->Vis X.env.scope x->∃u,RelV v u/\Look X.env s.heap m x u
 cell:∀x c,X.env.cells.lookup x=vB c->∃v,s.heap.IsCell c v
 free:H X.env.locals=vC
 Gd:∀x c,X.env.cells.lookup x=vB c->H c=vC
 pin:∀p∈X.pn++vA,s.heap.get? p.1=vB p.2/\H p.1=vC/\p.1≠X.env.locals/\p.1∉X.fs/\∀v,p.2.data≠ .cell v
 hok:HOk X.prog X.w H s.heap
 len:σ.length=X.N.length
section
variable{X:Cx}{vA:List (jT×Obj)}{σ:List (Option V)}{H H':Hp}{s:xW}{h':Heap}
theorem Cx.Ok.nofr(ok:X.Ok){o:Obj}(e:X.base.get? b=vB o):b∉X.fs:=λhb=>by have:=(ok.funs.mem hb).1;rw[e]at this;cases this
theorem Inv.bs(I:Inv X vA σ H s):∀b o,X.base.get? b=vB o->s.heap.get? b=vB o/\H b=vC:=λb o e=>
 ⟨I.base.keep b o (I.ok.bs b o e).1 (I.ok.bs b o e).2 (I.ok.nofr e) (I.ok.noex b o e),I.base.free b o (I.ok.bs b o e).1 (I.ok.bs b o e).2 (I.ok.noex b o e)⟩
theorem Inv.bk(I:Inv X vA σ H s):∀b o,X.base.get? b=vB o->s.heap.get? b=vB o:=λb o e=>(I.bs b o e).1
theorem Inv.mod(I:Inv X vA σ H s):Mod X.K X.mg X.base:=I.ok.mod
theorem Inv.kIn(I:Inv X vA σ H s):X.K.In s.heap:=I.ok.mod.kin.keeps I.bk
theorem Inv.lt(I:Inv X vA σ H s):X.env.locals<s.heap.objs.size:=let⟨_,hn,_⟩:=I.loc;hn.lt
theorem Inv.sz(I:Inv X vA σ H s):X.s₀.heap.objs.size<=s.heap.objs.size:=zC I.ok.above (Nat.le_of_lt I.lt)
theorem Inv.nofs(I:Inv X vA σ H s)(h:s.heap.objs.size<=a):a∉X.fs:=λhb=>by obtain⟨_,o,ho,_⟩:=I.ok.funs.mem hb;exact absurd (zV (zY ho) (zC I.sz h)) (zS _)
theorem Inv.cne(I:Inv X vA σ H s):∀x c,X.env.cells.lookup x=vB c->c≠X.env.locals:=λx c e z=>by obtain⟨v,o,ho,hd⟩:=I.cell x c e;obtain⟨m,⟨o',es,ep,ho',hd',_⟩,_⟩:=I.loc;rw[z,ho']at ho;cases ho;rw[hd']at hd;cases hd
theorem Inv.funs(I:Inv X vA σ H s):s.heap.FunFrames X.base X.outer:=by
 have all:∀(l:List Env),(∀b∈frs l,b∈X.fs)->X.s₀.heap.FunFrames X.base l->s.heap.FunFrames X.base l:=by
  intro l
  induction l with
  |nil=>intro _ _;trivial
  |cons env r ih=>
   intro hs hl;obtain⟨hk,⟨L,o,hf,hn,ho,hd⟩,hr⟩:=hl;have hL:L∈X.fs:=hs L (by unfold frs;rw[zU,hf];exact zX);obtain⟨sl,e⟩:=I.base.slot L o ho (I.ok.frf L hL) hL λz=>I.ok.exfs L z hL
   exact⟨hk,⟨L,_,hf,hn,e,hd⟩,ih (λb hb=>hs b (by unfold frs;rw[zU,hf];exact zJ _ hb)) hr⟩
 exact all X.outer (λ_ hb=>hb) I.ok.funs
theorem Inv.stack(I:Inv X vA σ H s):s.heap.FunFrames X.base X.stack:=by
 rcases I.ok.stk with e|⟨e,hf⟩
 ·rw[e];exact I.funs
 ·rw[e];obtain⟨m,hn,_⟩:=I.loc;refine .cons (by rw[I.ok.kind];decide) hf hn ?_ I.funs;exact jM (zC I.ok.bsz I.ok.above)
theorem Inv.Ve(I:Inv X vA σ H s):∀b∈frs X.stack,b∈X.env.locals::X.fs:=λb hb=>by
 rcases I.ok.stk with e|⟨e,hf⟩
 ·rw[e]at hb;exact zJ _ hb
 ·rw[e]at hb;unfold frs at hb;rw[zU,hf]at hb;exact hb
theorem Inv.S8(I:Inv X vA σ H s):∀b∈frs X.stack,H b=vC:=λb hb=>by
 rcases zw.mp (I.Ve b hb)with e|hb
 ·rw[e];exact I.free
 ·obtain⟨_,o,ho,_⟩:=I.ok.funs.mem hb;exact I.base.free b o ho (I.ok.frf b hb) λz=>I.ok.exfs b z hb
theorem Inv.step{g':Array GenState}{d':Drawn}(I:Inv X vA σ H s)
  (hch:∀b∈ch,(b∈X.ex∨X.s₀.heap.objs.size<=b)/\b≠X.env.locals/\(∀x c,X.env.cells.lookup x=vB c->c≠b)/\∀p∈X.pn++vA,p.1≠b)
  (keep:∀b o,b≠X.env.locals->b∉X.fs->b∉ch->s.heap.get? b=vB o->H b=vC->h'.get? b=vB o)
  (slot:∀b o,b≠X.env.locals->b∈X.fs->b∉ch->s.heap.get? b=vB o->H b=vC->∃sl,h'.get? b=vB {o with slots:=sl}) (free:∀b o,b∉ch->s.heap.get? b=vB o->H b=vC->H' b=vC)
  (there:∀b o,b∉ch->s.heap.get? b=vB o->∃o',h'.get? b=vB o')
  (tups:∀b xs,H b=vB (.tup xs)->H' b=vB (.tup xs)) (frzs:∀b o u,H b=vB (.frz o u)->H' b=vB (.frz o u)) (tbls:∀b ps,H b=vB (.tbl ps)->∃more,H' b=vB (.tbl (ps++more)))
  (ns:∀m,s.heap.Ns X.env.locals m->h'.Ns X.env.locals m) (hok:HOk X.prog X.w H' h') (hg:AllBare g'):
  Inv X vA σ H' {s with heap:=h',gens:=g',drawn:=d',toks:=t'}:=by
 have neL:∀b o,X.s₀.heap.get? b=vB o->b≠X.env.locals:=λb o e=>zE (zV (zY e) I.ok.above)
 have neC:∀b o,X.s₀.heap.get? b=vB o->b∉X.ex->b∉ch:=λb o e hx hb=>by
  rcases(hch b hb).1 with z|z
  ·exact hx z
  ·exact absurd (zV (zY e) z) (zS _)
 have cellK:∀x c,X.env.cells.lookup x=vB c->∀v,s.heap.IsCell c v->h'.IsCell c v:=λx c e v ⟨o,ho,hd⟩=>by
  have nch:c∉ch:=λz=>(hch c z).2.2.1 x c e rfl
  by_cases hc:c∈X.fs
  ·obtain⟨sl,q⟩:=slot c o (I.cne x c e) hc nch ho (I.Gd x c e);exact⟨_,q,hd⟩
  ·exact⟨o,keep c o (I.cne x c e) hc nch ho (I.Gd x c e),hd⟩
 refine⟨I.ok,I.os,hg,⟨λb o e n hb hx=>?_,λb o e n hb hx=>?_,λb o e n hx=>?_,λb o e hx=>?_,λb xs e=>tups b xs (I.base.tups b xs e),λb o xs e=>frzs b o xs (I.base.frzs b o xs e),λb ps e=>?_⟩,?_,λx c e=>?_,?_,λx c e=>?_,λp hp=>?_,hok,I.len⟩
 ·exact keep b o (neL b o e) hb (neC b o e hx) (I.base.keep b o e n hb hx) (I.base.free b o e n hx)
 ·obtain⟨sl,e1⟩:=I.base.slot b o e n hb hx;obtain⟨sl',e2⟩:=slot b _ (neL b o e) hb (neC b o e hx) e1 (I.base.free b o e n hx);exact⟨sl',e2⟩
 ·obtain⟨o',e1⟩:=I.base.there b o e hx;exact free b o' (neC b o e hx) e1 (I.base.free b o e n hx)
 ·obtain⟨o',e1⟩:=I.base.there b o e hx;exact there b o' (neC b o e hx) e1
 ·obtain⟨m1,e1⟩:=I.base.tbls b ps e;obtain⟨m2,e2⟩:=tbls b _ e1;exact⟨m1++m2,by rw[e2,Array.append_assoc]⟩
 ·obtain⟨m,hn,hl⟩:=I.loc;refine⟨m,ns m hn,λi x v e1 e2 e3=>?_⟩;obtain⟨u,r,l⟩:=hl i x v e1 e2 e3;refine⟨u,r,?_⟩;rcases l with l|⟨k,c,e,z⟩
  ·exact .inl l
  ·exact .inr ⟨k,c,e,cellK x c e _ z⟩
 ·obtain⟨v,z⟩:=I.cell x c e;exact⟨v,cellK x c e v z⟩
 ·obtain⟨m,⟨o,_,_,ho,_⟩,_⟩:=I.loc;exact free _ o (λz=>(hch _ z).2.1 rfl) ho I.free
 ·obtain⟨v,o,ho,hd⟩:=I.cell x c e;exact free c o (λz=>(hch c z).2.2.1 x c e rfl) ho (I.Gd x c e)
 ·obtain⟨e,n,ne,nf,d⟩:=I.pin p hp;have nch:p.1∉ch:=λz=>(hch p.1 z).2.2.2 p hp rfl
  exact⟨keep p.1 p.2 ne nf nch e n,free p.1 p.2 nch e n,ne,nf,d⟩
theorem Inv.un(I:Inv X vA σ H s)(u:Un X.fs [] H H' s.heap h')(hok:HOk X.prog X.w H' h'):Inv X vA σ H' {s with heap:=h',toks:=t'}:=by
 obtain⟨m,⟨o,es,ep,ho,r⟩,_⟩:=id I.loc;obtain⟨sl,hL⟩:=u.any ho I.free (by simp)
 exact I.step (g':=s.gens) (d':=s.drawn) (ch:=[]) (λ_ z=>nomatch z) (λb o _ hb _ e n=>u.keep b o e n hb (by simp)) (λb o _ hb _ e n=>u.slot b o e n hb (by simp)) (λb o _ e n=>u.free b o e n (by simp)) (λb o _ e=>u.there b o e (by simp)) u.tups u.frzs u.tbls (λm' hm=>by obtain⟨o',es',ep',ho',r'⟩:=hm;rw[ho]at ho';cases ho';exact⟨_,es',ep',hL,r'⟩) hok I.bare
theorem Inv.call{g':Array GenState}{d':Drawn}(I:Inv X vA σ H s)(u:Un (frs X.stack) ch H H' s.heap h')(hok:HOk X.prog X.w H' h')(hg:AllBare g')
  (hch:∀b∈ch,(b∈X.ex∨X.s₀.heap.objs.size<=b)/\b≠X.env.locals/\(∀x c,X.env.cells.lookup x=vB c->c≠b)/\∀p∈X.pn++vA,p.1≠b):
  Inv X vA σ H' {s with heap:=h',gens:=g',drawn:=d',toks:=t'}:=by
 obtain⟨m,⟨o,es,ep,ho,r⟩,_⟩:=id I.loc;obtain⟨sl,hL⟩:=u.any ho I.free λz=>(hch _ z).2.1 rfl
 exact I.step (ch:=ch) hch (λb o hL hb hc e n=>u.keep b o e n (λz=>(zw.mp (I.Ve b z)).elim hL hb) hc) (λb o _ _ hc e n=>u.any e n hc) (λb o hc e n=>u.free b o e n hc) (λb o hc e=>u.there b o e hc) u.tups u.frzs u.tbls (λm' hm=>by obtain⟨o',es',ep',ho',r'⟩:=hm;rw[ho]at ho';cases ho';exact⟨_,es',ep',hL,r'⟩) hok hg
theorem Inv.turned{it:jT}(I:Inv X vA σ H s)(k:∀b o,b≠it->s.heap.get? b=vB o->h'.get? b=vB o)(hn:H it=vC)(hL:it≠X.env.locals)
  (h1:it∈X.ex∨X.s₀.heap.objs.size<=it) (h2:∀x c,X.env.cells.lookup x=vB c->c≠it) (h3:∀p∈X.pn++vA,p.1≠it):Inv X vA σ H {s with heap:=h',toks:=t'}:=by
 have nit:∀b u,H b=vB u->b≠it:=λb u e z=>by rw[z,hn]at e;cases e
 refine I.step (g':=s.gens) (d':=s.drawn) (ch:=[it]) (λb hb=>?_) (λb o _ _ hc e _=>k b o (λz=>hc (by simp[z])) e) (λb o _ _ hc e _=>⟨o.slots,k b o (λz=>hc (by simp[z])) e⟩) (λ_ _ _ _ n=>n)
  (λb o hc e=>⟨o,k b o (λz=>hc (by simp[z])) e⟩) (λ_ _ e=>e) (λ_ _ _ e=>e) (λb ps e=>⟨#[],by rw[e];simp⟩) (λm hm=>?_) (λb u e=>?_) I.bare
 ·have e:b=it:=by simpa using hb
  subst e;exact⟨h1,hL,h2,h3⟩
 ·obtain⟨o,es,ep,ho,r⟩:=hm;exact⟨o,es,ep,k _ o (Ne.symm hL) ho,r⟩
 ·refine(I.hok b u e).stay (λc v hc q=>k c v ?_ q) (λ_ q=>q) λ_ _ q=>q
  rcases hc with z|z
  ·rw[z];exact nit b u e
  ·exact nit c _ z
theorem Inv.tok(I:Inv X vA σ H s)(t:Nat):Inv X vA σ H {s with toks:=t}:=I.un (h':=s.heap) (t':=t) Un.refl I.hok
theorem Inv.kept(I:Inv X vA σ H s)(k:∀b u,s.heap.get? b=vB u->h'.get? b=vB u):Inv X vA σ H {s with heap:=h',toks:=t'}:=I.un (Un.kept k) (I.hok.kept k)
theorem Inv.laid(I:Inv X vA σ H s)(k:∀b u,s.heap.get? b=vB u->h'.get? b=vB u)(hp:s.heap.objs.size<=a)(new:ObjOk X.prog X.w (upd H a o) h' a o):
  Inv X vA σ (upd H a o) {s with heap:=h',toks:=t'}:=I.un (Un.laid k hp (I.hok.fresh hp)) (I.hok.laid k hp new)
theorem Inv.write{x e:jT}(I:Inv X vA σ H s)(mu:Mut (H x))(he:e=x∨H e=vB (.own x))(k:∀b u,b≠e->s.heap.get? b=vB u->h'.get? b=vB u)(heo:∃u,h'.get? e=vB u)
  (new:ObjOk X.prog X.w (upd H x o) h' x o):Inv X vA σ (upd H x o) {s with heap:=h',toks:=t'}:=I.un (Un.write mu he k heo) (I.hok.write mu he k heo new)
theorem Inv.Jk{pins':List (jT×Obj)}(I:Inv X vA σ H s)(h:∀p∈pins',s.heap.get? p.1=vB p.2/\H p.1=vC/\p.1≠X.env.locals/\p.1∉X.fs/\∀v,p.2.data≠ .cell v):Inv X pins' σ H s:=
 ⟨I.ok,I.os,I.bare,I.base,I.loc,I.cell,I.free,I.Gd,λp hp=>(j5.mp hp).elim (λz=>I.pin p (jN _ z)) (h p),I.hok,I.len⟩
theorem ZA3{N:List Str}(hN:N.Nodup){j:Nat}(a:N[i]?=vB x)(b:N[j]?=vB x):i=j:=by obtain⟨h1,e1⟩:=zH.mp a;obtain⟨h2,e2⟩:=zH.mp b;exact(List.getElem_inj hN).mp (e1.trans e2.symm)
theorem ZFl{M:Model}{A:jU}{E:xY->xW->Prop}(I:Inv X vA σ H s)(hN:X.N.Nodup)(hi:X.N[i]?=vB x)(hx:Loc X.env.scope x)(r:RelV v u)
  (h:∀s',Inv X vA (σ.set i (vB v)) H s'->(∃a,qy a s.heap s'.heap/\(a=X.env.locals∨X.env.cells.lookup x=vB a))->Q () s') (hf:X.fn x=vD∨X.env.scope.names.lookup x=vB .local:=by first|exact .inl rfl|exact .inr rfl|assumption):vX M A (storeName X.env x u) Q E s:=by
 obtain⟨m,hn,hl⟩:=id I.loc;have hcls:(X.env.scope.kind == .class||(X.env.scope.kind == .module&&X.env.locals != X.env.globals))=vE:=by rw[I.ok.kind];rfl
 have hiσ:i<σ.length:=by rw[I.len];exact(zH.mp hi).1
 have cne:=I.cne;have tracked:∀{a:jT}{h':Heap},(∃o,s.heap.get? a=vB o/\H a=vC)->qy a s.heap h'->HOk X.prog X.w H h':=λ{a h'}ha hs b ob e=>by
  obtain⟨_,_,hfree⟩:=ha;refine(I.hok b ob e).stay (λc w' hc q=>(hs.2 c ?_).trans q) (λ_ q=>q) λ_ _ q=>q
  rintro rfl;rcases hc with rfl|hc
  ·rw[hfree]at e;cases e
  ·rw[hfree]at hc;cases hc
 rcases hx with hk|hk
 ·refine wpAny_storeName_local hk hn (λh' hn' hs=>?_) hcls;obtain⟨oL,_,_,hoL,_⟩:=id hn;refine h _ ⟨I.ok,I.os,I.bare,⟨λb o e n hb hx=>?_,λb o e n hb hx=>?_,I.base.free,λb o e hx=>?_,I.base.tups,I.base.frzs,I.base.tbls⟩,⟨_,hn',λj y v' e1 e2 e3=>?_⟩,λy c e=>?_,I.free,I.Gd,λp hp=>?_,tracked ⟨oL,hoL,I.free⟩ hs,by simpa using I.len⟩ ⟨_,hs,.inl rfl⟩
  ·exact(hs.2 b (zE (zV (zY e) I.ok.above))).trans (I.base.keep b o e n hb hx)
  ·obtain⟨sl,e1⟩:=I.base.slot b o e n hb hx;exact⟨sl,(hs.2 b (zE (zV (zY e) I.ok.above))).trans e1⟩
  ·obtain⟨o',e1⟩:=I.base.there b o e hx;exact⟨o',(hs.2 b (zE (zV (zY e) I.ok.above))).trans e1⟩
  ·by_cases hj:j=i
   ·subst hj;rw[hi]at e1;cases e1;rw[qB hiσ]at e2;cases e2;exact⟨u,r,.inl ⟨hk,by simp⟩⟩
   ·rw[q9 (Ne.symm hj)]at e2;obtain⟨u',r',q⟩:=hl j y v' e1 e2 e3;refine⟨u',r',?_⟩;rcases q with⟨k,e⟩|⟨k,c,e,z⟩
    ·refine .inl ⟨k,?_⟩;have:y≠x:=λe=>hj (ZA3 hN e1 (e▸hi))
     simp[this,e]
    ·exact .inr ⟨k,c,e,z.sameBut hs (cne y c e)⟩
  ·obtain⟨w',z⟩:=I.cell y c e;exact⟨w',z.sameBut hs (cne y c e)⟩
  ·obtain⟨e,n,ne,nf,d⟩:=I.pin p hp;exact⟨(hs.2 p.1 ne).trans e,n,ne,nf,d⟩
 ·have hfn:X.fn x=vD:=by
   rcases hf with z|z
   ·exact z
   ·rw[z]at hk;cases hk
  obtain⟨c,hc⟩:=I.ok.has x (.inl hk);obtain⟨w',z⟩:=I.cell x c hc;refine wpAny_storeName_cell I.ok.kind hk hc z (λh' hc' hs=>?_);obtain⟨oc,hoc,hocd⟩:=id z;refine h {s with heap:=h'} ⟨I.ok,I.os,I.bare,⟨λb o e n hb hx=>?_,λb o e n hb hx=>?_,I.base.free,λb o e hx=>?_,I.base.tups,I.base.frzs,I.base.tbls⟩,⟨m,hn.sameBut hs (Ne.symm (cne x c hc)),λj y v' e1 e2 e3=>?_⟩,λy c' e=>?_,I.free,I.Gd,λp hp=>?_,tracked ⟨oc,hoc,I.Gd x c hc⟩ hs,by simpa using I.len⟩ ⟨c,hs,.inr hc⟩
  ·exact(hs.2 b (zE (zV (zY e) (I.ok.cab x c hfn hc)))).trans (I.base.keep b o e n hb hx)
  ·obtain⟨sl,e1⟩:=I.base.slot b o e n hb hx;exact⟨sl,(hs.2 b (zE (zV (zY e) (I.ok.cab x c hfn hc)))).trans e1⟩
  ·obtain⟨o',e1⟩:=I.base.there b o e hx;exact⟨o',(hs.2 b (zE (zV (zY e) (I.ok.cab x c hfn hc)))).trans e1⟩
  ·by_cases hj:j=i
   ·subst hj;rw[hi]at e1;cases e1;rw[qB hiσ]at e2;cases e2;exact⟨u,r,.inr ⟨.inl hk,c,hc,hc'⟩⟩
   ·rw[q9 (Ne.symm hj)]at e2;obtain⟨u',r',q⟩:=hl j y v' e1 e2 e3;refine⟨u',r',?_⟩;rcases q with q|⟨k,c',e,z'⟩
    ·exact .inl q
    ·refine .inr ⟨k,c',e,z'.sameBut hs ?_⟩;rintro rfl;exact hj (ZA3 hN e1 (I.ok.inj _ _ _ e hc▸hi))
  ·by_cases hcc:c'=c
   ·subst hcc;exact⟨_,hc'⟩
   ·obtain⟨w2,z2⟩:=I.cell y c' e;exact⟨w2,z2.sameBut hs hcc⟩
  ·obtain⟨e,n,ne,nf,d⟩:=I.pin p hp;refine⟨(hs.2 p.1 ?_).trans e,n,ne,nf,d⟩;intro q;rw[q,hoc]at e;have q':oc=p.2:=Option.some.inj e;exact d w' (by rw[<-q'];exact hocd)
theorem Tz{M:Model}{A:jU}{E:xY->xW->Prop}(I:Inv X vA σ H s)(hN:X.N.Nodup)(hi:X.N[i]?=vB x)(hx:Loc X.env.scope x)(r:RelV v u)
  (h:∀s',Inv X vA (σ.set i (vB v)) H s'->Q () s') (hf:X.fn x=vD∨X.env.scope.names.lookup x=vB .local:=by first|exact .inl rfl|exact .inr rfl|assumption):vX M A (storeName X.env x u) Q E s:=
 ZFl I hN hi hx r (λs' I' _=>h s' I') hf
theorem Inv.call'{s':xW}(I:Inv X vA σ H s)(ho:s'.os=s.os)(u:Un (frs X.stack) ch H H' s.heap s'.heap)(hok:HOk X.prog X.w H' s'.heap)(hg:AllBare s'.gens)
  (hch:∀b∈ch,(b∈X.ex∨X.s₀.heap.objs.size<=b)/\b≠X.env.locals/\(∀x c,X.env.cells.lookup x=vB c->c≠b)/\∀p∈X.pn++vA,p.1≠b):Inv X vA σ H' s':=by
 obtain⟨h',g',d',t',o'⟩:=s';have e:o'=s.os:=ho;subst e;exact I.call (g':=g') (t':=t') (d':=d') u hok hg hch
end
noncomputable abbrev XK:=xY->Option jT->Hp->Prop
noncomputable abbrev St:=List (Option V)
variable{σ:St}
noncomputable abbrev VK:=V->Hp->Prop
noncomputable abbrev TE:=St->Hp->VK->Prop
variable{te:TE}
noncomputable abbrev TT:=St->Hp->(Bool->Hp->Prop)->Prop
noncomputable abbrev TA:=St->Hp->(List V->Hp->Prop)->Prop
structure Ends where
 nx:St->Hp->Prop
 rt:VK
 bk:St->Hp->Prop:=λ_ _=>False
 ct:St->Hp->Prop:=λ_ _=>False
noncomputable abbrev TS:=Ends->St->Hp->Prop
def EP(X:Cx)(vA:List (jT×Obj))(σ:St)(Q:VK)(u:xY)(s':xW):Prop:=∃v H',Inv X vA σ H' s'/\RelV v u/\Q v H'
def TP(X:Cx)(vA:List (jT×Obj))(σ:St)(Q:Bool->Hp->Prop)(b:Bool)(s':xW):Prop:=∃H',Inv X vA σ H' s'/\Q b H'
def AP(X:Cx)(vA:List (jT×Obj))(σ:St)(Q:List V->Hp->Prop)(us:List xY)(s':xW):Prop:=∃vs H',Inv X vA σ H' s'/\Vals vs us/\Q vs H'
def SP(X:Cx)(vA:List (jT×Obj))(D:Ends)(f:Flow)(s':xW):Prop:=
 match f with
 |.next=>∃σ' H',Inv X vA σ' H' s'/\D.nx σ' H'
 |.brk=>∃σ' H',Inv X vA σ' H' s'/\D.bk σ' H'
 |.cont=>∃σ' H',Inv X vA σ' H' s'/\D.ct σ' H'
 |.ret u=>∃v σ' H',Inv X vA σ' H' s'/\RelV v u/\D.rt v H'
def PE(X:Cx)(e:xQ)(t:TE):Prop:=
 ∀(vA:List (jT×Obj))(s:xW)(σ:St)(H:Hp)(Q:VK),Inv X vA σ H s->t σ H Q->vX (xS X.prog X.w) X.A (eval e X.env) (EP X vA σ Q) X.xe s
def PT(X:Cx)(e:xQ)(t:TT):Prop:=
 ∀(vA:List (jT×Obj))(s:xW)(σ:St)(H:Hp)(Q:Bool->Hp->Prop),Inv X vA σ H s->t σ H Q->vX (xS X.prog X.w) X.A (isTrue e X.env (eval e X.env)) (TP X vA σ Q) X.xe s
def PW(X:Cx)(e:xQ)(t:TT):Prop:=
 ∀(whole:Sem xY)(vA:List (jT×Obj))(s:xW)(σ:St)(H:Hp)(Q:Bool->Hp->Prop),Inv X vA σ H s->t σ H Q->vX (xS X.prog X.w) X.A (isTrue e X.env whole) (TP X vA σ Q) X.xe s
theorem PW.pt{t:TT}(h:PW X e t):PT X e t:=h _
def PA(X:Cx)(es:List xQ)(t:TA):Prop:=
 ∀(pos:Pos)(vA:List (jT×Obj))(s:xW)(σ:St)(H:Hp)(Q:List V->Hp->Prop),Inv X vA σ H s->t σ H Q->vX (xS X.prog X.w) X.A (spliced (xk pos (vZ es X.env))) (AP X vA σ Q) X.xe s
def PS(X:Cx)(st:xK)(t:TS):Prop:=
 ∀(vA:List (jT×Obj))(s:xW)(σ:St)(H:Hp)(D:Ends),Inv X vA σ H s->t D σ H->vX (xS X.prog X.w) X.A (exec st X.env) (SP X vA D) X.xe s
def PSs(X:Cx)(st:List xK)(t:TS):Prop:=
 ∀(vA:List (jT×Obj))(s:xW)(σ:St)(H:Hp)(D:Ends),Inv X vA σ H s->t D σ H->vX (xS X.prog X.w) X.A (execs st X.env) (SP X vA D) X.xe s
theorem thn{α:Type}{t:Sem α}{Q Q':α->xW->Prop}{M:Model}(h:vX M A t Q E s)(hQ:∀a s,Q a s->Q' a s):vX M A t Q' E s:=vj h hQ λ_ _ x=>x
section
variable{X:Cx}
noncomputable def Lr(i:Nat):TE:=λσ H Q=>∃v,σ[i]?=vB (vB v)/\Q v H
noncomputable def tC(v:V):TE:=λ_ H Q=>Q v H
theorem Ol{pos:Pos}(hN:X.N[i]?=vB x)(hv:Vis X.env.scope x)(hd:(x==("__debug__":Str))=vE:=by decide)(hcd:(x==("__classdict__":Str))=vE:=by decide):PE X (.Name x pos) (Lr i):=by
 intro vA s σ H Q I h;obtain⟨v,e,h⟩:=h;obtain⟨m,hn,hl⟩:=I.loc;obtain⟨u,r,l⟩:=hl i x v hN e hv;have fin:EP X vA σ Q u s:=⟨v,H,I,r,h⟩;rcases l with⟨hk,hm⟩|⟨hk,c,hc,hcell⟩
 ·exact wpAny_Name (wpAny_loadName_local I.ok.kind hk hn hm fin) hd
 ·rcases hk with hk|hk
  ·exact wpAny_Name (wpAny_loadName_cell I.ok.kind hk hc hcell fin) hd
  ·exact wpAny_Name (wpAny_loadName_free I.ok.kind hk hc hcell fin hcd) hd
theorem ZLs{i j pos}:PE X (.Constant (.int i) j pos) (tC (.int i)):=λ_ _ _ H _ I h=>wpAny_Constant_int ⟨.int i,H,I.tok _,⟨_,rfl⟩,h⟩
theorem ZJF{b j pos}:PE X (.Constant (.bool b) j pos) (tC (.bl b)):=λ_ _ _ H _ I h=>Constant_bool ⟨.bl b,H,I,rfl,h⟩
theorem ZMG{j pos}:PE X (.Constant .none j pos) (tC .non):=λ_ _ _ H _ I h=>Constant_none ⟨.non,H,I,rfl,h⟩
theorem Vh{x j pos}:PE X (.Constant (.str x) j pos) (tC (.str x)):=λ_ _ _ H _ I h=>Calls.Constant_str ⟨.str x,H,I.tok _,⟨_,rfl⟩,h⟩
def Gl(X:Cx)(x:Str):Prop:=X.env.kindOf x=vB .globalImplicit
theorem Ld{E:xY->xW->Prop}{pos:Pos}{Q:xY->xW->Prop}(I:Inv X vA σ H s)(hg:Gl X x)(hm:X.mg x=vB u)(h:Q u s)
  (hd:(x==("__debug__":Str))=vE:=by decide):vX (xS X.prog X.w) X.A (eval (.Name x pos) X.env) Q E s:=
 Calls.Name_function_global I.ok.kind hg (Calls.loadGlobal_global (by rw[I.ok.glob];exact I.mod.glob.keeps I.bk) hm h) hd
theorem Ht{E:xY->xW->Prop}{pos:Pos}{Q:xY->xW->Prop}(I:Inv X vA σ H s)(hg:Gl X x)(hm:X.mg x=vC)(hv:xA x=vB u)(h:Q u s)
  (hn:x≠"__name__":=by decide) (hd:(x==("__debug__":Str))=vE:=by decide):vX (xS X.prog X.w) X.A (eval (.Name x pos) X.env) Q E s:=by
 obtain⟨mb,h1,h2⟩:=I.mod.blt;exact Calls.Name_function_global I.ok.kind hg (Calls.loadGlobal_builtin (by rw[I.ok.glob];exact I.mod.glob.keeps I.bk) hm (by rw[I.ok.blt];exact h1.keeps I.bk) ((h2 x hn).trans hv) h) hd
theorem ZNw{pos:Pos}(hg:Gl X x)(hm:X.mg x=vB u)(r:RelV v u)(hd:(x==("__debug__":Str))=vE:=by decide):PE X (.Name x pos) (tC v):=
 λ_ _ _ H _ I h=>Ld I hg hm ⟨v,H,I,r,h⟩ hd
theorem ZHD{pos:Pos}(hg:Gl X x)(hm:X.mg x=vC)(hv:xA x=vB u)(r:RelV v u)(hn:x≠"__name__":=by decide)(hd:(x==("__debug__":Str))=vE:=by decide):PE X (.Name x pos) (tC v):=
 λ_ _ _ H _ I h=>Ht I hg hm hv ⟨v,H,I,r,h⟩ hn hd
variable{a b:xQ}{ta tb:TE}{pos:Pos}
noncomputable def tB(t:TE):TT:=λσ H Q=>t σ H λx H1=>∃c,x=.bl c/\Q c H1
theorem ZOI{t:TE}(h:PE X e t)(he:∀whole,isTrue e X.env whole=(do let v<-whole;standAt e.pos;holding [v] (truthy v)):=by intro _;rfl):PT X e (tB t):=by intro vA s σ H Q I hw;refine isTrue_plain (thn (h vA s σ H _ I hw) λv s1 ⟨x,H1,I1,r1,q1⟩=>?_) (he _);obtain⟨d,rfl,q⟩:=q1;cases r1;exact v6 ⟨H1,I1,q⟩
variable{tA tB':TT}{rest:List xQ}
noncomputable def tOr(t u:TT):TT:=λσ H Q=>t σ H λc H1=>if c=vD then Q vD H1 else u σ H1 Q
noncomputable def tNot(t:TT):TT:=λσ H Q=>t σ H λc H1=>Q (!c) H1
theorem pw_or1(ha:PT X a tA):PW X (.BoolOp .Or [a] pos) tA:=by
 intro wh vA s σ H Q I h;refine isTrue_or (thn (ha vA s σ H Q I h) λc s1 e=>?_);cases c with
 |false=>exact isTrue_or_nil e
 |true=>exact e
theorem pw_or(ha:PT X a tA)(hb:PW X (.BoolOp .Or (b::rest) pos) tB'):PW X (.BoolOp .Or (a::b::rest) pos) (tOr tA tB'):=by
 intro wh vA s σ H Q I h;refine isTrue_or (thn (ha vA s σ H _ I h) λc s1 ⟨H1,I1,q1⟩=>?_);cases c with
 |true=>exact⟨H1,I1,q1⟩
 |false=>exact hb wh vA s1 σ H1 Q I1 q1
theorem ZOv(ha:PT X a tA):PT X (.UnaryOp .Not a pos) (tNot tA):=by intro vA s σ H Q I h;exact isTrue_not (ha vA s σ H (λc H1=>Q (!c) H1) I h)
noncomputable def ZIp(ta tb:TE):TE:=λσ H Q=>ta σ H λx H1=>∃c,x=.bl c/\if c=vD then tb σ H1 Q else Q (.bl vE) H1
noncomputable def tOrV(ta tb:TE):TE:=λσ H Q=>ta σ H λx H1=>∃c,x=.bl c/\if c=vD then Q (.bl vD) H1 else tb σ H1 Q
noncomputable def ZGd(ta:TE):TE:=λσ H Q=>ta σ H λx H1=>∃c,x=.bl c/\Q (.bl (!c)) H1
theorem ZMi{op}{t:TE}(h:PE X a t):PE X (.BoolOp op [a] pos) t:=λvA s σ H Q I hw=>BoolOp_one (h vA s σ H Q I hw)
theorem ZH1(ha:PE X a ta)(hb:PE X (.BoolOp .And (b::rest) pos) tb):PE X (.BoolOp .And (a::b::rest) pos) (ZIp ta tb):=by
 intro vA s σ H Q I h;refine BoolOp_and (thn (ha vA s σ H _ I h) λv s1 ⟨x,H1,I1,r1,q1⟩=>?_);obtain⟨c,rfl,q1⟩:=q1;cases r1;refine v6 ?_;cases c with
 |true=>exact hb vA s1 σ H1 Q I1 q1
 |false=>exact⟨.bl vE,H1,I1,rfl,q1⟩
theorem ZOR(ha:PE X a ta)(hb:PE X (.BoolOp .Or (b::rest) pos) tb):PE X (.BoolOp .Or (a::b::rest) pos) (tOrV ta tb):=by
 intro vA s σ H Q I h;refine BoolOp_or (thn (ha vA s σ H _ I h) λv s1 ⟨x,H1,I1,r1,q1⟩=>?_);obtain⟨c,rfl,q1⟩:=q1;cases r1;refine v6 ?_;cases c with
 |false=>exact hb vA s1 σ H1 Q I1 q1
 |true=>exact⟨.bl vD,H1,I1,rfl,q1⟩
theorem ZI5(ha:PE X a ta):PE X (.UnaryOp .Not a pos) (ZGd ta):=by intro vA s σ H Q I h;refine UnaryOp_ (thn (ha vA s σ H _ I h) λv s1 ⟨x,H1,I1,r1,q1⟩=>?_);obtain⟨c,rfl,q1⟩:=q1;cases r1;exact not_of (v6 ⟨.bl (!c),H1,I1,rfl,q1⟩)
noncomputable def tIf(t:TT)(ta tb:TE):TE:=λσ H Q=>t σ H λc H1=>if c=vD then ta σ H1 Q else tb σ H1 Q
theorem ZKU(hc:PT X c tA)(ha:PE X a ta)(hb:PE X b tb):PE X (.IfExp c a b pos) (tIf tA ta tb):=by
 intro vA s σ H Q I h;refine wpAny_IfExp (thn (hc vA s σ H _ I h) λd s1 ⟨H1,I1,q1⟩=>?_);cases d with
 |true=>exact ha vA s1 σ H1 Q I1 q1
 |false=>exact hb vA s1 σ H1 Q I1 q1
end
def SqL(K:PySem.W.Frag)(H:Hp)(a:jT)(xs:List V):Prop:=
 Rd H a (.lst xs)∨
  ∃(o:Obj)(its:Array xY)(n:Nat),K.lookup a=vB o/\o.cls=.type "list"/\o.dict=vC/\o.data=.seq its n/\its.size<=sizeLine/\Vals xs its.toList
def SqT(K:PySem.W.Frag)(H:Hp)(a:jT)(xs:List V):Prop:=
 Rd H a (.tup xs)∨
  ∃(o:Obj)(its:Array xY)(n:Nat),K.lookup a=vB o/\o.cls=.type "tuple"/\o.data=.seq its n/\its.size<=sizeLine/\Vals xs its.toList
noncomputable def absV:xY->Option V
 |.none=>vB .non
 |.bool b=>vB (.bl b)
 |.int i _=>vB (.int i)
 |.str x _=>vB (.str x)
 |.bytes b _=>vB (.byt b)
 |.float b _=>vB (.flt b)
 |.ref a=>vB (.ref a)
 |.type n=>vB (.ty n)
 |_=>vC
theorem RelV.abs{x:V}(r:RelV x u):absV u=vB x:=by
 cases x with
 |non=>cases r;rfl
 |bl _=>cases r;rfl
 |int _=>obtain⟨t,rfl⟩:=r;rfl
 |str _=>obtain⟨t,rfl⟩:=r;rfl
 |byt _=>obtain⟨t,rfl⟩:=r;rfl
 |flt _=>obtain⟨t,rfl⟩:=r;rfl
 |ref _=>cases r;rfl
 |ty _=>cases r;rfl
theorem RelV.inj{x:V}(r:RelV x u)(q:RelV y u):x=y:=Option.some.inj (r.abs.symm.trans q.abs)
theorem Vals.inj:∀{xs ys:List V}{us:List xY},Vals xs us->Vals ys us->xs=ys
 |_,_,_,.nil,.nil=>rfl
 |_,_,_,.cons r t,.cons r' t'=>by rw[r.inj r',Vals.inj t t']
section
variable{X:Cx}{vA:List (jT×Obj)}{σ:St}{H:Hp}{s:xW}{a:jT}{xs ys:List V}
theorem SqL.of(h:H a=vB (.lst xs)):SqL K H a xs:=.inl (.inl h)
theorem SqT.of(h:H a=vB (.tup xs)):SqT K H a xs:=.inl (.inl h)
theorem Inv.list(I:Inv X vA σ H s)(h:SqL X.K H a xs):∃its:List xY,Vals xs its/\PlainL s.heap a its.toArray/\xs.length<=sizeLine:=by
 rcases h with h|⟨o,its,n,hk,hc,hd,hs,hz,r⟩
 ·obtain⟨z,its,n,r,e⟩:=h.ok I.hok;exact⟨its,r,⟨_,n,e,rfl,rfl,rfl⟩,z⟩
 ·refine⟨its.toList,r,⟨o,n,I.kIn a o hk,hc,hd,by simpa using hs⟩,?_⟩;have e:=r.length;simp only[qD]at e;lia
theorem Inv.tuple(I:Inv X vA σ H s)(h:SqT X.K H a xs):∃its:List xY,Vals xs its/\IsTup s.heap a its.toArray/\xs.length<=sizeLine:=by
 rcases h with h|⟨o,its,n,hk,hc,hs,hz,r⟩
 ·obtain⟨z,its,r,p⟩:=h.ok I.hok;exact⟨its,r,p,z⟩
 ·refine⟨its.toList,r,⟨o,I.kIn a o hk,hc,n,by simpa using hs⟩,?_⟩;have e:=r.length;simp only[qD]at e;lia
theorem Inv.Zq(I:Inv X vA σ H s)(h:SqL X.K H a xs)(h':SqL X.K H a ys):xs=ys:=by
 obtain⟨its,r,⟨o,n,e,_,_,d⟩,_⟩:=I.list h;obtain⟨its',r',⟨o',n',e',_,_,d'⟩,_⟩:=I.list h';rw[e]at e';cases e';rw[d]at d';injection d' with d1 _
 have:its=its':=by simpa using congrArg Array.toList d1
 subst this;exact r.inj r'
theorem Inv.Xx(I:Inv X vA σ H s)(h:SqT X.K H a xs)(h':SqT X.K H a ys):xs=ys:=by
 obtain⟨its,r,⟨o,e,_,n,d⟩,_⟩:=I.tuple h;obtain⟨its',r',⟨o',e',_,n',d'⟩,_⟩:=I.tuple h';rw[e]at e';cases e';rw[d]at d';injection d' with d1 _
 have:its=its':=by simpa using congrArg Array.toList d1
 subst this;exact r.inj r'
end
noncomputable abbrev Cx.wish(X:Cx)(E:xY->xW->Prop):Cx:={X with xe:=E}
noncomputable abbrev Cx.nox(X:Cx):Cx:=X.wish λ_ _=>False
theorem Cx.Ok.wish(ok:X.Ok)(E:xY->xW->Prop):(X.wish E).Ok:=
 ⟨ok.mod,ok.kind,ok.glob,ok.blt,ok.above,ok.inj,ok.has,ok.cab,ok.hd,ok.frames,ok.stk,ok.exf,ok.bs,ok.bsz,ok.noex,ok.exfs,ok.funs,ok.frf⟩
theorem Cx.Ok.unwish(ok:(X.wish E).Ok):X.Ok:=
 ⟨ok.mod,ok.kind,ok.glob,ok.blt,ok.above,ok.inj,ok.has,ok.cab,ok.hd,ok.frames,ok.stk,ok.exf,ok.bs,ok.bsz,ok.noex,ok.exfs,ok.funs,ok.frf⟩
section
variable{X:Cx}{vA:List (jT×Obj)}{σ:St}{H:Hp}{s:xW}{E:xY->xW->Prop}
theorem Inv.wish(I:Inv X vA σ H s)(E:xY->xW->Prop):Inv (X.wish E) vA σ H s:=⟨I.ok.wish E,I.os,I.bare,I.base,I.loc,I.cell,I.free,I.Gd,I.pin,I.hok,I.len⟩
theorem Inv.unwish(I:Inv (X.wish E) vA σ H s):Inv X vA σ H s:=⟨I.ok.unwish,I.os,I.bare,I.base,I.loc,I.cell,I.free,I.Gd,I.pin,I.hok,I.len⟩
theorem SP.unwish{D:Ends}{f:Flow}{s':xW}(h:SP (X.wish E) vA D f s'):SP X vA D f s':=by
 cases f with
 |next=>obtain⟨σ',H',I,q⟩:=h;exact⟨σ',H',I.unwish,q⟩
 |brk=>obtain⟨σ',H',I,q⟩:=h;exact⟨σ',H',I.unwish,q⟩
 |cont=>obtain⟨σ',H',I,q⟩:=h;exact⟨σ',H',I.unwish,q⟩
 |ret u=>obtain⟨v,σ',H',I,r,q⟩:=h;exact⟨v,σ',H',I.unwish,r,q⟩
theorem PSs.nox{st:List xK}{t:TS}(h:PSs X.nox st t):PSs X st t:=λvA s σ H D I hw=>
 vj (h vA s σ H D (I.wish _) hw) (λ_ _ q=>q.unwish) λ_ _ z=>False.elim z
end
section
variable{X:Cx}{st:xK}{rest:List xK}{t u:TS}{e:xQ}{te:TE}{pos:Pos}
noncomputable def ZJw:TS:=λD σ H=>D.nx σ H
noncomputable def tSeq(t u:TS):TS:=λD σ H=>t {D with nx:=u D} σ H
theorem ZH9:PSs X [] ZJw:=λ_ _ σ H _ I h=>wpAny_execs_nil ⟨σ,H,I,h⟩
theorem ZGR(h1:PS X st t)(h2:PSs X rest u):PSs X (st::rest) (tSeq t u):=by
 intro vA s σ H D I h;refine wpAny_execs_cons (thn (h1 vA s σ H {D with nx:=u D} I h) λf s1 q=>?_);cases f with
 |next=>
  obtain⟨σ',H',I',q⟩:=q;exact h2 vA s1 σ' H' D I' q
 |ret v=>exact q
 |brk=>exact q
 |cont=>exact q
theorem ZCI(h1:PS X st t):PSs X [st] t:=by
 intro vA s σ H D I h;refine wpAny_execs_cons (thn (h1 vA s σ H D I h) λf s1 q=>?_);cases f with
 |next=>exact wpAny_execs_nil q
 |ret v=>exact q
 |brk=>exact q
 |cont=>exact q
theorem Inv.quiet(I:Inv X vA σ H s):interactive X.env=vE:=by simp[interactive,I.ok.kind]
noncomputable def ZND(te:TE):TS:=λD σ H=>te σ H λ_ H1=>D.nx σ H1
theorem ZE7(he:PE X e te)(hs:swapsWith e vC pos.line X.env=pure vE:=by rfl):PS X (.Expr e pos) (ZND te):=by intro vA s σ H D I h;exact wpAny_Expr_any (thn (he vA s σ H _ I h) λv s1 ⟨x,H1,I1,r1,q1⟩=>⟨σ,H1,I1,q1⟩) I.quiet hs
noncomputable def tRet(te:TE):TS:=λD σ H=>te σ H D.rt
theorem ZOu(he:PE X e te):PS X (.Return (vB e) pos) (tRet te):=by intro vA s σ H D I h;exact wpAny_Return_some (thn (he vA s σ H _ I h) λv s1 ⟨x,H1,I1,r1,q1⟩=>⟨x,σ,H1,I1,r1,q1⟩)
noncomputable def tIfS(c:TT)(t u:TS):TS:=λD σ H=>c σ H λb H1=>if b=vD then t D σ H1 else u D σ H1
theorem ZII{a b:List xK}{tc:TT}(hc:PT X c tc)(ha:PSs X a t)(hb:PSs X b u):PS X (.If c a b pos) (tIfS tc t u):=by
 intro vA s σ H D I h;refine wpAny_If (thn (hc vA s σ H _ I h) λd s1 ⟨H1,I1,q1⟩=>?_);cases d with
 |true=>exact ha vA s1 σ H1 D I1 q1
 |false=>exact hb vA s1 σ H1 D I1 q1
end
noncomputable abbrev TG:=V->St->Hp->(St->Hp->Prop)->Prop
noncomputable abbrev TGs:=List V->St->Hp->(St->Hp->Prop)->Prop
def PG(X:Cx)(target:xQ)(t:TG):Prop:=
 ∀(vA:List (jT×Obj))(s:xW)(σ:St)(H:Hp)(v:V)(u:xY)(Q:St->Hp->Prop),Inv X vA σ H s->RelV v u->t v σ H Q->
  vX (xS X.prog X.w) X.A (assign target X.env u) (λ_ s'=>∃σ' H',Inv X vA σ' H' s'/\Q σ' H') X.xe s
def PGs(X:Cx)(ts:List xQ)(t:TGs):Prop:=
 ∀(vA:List (jT×Obj))(s:xW)(σ:St)(H:Hp)(vs:List V)(us:List xY)(Q:St->Hp->Prop),Inv X vA σ H s->Vals vs us->t vs σ H Q->
  vX (xS X.prog X.w) X.A (assignInOrder ((xz ts X.env).map (·.2)) us) (λ_ s'=>∃σ' H',Inv X vA σ' H' s'/\Q σ' H') X.xe s
noncomputable abbrev TSet:=V->V->V->Hp->(Hp->Prop)->Prop
def PSet(X:Cx)(t:TSet):Prop:=
 ∀(vA:List (jT×Obj))(s:xW)(σ:St)(H:Hp)(o i v:V)(ov iv u:xY)(Q:Hp->Prop),Inv X vA σ H s->RelV o ov->RelV i iv->RelV v u->t o i v H Q->
  vX (xS X.prog X.w) X.A (setItem ov iv u) (λ_ s'=>∃H',Inv X vA σ H' s'/\Q H') X.xe s
noncomputable abbrev TIp:=V->V->Hp->VK->Prop
def PIp(X:Cx)(op:Operator)(t:TIp):Prop:=
 ∀(vA:List (jT×Obj))(s:xW)(σ:St)(H:Hp)(x y:V)(v u:xY)(Q:VK),Inv X vA σ H s->RelV x v->RelV y u->t x y H Q->
  vX (xS X.prog X.w) X.A (inplaceOp op v u) (EP X vA σ Q) X.xe s
section
variable{X:Cx}{pos:Pos}
noncomputable def ZFv(i:Nat):TG:=λv σ H Q=>Q (σ.set i (vB v)) H
theorem ZLn(hN:X.N.Nodup)(hi:X.N[i]?=vB x)(hx:Loc X.env.scope x)(hf:X.fn x=vD∨X.env.scope.names.lookup x=vB .local:=by first|exact .inl rfl|exact .inr rfl|assumption):PG X (.Name x pos) (ZFv i):=by intro vA s σ H v u Q I r h;exact wpAny_assign_Name (Tz I hN hi hx r (λs' I'=>⟨_,H,I',h⟩) hf)
noncomputable def gNil:TGs:=λvs σ H Q=>vs=[]/\Q σ H
noncomputable def ZJt(t:TG)(u:TGs):TGs:=λvs σ H Q=>∃v r,vs=v::r/\t v σ H λσ' H'=>u r σ' H' Q
theorem ZJi:PGs X [] gNil:=by intro vA s σ H vs us Q I r h;obtain⟨e,h⟩:=h;subst e;cases r;exact assignInOrder_nil ⟨σ,H,I,h⟩
theorem ZLm{es:List xQ}{t:TG}{u:TGs}(h1:PG X e t)(h2:PGs X es u)
  (hs:(xz (e::es) X.env).map (·.2)=assign e X.env::(xz es X.env).map (·.2):=by rfl):PGs X (e::es) (ZJt t u):=by
 intro vA s σ H vs us Q I r h;obtain⟨v,vr,e1,h⟩:=h;subst e1;cases r with
 |cons r rr=>
  rw[hs];refine assignInOrder_cons (thn (h1 vA s σ H _ _ _ I r h) λ_ s1 ⟨σ1,H1,I1,q1⟩=>?_);exact h2 vA s1 σ1 H1 _ _ Q I1 rr q1
noncomputable def gTup(K:PySem.W.Frag)(n:Nat)(t:TGs):TG:=λv σ H Q=>∃a xs,v=.ref a/\SqT K H a xs/\xs.length=n/\t xs σ H Q
theorem ZHj{es:List xQ}{k:Nat}{t:TGs}{n:Nat}(hc:X.calm=vD)(h:PGs X es t)
  (hn:(xz es X.env).length=n:=by rfl) (hst:(xz es X.env).findIdx? (·.1)=vC:=by rfl):PG X (.Tuple es k pos) (gTup X.K n t):=by
 intro vA s σ H v u Q I r hw;obtain⟨a,xs,e1,hq,hl,hw⟩:=hw;subst e1;cases r;obtain⟨its,rv,ht,hz⟩:=I.tuple hq;refine assign_Tuple_tuple (I.ok.hd hc) ht (by simp[hn,<-hl,rv.length]) hst λh' hx=>?_
 have I1:Inv X vA σ H {s with heap:=h'}:=I.kept (t':=s.toks) λb o e=>hx b o (zE (zY e)) e
 exact h vA _ σ H xs _ Q I1 (by simpa using rv) hw
noncomputable def gSub(to ti:TE)(t:TSet):TG:=λv σ H Q=>to σ H λo H1=>ti σ H1 λi H2=>t o i v H2 λH3=>Q σ H3
theorem ZJy{o i:xQ}{to ti:TE}{t:TSet}(ho:PE X o to)(hi:PE X i ti)(hs:PSet X t)
  (ha:∀v,assign (.Subscript o i pos) X.env v=(do
   let ov<-holding [v] (eval o X.env);let iv<-holding [v,ov] (eval i X.env)
   standAt pos
   holding [v,ov,iv] (setItem ov iv v)
   release [v,ov,iv] []):=by intro _;rfl):PG X (.Subscript o i pos) (gSub to ti t):=by
 intro vA s σ H v u Q I r h;rw[ha];refine vW (vz (thn (ho vA s σ H _ I h) λov s1 ⟨x,H1,I1,r1,q1⟩=>?_));refine vW (vz (thn (hi vA s1 σ H1 _ I1 q1) λiv s2 ⟨y,H2,I2,r2,q2⟩=>?_));refine vW (wpAny_standAt (vW (vz (thn (hs vA s2 σ H2 x y v ov iv u _ I2 r1 r2 r q2) λ_ s3 ⟨H3,I3,q3⟩=>?_))));exact wpAny_release ⟨σ,H3,I3,q3⟩
noncomputable def ZBd(te:TE)(g:TG):TS:=λD σ H=>te σ H λx H1=>g x σ H1 D.nx
theorem ZHp{g:TG}(he:PE X e te)(hg:PG X tg g)(hs:swapsWithSole [tg] e pos.line X.env=pure vE:=by rfl)(hw:swappedStores [tg] e X.env=pure vC:=by rfl)
  (h1:(xz [tg] X.env).map (·.2)=[assign tg X.env]:=by rfl):PS X (.Assign [tg] e pos) (ZBd te g):=by
 intro vA s σ H D I h;refine wpAny_Assign_stores (thn (he vA s σ H _ I h) λv s1 ⟨x,H1,I1,r1,q1⟩=>?_) hs hw;rw[h1];exact thn (hg vA s1 σ H1 x v _ I1 r1 q1) λ_ s2 q=>q
theorem ZLj{pos':Pos}(hN:X.N.Nodup)(hi:X.N[i]?=vB x)(hx:Loc X.env.scope x)(he:PE X e te)(hs:swapsWith e (vB (.Name x pos')) pos.line X.env=pure vE:=by rfl)(hf:X.fn x=vD∨X.env.scope.names.lookup x=vB .local:=by first|exact .inl rfl|exact .inr rfl|assumption):
  PS X (.Assign [.Name x pos'] e pos) (ZBd te (ZFv i)):=by
 intro vA s σ H D I h;refine wpAny_Assign_Name (thn (he vA s σ H _ I h) λv s1 ⟨y,H1,I1,r1,q1⟩=>?_) hs;exact Tz I1 hN hi hx r1 (λs2 I2=>⟨_,H1,I2,q1⟩) hf
noncomputable def tAug(i:Nat)(te:TE)(ti:TIp):TS:=λD σ H=>∃x,σ[i]?=vB (vB x)/\te σ H λy H1=>ti x y H1 λz H2=>D.nx (σ.set i (vB z)) H2
theorem ZLZ{op:Operator}{ti:TIp}{pos':Pos}(hN:X.N.Nodup)(hi:X.N[i]?=vB x)(hx:Loc X.env.scope x)(he:PE X e te)(ho:PIp X op ti)(hf:X.fn x=vD∨X.env.scope.names.lookup x=vB .local:=by first|exact .inl rfl|exact .inr rfl|assumption):
  PS X (.AugAssign (.Name x pos') op e pos) (tAug i te ti):=by
 intro vA s σ H D I h;obtain⟨v,e1,h⟩:=h;obtain⟨m,hn,hl⟩:=I.loc;have vis:Vis X.env.scope x:=by rcases hx with k|k;exact .inl k;exact .inr (.inl k)
 obtain⟨u,r,l⟩:=hl i x v hi e1 vis;refine wpAny_AugAssign_Name ?_
 have go:vX (xS X.prog X.w) X.A (eval e X.env) (λw s₂=>vX (xS X.prog X.w) X.A (inplaceOp op u w) (λr s₃=>vX (xS X.prog X.w) X.A (storeName X.env x r) (λ_=>SP X vA D .next) X.xe s₃) X.xe s₂) X.xe s:=by
  refine thn (he vA s σ H _ I h) λw s1 ⟨y,H1,I1,r1,q1⟩=>?_
  refine thn (ho vA s1 σ H1 v y u w _ I1 r r1 q1) λz s2 ⟨zv,H2,I2,r2,q2⟩=>?_
  exact Tz I2 hN hi hx r2 (λs3 I3=>⟨_,H2,I3,q2⟩) hf
 rcases l with⟨hk,hm⟩|⟨hk,c,hc,hcell⟩
 ·exact wpAny_loadName_local I.ok.kind hk hn hm go
 ·rcases hk with hk|hk
  ·exact wpAny_loadName_cell I.ok.kind hk hc hcell go
  ·rcases hx with k|k
   ·have:X.env.scope.names.lookup x=vB .free:=hk;rw[k]at this;cases this
   ·have:X.env.scope.names.lookup x=vB .free:=hk;rw[k]at this;cases this
noncomputable def ipI(f:Int->Int->Int):TIp:=λx y H Q=>∃i j,x=.int i/\y=.int j/\Q (.int (f i j)) H
theorem ZHL:PIp X .Add (ipI λi j=>i+j):=by intro vA s σ H x y v u Q I r1 r2 h;obtain⟨i,j,e1,e2,q⟩:=h;subst e1;subst e2;obtain⟨t,rfl⟩:=r1;obtain⟨t',rfl⟩:=r2;exact iadd_int ⟨.int _,H,I.tok _,⟨_,rfl⟩,q⟩
theorem ZGz:PIp X .Sub (ipI λi j=>i-j):=by intro vA s σ H x y v u Q I r1 r2 h;obtain⟨i,j,e1,e2,q⟩:=h;subst e1;subst e2;obtain⟨t,rfl⟩:=r1;obtain⟨t',rfl⟩:=r2;exact isub_int ⟨.int _,H,I.tok _,⟨_,rfl⟩,q⟩
end
section
variable{X:Cx}{pos:Pos}
def ZMm(c:TT)(tb:TS):TS:=λD σ H=>∃W:Nat->St->Hp->Prop,(∃m,W m σ H)/\∀m σ H,W m σ H->
 c σ H λb H1=>if b=vD then∃N:St->Hp->Prop,(∀σ' H',N σ' H'->∃m',m'<m/\W m' σ' H')/\tb {D with nx:=N,ct:=N,bk:=D.nx} σ H1 else D.nx σ H1
theorem ZLJ{tc:TT}{tb:TS}(hp:PassesOwn (xS X.prog X.w) X.A X.env X.xe)(hc:PT X c tc)(hb:PSs X body tb):PS X (.While c body [] pos) (ZMm tc tb):=by
 intro vA s σ H D I h;obtain⟨W,⟨m0,w0⟩,turn⟩:=h;refine wpAny_While (codeAny_whileLoop (λn s'=>∃σ' H',Inv X vA σ' H' s'/\W n σ' H') ?_ m0 ⟨σ,H,I,w0⟩);rintro n s1 ⟨σ1,H1,I1,w1⟩;refine vv hp (thn (hc vA s1 σ1 H1 _ I1 (turn n σ1 H1 w1)) λb s2 ⟨H2,I2,q2⟩=>?_);cases b with
 | true=>
  obtain⟨N,hN,q2⟩:=q2;rw[if_pos rfl];refine vv hp (thn (hb vA s2 σ1 H2 _ I2 q2) λf s3 q3=>?_);cases f with
  |next=>
   obtain⟨σ3,H3,I3,n3⟩:=q3;obtain⟨m',hm,w3⟩:=hN σ3 H3 n3;exact⟨m',hm,σ3,H3,I3,w3⟩
  |cont=>
   obtain⟨σ3,H3,I3,n3⟩:=q3;obtain⟨m',hm,w3⟩:=hN σ3 H3 n3;exact⟨m',hm,σ3,H3,I3,w3⟩
  |brk=>exact q3
  |ret v=>exact q3
 |false=>
  rw[if_neg z9];exact wpAny_execs_nil ⟨σ1,H2,I2,q2⟩
end
structure It where
 go:Nat->Hp->Prop
 yld:Nat->Hp->V->Hp->Prop
 stop:Nat->Hp->Prop
def FpOk(X:Cx)(vA:List (jT×Obj))(H:Hp)(b:jT):Prop:=
 H b=vC/\b≠X.env.locals/\b∉X.fs/\(b∈X.ex∨X.s₀.heap.objs.size<=b)/\(∀x c,X.env.cells.lookup x=vB c->c≠b)/\∀p∈X.pn++vA,p.1≠b
theorem Inv.Im{H':Hp}(I:Inv X vA σ H s)(hb:s.heap.objs.size<=b)(hn:H' b=vC):FpOk X vA H' b:=by
 refine⟨hn,qU (zV I.lt hb),I.nofs hb,.inr (zC I.sz hb),λx c e z=>?_,λp hp z=>?_⟩
 ·obtain⟨v,q⟩:=I.cell x c e;exact absurd (zV q.lt (by rw[z];exact hb)) (zS _)
 ·exact absurd (zV (zY (I.pin p hp).1) (by rw[z];exact hb)) (zS _)
structure Turn (P:xX) (w:xq) (K:PySem.W.Frag) (tg:xQ) (J:It) (fp:List jT) (it:jT) (tn:Nat->Heap->Prop):Prop where
 mem:it∈fp
 obj:∀i h,tn i h->∀b∈fp,∃o,h.get? b=vB o/\∀v,o.data≠ .cell v
 keep:∀i h h',tn i h->(∀b∈fp,∀o,h.get? b=vB o->h'.get? b=vB o)->tn i h'
 item:∀(X:Cx),X.prog=P->X.w=w->X.K=K->X.calm=vD->∀(i:Nat)(vA:List (jT×Obj))(s:xW)(σ:St)(H:Hp)(E:xY->xW->Prop),Inv X vA σ H s->(∀b∈fp,FpOk X vA H b)->tn i s.heap->J.go i H->
  vX (xS P w) X.A (pyNext (.ref it)) (λr s1=>∃u,r=vB u/\
   vX (xS P w) X.A (xP tg (.ref it) u) (λ_ s2=>∃x H',Inv X vA σ H' s2/\RelV x u/\J.yld i H x H'/\tn (i+1) s2.heap/\∀b∈fp,H' b=vC) E s1) E s
 done:∀(X:Cx),X.prog=P->X.w=w->X.K=K->X.calm=vD->∀(i:Nat)(vA:List (jT×Obj))(s:xW)(σ:St)(H:Hp)(E:xY->xW->Prop),Inv X vA σ H s->(∀b∈fp,FpOk X vA H b)->tn i s.heap->J.stop i H->
  vX (xS P w) X.A (pyNext (.ref it)) (λr s1=>r=vC/\Inv X vA σ H s1) E s
 self:∀(A:jU)(i:Nat)(s:xW)(Q:xY->xW->Prop)(E:xY->xW->Prop),tn i s.heap->Q (.ref it) s->vX (xS P w) A (pyIter (.ref it)) Q E s
noncomputable abbrev TI:=St->Hp->(It->Hp->Prop)->Prop
def PIE(X:Cx)(vA:List (jT×Obj))(σ:St)(tg:xQ)(R:It->Hp->Prop)(itv:xY)(s2:xW):Prop:=
 ∃(it:jT)(fp:List jT)(tn:Nat->Heap->Prop)(J:It)(H':Hp),itv=.ref it/\Inv X vA σ H' s2/\Turn X.prog X.w X.K tg J fp it tn/\tn 0 s2.heap/\(∀b∈fp,FpOk X vA H' b)/\R J H'
def PI(X:Cx)(tg iter:xQ)(wi:TI):Prop:=
 ∀(vA:List (jT×Obj))(s:xW)(σ:St)(H:Hp)(R:It->Hp->Prop),Inv X vA σ H s->wi σ H R->
  vX (xS X.prog X.w) X.A (eval iter X.env) (λv s1=>vX (xS X.prog X.w) X.A (pyIter v) (PIE X vA σ tg R) X.xe s1) X.xe s
theorem Nz{M:Model}{it:jT}{o:Obj}{n:String}{vs:Array xY}(ho:s.heap.get? it=vB o)(hc:o.cls=.type n)(hd:o.data=.fields vs)
  (hn: ["enumerate","zip","dict_itemiterator","dict_reverseitemiterator","odict_iterator","itertools.zip_longest","itertools.pairwise"].contains n=vE) (hQ:Q () s):vX M A (xP tg (.ref it) u) Q E s:=by
 unfold xP
 cases tg<;>first
  |exact v4 hQ
  | (cases u<;>first
    |exact v4 hQ
    | (
      refine vW (wpAny_load ho ?_);rw[hc,hd];show vX M A (if(["enumerate","zip","dict_itemiterator","dict_reverseitemiterator","odict_iterator","itertools.zip_longest","itertools.pairwise"].contains n&&vs[0]?==vB (xT _))=vD then _ else _) Q E s;rw[if_neg (by intro h;rw[hn,Bool.false_and]at h;cases h)];exact v4 hQ))
noncomputable def Itl(K:PySem.W.Frag)(a:jT):It:=
 ⟨λi H=>∃xs x,SqL K H a xs/\xs[i]?=vB x,λi H x H'=>H'=H/\∀xs,SqL K H a xs->xs[i]?=vB x,λi H=>∃xs,SqL K H a xs/\xs.length<=i⟩
noncomputable def Itt(K:PySem.W.Frag)(a:jT):It:=
 ⟨λi H=>∃xs x,SqT K H a xs/\xs[i]?=vB x,λi H x H'=>H'=H/\∀xs,SqT K H a xs->xs[i]?=vB x,λi H=>∃xs,SqT K H a xs/\xs.length<=i⟩
noncomputable def Itr(lo:Int)(n:Nat):It:=⟨λi _=>i<n,λi H x H'=>H'=H/\x=.int (lo+i),λi _=>n<=i⟩
theorem ZOo(a it:jT):Turn P w K tg (Itl K a) [it] it (λi h=>h.IsListIter it a i) where
 mem:=by simp
 obj:=λi h st b hb=>by
  have e:b=it:=by simpa using hb
  subst e;obtain⟨o,e,c,d⟩:=st;exact⟨o,e,λv z=>by rw[d]at z;cases z⟩
 keep:=λi h h' st k=>st.at λo e=>k it (by simp) o e
 item:=by
  intro X hP hw hK hc i vA s σ H E I hf st hg;subst hP hw hK;obtain⟨xs,x,hq,hx⟩:=hg;obtain⟨its,rv,p,hz⟩:=I.list hq;obtain⟨u,hu,ru⟩:=rv.get hx;obtain⟨f0,f1,f2,f3,f4,f5⟩:=hf it (by simp);refine wpAny_pyNext_list_item st p.isList (x:=u) (by simpa using hu) λh' st' sb=>?_
  have I1:Inv X vA σ H {s with heap:=h'}:=I.turned (t':=s.toks) (λb o hb e=>(sb.2 b hb).trans e) f0 f1 f3 f4 f5;obtain⟨o,e,c,d⟩:=id st';exact⟨u,rfl,Nz (s:={s with heap:=h'}) e c d (by decide) ⟨x,H,I1,ru,⟨rfl,λys hy=>by rw[I.Zq hy hq];exact hx⟩,st',λb hb=>(hf b hb).1⟩⟩
 done:=by intro X hP hw hK hc i vA s σ H E I hf st hg;subst hP hw hK;obtain⟨xs,hq,hx⟩:=hg;obtain⟨its,rv,p,hz⟩:=I.list hq;obtain⟨f0,f1,f2,f3,f4,f5⟩:=hf it (by simp);have hl:=rv.length;exact wpAny_pyNext_list_end (I.ok.hd hc) st p.isList (by simp;lia) λh' eb=>⟨rfl,I.turned (t':=s.toks) (λb o hb e=>eb b o hb e) f0 f1 f3 f4 f5⟩
 self:=λ_ _ _ _ _ st h=>wpAny_pyIter_listiter st h
theorem ZH4(a it:jT):Turn P w K tg (Itt K a) [it] it (λi h=>h.IsTupleIter it a i) where
 mem:=by simp
 obj:=λi h st b hb=>by
  have e:b=it:=by simpa using hb
  subst e;obtain⟨o,e,c,d⟩:=st;exact⟨o,e,λv z=>by rw[d]at z;cases z⟩
 keep:=λi h h' st k=>st.at λo e=>k it (by simp) o e
 item:=by
  intro X hP hw hK hc i vA s σ H E I hf st hg;subst hP hw hK;obtain⟨xs,x,hq,hx⟩:=hg;obtain⟨its,rv,p,hz⟩:=I.tuple hq;obtain⟨u,hu,ru⟩:=rv.get hx;obtain⟨f0,f1,f2,f3,f4,f5⟩:=hf it (by simp)
  refine wpAny_pyNext_tuple_item st (show s.heap.IsTuple a its.toArray from p) (x:=u) (by simpa using hu) λh' st' sb=>?_
  have I1:Inv X vA σ H {s with heap:=h'}:=I.turned (t':=s.toks) (λb o hb e=>(sb.2 b hb).trans e) f0 f1 f3 f4 f5;obtain⟨o,e,c,d⟩:=id st';exact⟨u,rfl,Nz (s:={s with heap:=h'}) e c d (by decide) ⟨x,H,I1,ru,⟨rfl,λys hy=>by rw[I.Xx hy hq];exact hx⟩,st',λb hb=>(hf b hb).1⟩⟩
 done:=by
  intro X hP hw hK hc i vA s σ H E I hf st hg;subst hP hw hK;obtain⟨xs,hq,hx⟩:=hg;obtain⟨its,rv,p,hz⟩:=I.tuple hq;obtain⟨f0,f1,f2,f3,f4,f5⟩:=hf it (by simp);have hl:=rv.length
  exact wpAny_pyNext_tuple_end (I.ok.hd hc) st (show s.heap.IsTuple a its.toArray from p) (by simp;lia) λh' eb=>⟨rfl,I.turned (t':=s.toks) (λb o hb e=>eb b o hb e) f0 f1 f3 f4 f5⟩
 self:=λ_ _ _ _ _ st h=>wpAny_pyIter_tupleiter st h
theorem ZN8(it:jT)(lo:Int)(n:Nat):Turn P w K tg (Itr lo n) [it] it (λi h=>IsRangeIter h it (lo+(i:Nat)*1) ((n:Int)-(i:Nat)) 1) where
 mem:=by simp
 obj:=λi h st b hb=>by
  have e:b=it:=by simpa using hb
  subst e;exact⟨_,st,λv z=>by have z':Data.fields _=Data.cell v:=z;cases z'⟩
 keep:=λi h h' st k=>k it (by simp) _ st
 item:=by
  intro X hP hw hK hc i vA s σ H E I hf st hg;subst hP hw hK;obtain⟨f0,f1,f2,f3,f4,f5⟩:=hf it (by simp);have W:=Walks.range (prog:=X.prog) (w:=X.w) (I.ok.hd hc) it lo 1 n;refine W.item i s _ _ hg st λv h' tk hv st' kk=>?_
  obtain⟨t,rfl⟩:=hv;have I1:Inv X vA σ H {s with heap:=h',toks:=tk}:=I.turned (λb o hb e=>kk b o (by simpa using hb) e) f0 f1 f3 f4 f5;refine⟨_,rfl,Nz (s:={s with heap:=h',toks:=tk}) (n:="range_iterator") st' rfl rfl (by decide) ⟨.int (lo+i),H,I1,⟨t,?_⟩,⟨rfl,rfl⟩,st',λb hb=>(hf b hb).1⟩⟩;rw[Int.mul_one]
 done:=by intro X hP hw hK hc i vA s σ H E I hf st hg;subst hP hw hK;obtain⟨f0,f1,f2,f3,f4,f5⟩:=hf it (by simp);exact wpAny_pyNext_range_end (I.ok.hd hc) st (by have:n<=i:=hg;lia) λh' eb=>⟨rfl,I.turned (t':=s.toks) (λb o hb e=>eb b o hb e) f0 f1 f3 f4 f5⟩
 self:=λ_ _ _ _ _ st h=>wpAny_pyIter_rangeiter st h
section
variable{X:Cx}{tg:xQ}
def ZNj(K:PySem.W.Frag)(tl:TE):TI:=λσ H R=>tl σ H λx H1=>∃a,x=.ref a/\(∃xs,SqL K H1 a xs)/\R (Itl K a) H1
def iTup(K:PySem.W.Frag)(tl:TE):TI:=λσ H R=>tl σ H λx H1=>∃a,x=.ref a/\(∃xs,SqT K H1 a xs)/\R (Itt K a) H1
theorem ZAB{l:xQ}{tl:TE}(hl:PE X l tl):PI X tg l (ZNj X.K tl):=by
 intro vA s σ H R I h;refine thn (hl vA s σ H _ I h) λv s1 ⟨x,H1,I1,r1,q1⟩=>?_
 obtain⟨a,e,⟨xs,hq⟩,q⟩:=q1;subst e;cases r1;obtain⟨its,rv,p,hz⟩:=I1.list hq;refine wpAny_pyIter_list p.isList ?_;refine⟨s1.heap.objs.size,[s1.heap.objs.size],_,_,H1,rfl,I1.kept (t':=s1.toks) λb o e=>zQ _ e,ZOo a _,⟨_,zy _ rfl,rfl,rfl⟩,λb hb=>?_,q⟩;have e:b=s1.heap.objs.size:=by simpa using hb
 subst e;exact I1.Im (zW _) (I1.hok.fresh (zW _))
theorem ZJe{l:xQ}{tl:TE}(hl:PE X l tl):PI X tg l (iTup X.K tl):=by
 intro vA s σ H R I h;refine thn (hl vA s σ H _ I h) λv s1 ⟨x,H1,I1,r1,q1⟩=>?_
 obtain⟨a,e,⟨xs,hq⟩,q⟩:=q1;subst e;cases r1;obtain⟨its,rv,p,hz⟩:=I1.tuple hq
 refine wpAny_pyIter_tuple (show s1.heap.IsTuple a its.toArray from p) ?_
 refine⟨s1.heap.objs.size,[s1.heap.objs.size],_,_,H1,rfl,I1.kept (t':=s1.toks) λb o e=>zQ _ e,ZH4 a _,⟨_,zy _ rfl,rfl,rfl⟩,λb hb=>?_,q⟩;have e:b=s1.heap.objs.size:=by simpa using hb
 subst e;exact I1.Im (zW _) (I1.hok.fresh (zW _))
theorem ZOZ{R:It->Hp->Prop}{lo hi:Int}{t u v:Tok}{tk:Nat}(I:Inv X vA σ H s)(h1: -(2^62)<=lo)(h2:lo<2^62)(h3: -(2^62)<=hi)(h4:hi<2^62)
  (q:R (Itr lo (hi-lo).toNat) H):vX (xS X.prog X.w) X.A (pyIter (.ref s.heap.objs.size)) (PIE X vA σ tg R) E {s with heap:=s.heap.push {cls:=.type "range",data:=.fields #[.int lo t,.int hi u,.int 1 v]},toks:=tk}:=by
 refine wpAny_pyIter_range (IsRange.new ..) (small_one h1 h2 h3 h4) ?_;have I1:Inv X vA σ H {s with heap:=s.heap.push {cls:=.type "range",data:=.fields #[.int lo t,.int hi u,.int 1 v]},toks:=tk}:=I.kept λb o e=>zQ _ e
 refine⟨(s.heap.push {cls:=.type "range",data:=.fields #[.int lo t,.int hi u,.int 1 v]}).objs.size,[(s.heap.push {cls:=.type "range",data:=.fields #[.int lo t,.int hi u,.int 1 v]}).objs.size],_,_,H,rfl,
  I1.kept (t':=tk) λb o e=>zQ _ e,ZN8 _ lo (hi-lo).toNat,?_,λb hb=>?_,q⟩
 ·have e1:lo+((0:Nat):Int)*1=lo:=by simp
  have e2:(((hi-lo).toNat:Nat):Int)-((0:Nat):Int)=Builtin.Range.rangeSize lo hi 1:=by rw[rangeSize_one];split <;> lia
  show IsRangeIter _ _ (lo+((0:Nat):Int)*1) ((((hi-lo).toNat:Nat):Int)-((0:Nat):Int)) 1;rw[e1,e2];exact zy _ rfl
 ·have e:b=(s.heap.push {cls:=.type "range",data:=.fields #[.int lo t,.int hi u,.int 1 v]}).objs.size:=by simpa using hb
  subst e;exact I1.Im (zW _) (I1.hok.fresh (zW _))
def ZHN(ta:TA):TI:=λσ H R=>ta σ H λvs H1=>∃j:Int,vs=[.int j]/\ -(2^62)<=j/\j<2^62/\R (Itr 0 j.toNat) H1
theorem ZKd{a:xQ}{ta:TA}{p pos:Pos}(hg:Gl X "range")(hm:X.mg "range"=vC)(ha:PA X [a] ta)(hs:vZ [a] X.env=[(vE,eval a X.env)]:=by rfl):PI X tg (.Call (.Name "range" p) [a] [] pos) (ZHN ta):=by
 intro vA s σ H R I h;refine Call_ (Ht I hg hm boot_range (PyProof.Rows.callWith_type1 (thn (ha pos vA s σ H _ I h) λus s1 ⟨vs,H1,I1,r1,q1⟩=>?_) hs rfl));obtain⟨j,e,q1,q2,q⟩:=q1;subst e;cases r1 with
 |cons r rr=>
  cases rr;obtain⟨t,rfl⟩:=r;exact call_range_1 (ZOZ I1 (by lia) (by lia) q1 q2 (by simpa using q))
def tFor(wi:TI)(g:TG)(tb:TS):TS:=λD σ H=>wi σ H λJ H1=>∃W:Nat->Nat->St->Hp->Prop,(∃m,W 0 m σ H1)/\∀i m σ H,W i m σ H->
 (J.stop i H/\D.nx σ H)∨(J.go i H/\∃N:St->Hp->Prop,(∀σ' H',N σ' H'->∃m',m'<m/\W (i+1) m' σ' H')/\∀x H',J.yld i H x H'->g x σ H' λσ2 H2=>tb {D with nx:=N,ct:=N,bk:=D.nx} σ2 H2)
noncomputable def Nx(fp:List jT)(h:Heap):List (jT×Obj):=fp.filterMap λb=>(h.get? b).map λo=>(b,o)
theorem Tq{o:Obj}(hb:b∈fp)(e:h.get? b=vB o):(b,o)∈Nx fp h:=j9.mpr ⟨b,hb,by rw[e];rfl⟩
theorem ZCu{p:jT×Obj}(hp:p∈Nx fp h):p.1∈fp/\h.get? p.1=vB p.2:=by
 obtain⟨b,hb,e⟩:=j9.mp hp;cases q:h.get? b with
 |none=>rw[q]at e;cases e
 |some o=>
  rw[q]at e;have e':(b,o)=p:=Option.some.inj e;subst e';exact⟨hb,q⟩
theorem Inv.pinned(I:Inv X vA σ H s)(hf:∀b∈fp,FpOk X vA H b)(ho:∀b∈fp,∃o,s.heap.get? b=vB o/\∀v,o.data≠ .cell v):Inv X (vA++Nx fp s.heap) σ H s:=
 I.Jk λp hp=>(j5.mp hp).elim (λz=>I.pin p (zR _ z)) λz=>by obtain⟨hb,e⟩:=ZCu z;obtain⟨f0,f1,f2,_⟩:=hf p.1 hb;obtain⟨o,e',d⟩:=ho p.1 hb;rw[e]at e';cases e';exact⟨e,f0,f1,f2,d⟩
theorem Inv.unpinned{pl:List (jT×Obj)}(I:Inv X (vA++pl) σ H s):Inv X vA σ H s:=I.Jk λp hp=>I.pin p (zR _ (jN _ hp))
theorem ZLM{iter:xQ}{wi:TI}{g:TG}{tb:TS}{pos:Pos}(hp:PassesOwn (xS X.prog X.w) X.A X.env X.xe)(hc:X.calm=vD)(hi:PI X tg iter wi)(hg:PG X tg g)(hb:PSs X body tb)
  (hs:∀x,foldedSetIterable iter X.env x=pure x:=by intro _;rfl):PS X (.For tg iter body [] pos) (tFor wi g tb):=by
 intro vA s σ H D I h;refine wpAny_For (thn (hi vA s σ H _ I h) λv s1 h1=>thn h1 λitv s2 h2=>?_) hs;obtain⟨it,fp,tn,J,H2,e,I2,T,st2,f2,W,⟨m0,w0⟩,turn⟩:=h2;subst e;have stat:∀{H':Hp},(∀b∈fp,H' b=vC)->∀b∈fp,FpOk X vA H' b:=λhn b hb=>⟨hn b hb,(f2 b hb).2⟩
 refine codeAny_forLoop_any (λn s'=>∃i σ' H',Inv X vA σ' H' s'/\tn i s'.heap/\(∀b∈fp,H' b=vC)/\W i n σ' H') ?_ m0 ⟨0,σ,H2,I2,st2,λb hb=>(f2 b hb).1,w0⟩;rintro n s3 ⟨i,σ3,H3,I3,st3,fr3,w3⟩;rcases turn i n σ3 H3 w3 with⟨stop,qn⟩|⟨go,N,hN,step⟩
 ·refine vv hp (thn (T.done X rfl rfl rfl hc i vA s3 σ3 H3 X.xe I3 (stat fr3) st3 stop) λr s4 ⟨hr,I4⟩=>?_);subst hr;exact wpAny_execs_nil ⟨σ3,H3,I4,qn⟩
 ·refine vv hp (thn (T.item X rfl rfl rfl hc i vA s3 σ3 H3 X.xe I3 (stat fr3) st3 go) λr s4 ⟨u,hr,h4⟩=>?_);subst hr;refine vv hp (thn h4 λ_ s5 ⟨x,H5,I5,r5,y5,st5,fr5⟩=>?_);have I5':=I5.pinned (stat fr5) (T.obj _ _ st5);refine vv hp (thn (hg _ s5 σ3 H5 x u _ I5' r5 (step x H5 y5)) λ_ s6 ⟨σ6,H6,I6,q6⟩=>?_);refine vv hp (thn (hb _ s6 σ6 H6 _ I6 q6) λf s7 q7=>?_)
  have again:∀{σ7:St}{H7:Hp},Inv X (vA++Nx fp s5.heap) σ7 H7 s7->N σ7 H7->∃m,m<n/\∃i σ' H',Inv X vA σ' H' s7/\tn i s7.heap/\(∀b∈fp,H' b=vC)/\W i m σ' H':=λ{σ7 H7}I7 n7=>by obtain⟨m',hm,w7⟩:=hN σ7 H7 n7;refine⟨m',hm,i+1,σ7,H7,I7.unpinned,T.keep _ _ _ st5 λb hb o e=>(I7.pin (b,o) (zR _ (zR _ (Tq hb e)))).1,λb hb=>?_,w7⟩;obtain⟨o,e,d⟩:=T.obj _ _ st5 b hb;exact(I7.pin (b,o) (zR _ (zR _ (Tq hb e)))).2.1
  cases f with
  |next=>obtain⟨σ7,H7,I7,n7⟩:=q7;exact again I7 n7
  |cont=>obtain⟨σ7,H7,I7,n7⟩:=q7;exact again I7 n7
  |brk=>obtain⟨σ7,H7,I7,q7⟩:=q7;exact⟨σ7,H7,I7.unpinned,q7⟩
  |ret v=>obtain⟨x7,σ7,H7,I7,r7,q7⟩:=q7;exact⟨x7,σ7,H7,I7.unpinned,r7,q7⟩
end
noncomputable abbrev R2:=V->V->Hp->VK->Prop
variable{r:R2}
def OpR(X:Cx)(f:xY->xY->Sem xY)(r:R2):Prop:=
 ∀(vA:List (jT×Obj))(s:xW)(σ:St)(H:Hp)(x y:V)(v u:xY)(Q:VK),Inv X vA σ H s->RelV x v->RelV y u->r x y H Q->
  vX (xS X.prog X.w) X.A (f v u) (EP X vA σ Q) X.xe s
def UnR(X:Cx)(f:xY->Sem xY)(r:V->Hp->VK->Prop):Prop:=
 ∀(vA:List (jT×Obj))(s:xW)(σ:St)(H:Hp)(x:V)(v:xY)(Q:VK),Inv X vA σ H s->RelV x v->r x H Q->
  vX (xS X.prog X.w) X.A (f v) (EP X vA σ Q) X.xe s
def CallR(X:Cx)(f:xY)(r:List V->Hp->VK->Prop):Prop:=
 ∀(vA:List (jT×Obj))(s:xW)(σ:St)(H:Hp)(xs:List V)(us:List xY)(Q:VK),Inv X vA σ H s->Vals xs us->r xs H Q->
  vX (xS X.prog X.w) X.A (call f us) (EP X vA σ Q) X.xe s
noncomputable def tOp(r:R2)(ta tb:TE):TE:=λσ H Q=>ta σ H λx H1=>tb σ H1 λy H2=>r x y H2 Q
noncomputable def tUn(r:V->Hp->VK->Prop)(ta:TE):TE:=λσ H Q=>ta σ H λx H1=>r x H1 Q
noncomputable def rI(C:Int->Int->Prop)(g:Int->Int->V):R2:=λx y H Q=>∃i j,x=.int i/\y=.int j/\C i j/\Q (g i j) H
noncomputable def rI0(g:Int->Int->V):R2:=λx y H Q=>∃i j,x=.int i/\y=.int j/\Q (g i j) H
def rU(g:Int->V):V->Hp->VK->Prop:=λx H Q=>∃i,x=.int i/\Q (g i) H
section
variable{X:Cx}{a b c:xQ}{ta tb tc:TE}{pos:Pos}
theorem Wq(ha:PE X a ta)(hb:PE X b tb){R:V->V->Hp->Prop}(I:Inv X vA σ H s)
  (h:ta σ H λx H1=>tb σ H1 λy H2=>R x y H2) {Q:xY->xW->Prop} {f:xY->xY->Sem xY}
  (hf:∀v u s2 x y H2,Inv X vA σ H2 s2->RelV x v->RelV y u->R x y H2->vX (xS X.prog X.w) X.A (f v u) Q X.xe s2):
  vX (xS X.prog X.w) X.A (eval a X.env) (λv s₁=>vX (xS X.prog X.w) X.A (eval b X.env) (λu s₂=>vX (xS X.prog X.w) X.A (f v u) Q X.xe s₂) X.xe s₁) X.xe s:=by
 refine thn (ha vA s σ H _ I h) λv s1 ⟨x,H1,I1,r1,q1⟩=>?_
 refine thn (hb vA s1 σ H1 _ I1 q1) λu s2 ⟨y,H2,I2,r2,q2⟩=>?_
 exact hf v u s2 x y H2 I2 r1 r2 q2
theorem ZK3{op:Operator}(ho:OpR X (x9 op) r)(ha:PE X a ta)(hb:PE X b tb):PE X (.BinOp a op b pos) (tOp r ta tb):=by intro vA s σ H Q I h;exact wpAny_BinOp (Wq ha hb I h λv u s2 x y H2 I2 rx ry q=>ho vA s2 σ H2 x y v u Q I2 rx ry q)
theorem ZI0{op:UnaryOp}{r:V->Hp->VK->Prop}(ho:UnR X (unaryOp op) r)(ha:PE X a ta):PE X (.UnaryOp op a pos) (tUn r ta):=by intro vA s σ H Q I h;exact UnaryOp_ (thn (ha vA s σ H _ I h) λv s1 ⟨x,H1,I1,r1,q1⟩=>ho vA s1 σ H1 x v Q I1 r1 q1)
theorem opI{C:Int->Int->Prop}{g:Int->Int->Int}
  (rule:∀(i j:Int)(t u:Tok)(s:xW)(Q:xY->xW->Prop)(E:xY->xW->Prop),C i j->Q (.int (g i j) s.toks) {s with toks:=s.toks+1}->vX (xS X.prog X.w) X.A (f (.int i t) (.int j u)) Q E s):
  OpR X f (rI C λi j=>.int (g i j)):=by
 intro vA s σ H x y v u Q I rx ry h;obtain⟨i,j,rfl,rfl,hc,q⟩:=h;obtain⟨t,rfl⟩:=rx;obtain⟨t',rfl⟩:=ry;exact rule i j t t' s _ _ hc ⟨.int (g i j),H,I.tok _,⟨_,rfl⟩,q⟩
theorem opI0{g:Int->Int->Int}
  (rule:∀(i j:Int)(t u:Tok)(s:xW)(Q:xY->xW->Prop)(E:xY->xW->Prop),Q (.int (g i j) s.toks) {s with toks:=s.toks+1}->vX (xS X.prog X.w) X.A (f (.int i t) (.int j u)) Q E s):
  OpR X f (rI0 λi j=>.int (g i j)):=by
 intro vA s σ H x y v u Q I rx ry h;obtain⟨i,j,rfl,rfl,q⟩:=h;obtain⟨t,rfl⟩:=rx;obtain⟨t',rfl⟩:=ry;exact rule i j t t' s _ _ ⟨.int (g i j),H,I.tok _,⟨_,rfl⟩,q⟩
theorem Sh{g:Int->Int->Bool}
  (rule:∀(i j:Int)(t u:Tok)(s:xW)(Q:xY->xW->Prop)(E:xY->xW->Prop),Q (.bool (g i j)) s->vX (xS X.prog X.w) X.A (f (.int i t) (.int j u)) Q E s):
  OpR X f (rI0 λi j=>.bl (g i j)):=by
 intro vA s σ H x y v u Q I rx ry h;obtain⟨i,j,rfl,rfl,q⟩:=h;obtain⟨t,rfl⟩:=rx;obtain⟨t',rfl⟩:=ry;exact rule i j t t' s _ _ ⟨.bl (g i j),H,I,rfl,q⟩
def CPow(i j:Int):Prop:=0<=j/\j<=1000000/\i.natAbs<2^64
def CMul(i j:Int):Prop:=(-(2^64)<i/\i<2^64)∨(-(2^64)<j/\j<2^64)
theorem CMul.ok{i j:Int}(h:CMul i j):IntMulOk i j:=by
 rcases h with⟨h1,h2⟩|⟨h1,h2⟩
 ·exact .of_left (intBits_le_64 h1 h2)
 ·exact .of_right (intBits_le_64 h1 h2)
theorem ZKq:OpR X (x9 .Add) (rI0 λi j=>.int (i+j)):=opI0 λ_ _ _ _ _ _ _ q=>add_int q
theorem ZLw:OpR X (x9 .Sub) (rI0 λi j=>.int (i-j)):=opI0 λ_ _ _ _ _ _ _ q=>sub_int q
theorem ZO4:OpR X (x9 .Mod) (rI (λ_ j=>0<j) λi j=>.int (i%j)):=opI λi j _ _ _ _ _ hc q=>by have h1:(0:Int)<j:=hc;exact mod_int' (by lia) (by rw[Int.fmod_eq_emod_of_nonneg i (by lia)];exact q)
theorem ZO1:OpR X (x9 .Pow) (rI CPow λi j=>.int (i^j.toNat)):=opI λ_ _ _ _ _ _ _ hc q=>pow_int_small hc.1 hc.2.1 hc.2.2 q
theorem unI{f:xY->Sem xY}{g:Int->Int}
  (rule:∀(i:Int)(t:Tok)(s:xW)(Q:xY->xW->Prop)(E:xY->xW->Prop),Q (.int (g i) s.toks) {s with toks:=s.toks+1}->vX (xS X.prog X.w) X.A (f (.int i t)) Q E s):
  UnR X f (rU λi=>.int (g i)):=by
 intro vA s σ H x v Q I rx h;obtain⟨i,rfl,q⟩:=h;obtain⟨t,rfl⟩:=rx;exact rule i t s _ _ ⟨.int (g i),H,I.tok _,⟨_,rfl⟩,q⟩
theorem ZOC:UnR X (unaryOp .USub) (rU λi=>.int (-i)):=unI λ_ _ _ _ _ q=>neg_int q
end
section
variable{X:Cx}{a b c:xQ}{ta tb tc:TE}{pos:Pos}
theorem Y6{Q:VK}{k k':Bool}(I:Inv X vA σ H s)(q:Q (.bl k) H)(e:k=k'):EP X vA σ Q (.bool k') s:=by subst e;exact⟨.bl k,H,I,rfl,q⟩
theorem ZJ4:OpR X (xE .Lt) (rI0 λi j=>.bl (decide (i<j))):=Sh λ_ _ _ _ _ _ _ q=>lt_int q
theorem ZL5:OpR X (xE .LtE) (rI0 λi j=>.bl (decide (i<=j))):=Sh λ_ _ _ _ _ _ _ q=>le_int q
theorem ZMv:OpR X (xE .Gt) (rI0 λi j=>.bl (decide (j<i))):=Sh λ_ _ _ _ _ _ _ q=>gt_int q
theorem ZJz:OpR X (xE .GtE) (rI0 λi j=>.bl (decide (j<=i))):=Sh λ_ _ _ _ _ _ _ q=>ge_int q
theorem ZLB:OpR X (xE .Lt) (λx y H Q=>∃i j,x=.str i/\y=.str j/\Q (.bl (decide (i.cps.toList<j.cps.toList))) H):=by intro vA s σ H x y v u Q I rx ry h;obtain⟨i,j,rfl,rfl,q⟩:=h;obtain⟨t,rfl⟩:=rx;obtain⟨t',rfl⟩:=ry;exact lt_str (Y6 I q rfl)
theorem ZJm:OpR X (xE .Is) (λx y H Q=>y=.non/\Q (.bl (decide (x=.non))) H):=by
 intro vA s σ H x y v u Q I rx ry h;obtain⟨rfl,q⟩:=h;cases ry;refine is_none_gen (Y6 I q ?_)
 cases x<;>first
  |(cases rx;rfl)
  |(obtain⟨t,rfl⟩:=rx;rfl)
theorem ZKR:OpR X (xE .IsNot) (λx y H Q=>y=.non/\Q (.bl (!decide (x=.non))) H):=by
 intro vA s σ H x y v u Q I rx ry h;obtain⟨rfl,q⟩:=h;cases ry;refine isnot_none_gen (Y6 I q ?_)
 cases x<;>first
  |(cases rx;rfl)
  |(obtain⟨t,rfl⟩:=rx;rfl)
theorem OpR.or{r':R2}(h:OpR X f r)(h':OpR X f r'):OpR X f (λx y H Q=>r x y H Q∨r' x y H Q):=by
 intro vA s σ H x y v u Q I rx ry q;rcases q with q|q
 ·exact h vA s σ H x y v u Q I rx ry q
 ·exact h' vA s σ H x y v u Q I rx ry q
theorem nomark(b:xQ)(h:op≠ .In:=by decide)(h2:op≠ .NotIn:=by decide):x8 op b=vE:=by
 have e1:(op==CmpOp.In)=vE:=by cases op<;>first|rfl|exact absurd rfl h
 have e2:(op==CmpOp.NotIn)=vE:=by cases op<;>first|rfl|exact absurd rfl h2
 cases b<;>simp[x8,e1,e2]
theorem ZGb(ho:OpR X (xE op) r)(ha:PE X a ta)(hb:PE X b tb)(hm:x8 op b=vE):PE X (.Compare a [op] [b] pos) (tOp r ta tb):=by intro vA s σ H Q I h;exact wpAny_Compare1 (Wq ha hb I h λv u s2 x y H2 I2 rx ry q=>ho vA s2 σ H2 x y v u Q I2 rx ry q) hm
noncomputable def Om(t:TE):TT:=λσ H Q=>t σ H λx H'=>∃k,x=.bl k/\Q k H'
theorem ZGk(ho:OpR X (xE op) r)(ha:PE X a ta)(hb:PE X b tb)(hm:x8 op b=vE):PT X (.Compare a [op] [b] pos) (Om (tOp r ta tb)):=by
 intro vA s σ H Q I h;refine wpAny_isTrue_Compare1 (thn (ha vA s σ H _ I h) λv s1 ⟨x,H1,I1,r1,q1⟩=>thn (hb vA s1 σ H1 _ I1 q1) λu s2 ⟨y,H2,I2,r2,q2⟩=>
  thn (ho vA s2 σ H2 x y v u _ I2 r1 r2 q2) λc s3 ⟨z,H3,I3,r3,k,e,q3⟩=>?_) hm
 subst e;cases r3;exact v6 ⟨H3,I3,q3⟩
noncomputable def ZFr(r r':R2)(ta tb tc:TE):TE:=λσ H Q=>ta σ H λx H1=>tb σ H1 λy H2=>r x y H2 λz H3=>∃k,z=.bl k/\
 (if k=vD then tc σ H3 λw' H4=>r' y w' H4 Q else Q (.bl vE) H3)
theorem ZOs{op':CmpOp}{r':R2}(ho:OpR X (xE op) r)(ho':OpR X (xE op') r')(ha:PE X a ta)(hb:PE X b tb)(hc:PE X c tc)
  (hm:lastMarks [op,op'] [b,c]=vE:=by with_unfolding_all rfl):PT X (.Compare a [op,op'] [b,c] pos) (Om (ZFr r r' ta tb tc)):=by
 intro vA s σ H Q I h;refine isTrue_chain (thn (ha vA s σ H _ I h) λv s1 ⟨x,H1,I1,r1,q1⟩=>test_link (thn (hb vA s1 σ H1 _ I1 q1) λu s2 ⟨y,H2,I2,r2,q2⟩=>
  thn (ho vA s2 σ H2 x y v u _ I2 r1 r2 q2) λd s3 ⟨z,H3,I3,r3,k,e,q3⟩=>?_)) hm
 subst e;cases r3;refine v6 ?_;cases k with
 |false=>
  obtain⟨k',e',q'⟩:=q3;cases e';exact ite_ff ⟨H3,I3,q'⟩
 |true=>
  refine ite_tt (test_last (thn (hc vA s3 σ H3 _ I3 q3) λw' s4 ⟨z',H4,I4,r4,q4⟩=>thn (ho' vA s4 σ H4 y z' u w' _ I4 r2 r4 q4) λd' s5 ⟨z2,H5,I5,r5,k2,e2,q5⟩=>?_));subst e2;cases r5;exact v6 ⟨H5,I5,q5⟩
theorem line63:(sizeLine:Nat)<2^63:=by rw[xU];decide
theorem ZNv:OpR X (x9 .Add) (λx y H Q=>∃i j,x=.str i/\y=.str j/\i.length+j.length<=sizeLine/\Q (.str (i++j)) H):=by intro vA s σ H x y v u Q I rx ry h;obtain⟨i,j,rfl,rfl,hz,q⟩:=h;obtain⟨t,rfl⟩:=rx;obtain⟨t',rfl⟩:=ry;exact add_str (λt' tk=>⟨.str (i++j),H,I.tok _,⟨_,rfl⟩,q⟩) hz
theorem ZJb:OpR X (inplaceOp .Add) (λx y H Q=>∃i j,x=.str i/\y=.str j/\i.length+j.length<=sizeLine/\Q (.str (i++j)) H):=by intro vA s σ H x y v u Q I rx ry h;obtain⟨i,j,rfl,rfl,hz,q⟩:=h;obtain⟨t,rfl⟩:=rx;obtain⟨t',rfl⟩:=ry;exact iadd_str (λt' tk=>⟨.str (i++j),H,I.tok _,⟨_,rfl⟩,q⟩) hz
theorem vals1{x:V}(r:Vals [x] us):∃u,us=[u]/\RelV x u:=by
 cases r with
 |cons r1 r2=>cases r2;exact⟨_,rfl,r1⟩
theorem vals2{x:V}(r:Vals [x,y] us):∃u w',us=[u,w']/\RelV x u/\RelV y w':=by
 cases r with
 |cons r1 r2=>
  cases r2 with
  |cons r3 r4=>cases r4;exact⟨_,_,rfl,r1,r3⟩
theorem ZLh(hc:X.calm=vD):CallR X (.builtin "max") (λxs H Q=>∃i j,xs=[.int i,.int j]/\Q (.int (if j>i then j else i)) H):=by
 intro vA s σ H xs us Q I r h;obtain⟨i,j,rfl,q⟩:=h;obtain⟨u,w',rfl,⟨t,rfl⟩,⟨t',rfl⟩⟩:=vals2 r;refine max_two_ints (I.ok.hd hc) λh' tk k=>⟨_,H,I.kept k,?_,q⟩
 by_cases hj:j>i
 ·rw[if_pos hj,if_pos hj];exact⟨_,rfl⟩
 ·rw[if_neg hj,if_neg hj];exact⟨_,rfl⟩
theorem ZOz(hc:X.calm=vD):CallR X (.builtin "min") (λxs H Q=>∃i j,xs=[.int i,.int j]/\Q (.int (if j<i then j else i)) H):=by
 intro vA s σ H xs us Q I r h;obtain⟨i,j,rfl,q⟩:=h;obtain⟨u,w',rfl,⟨t,rfl⟩,⟨t',rfl⟩⟩:=vals2 r;refine min_two_ints (I.ok.hd hc) λh' tk k=>⟨_,H,I.kept k,?_,q⟩
 by_cases hj:j<i
 ·rw[if_pos hj,if_pos hj];exact⟨_,rfl⟩
 ·rw[if_neg hj,if_neg hj];exact⟨_,rfl⟩
end
structure ObjM (h:Heap) (x dx C:jT) (mA:Str->Option xY):Prop where
 obj:h.get? x=vB (PySem.W.instObj C dx)
 ns:h.Ns1 dx mA
 ne:dx≠x
theorem ZBy{dx:jT}{mA:Str->Option xY}(n:h.Ns1 dx mA):∃od,h.get? dx=vB od/\∀name,PySem.W.lookIn name od=vB (mA name):=by
 obtain⟨o,es,ep,ho,hd,hk,_,hm⟩:=n;refine⟨o,ho,λname=>?_⟩;have e:=hm name;unfold nsFind findBy at e;rw[<-Array.find?_toList]at e;unfold PySem.W.lookIn;rw[hd];dsimp only;split
 ·rename_i y q;rw[q]at e;exact congrArg vB e
 ·rename_i q;rw[q]at e
  have a:es.toList.any (·.refKey)=vE:=by rw[List.any_eq_false];intro y hy;obtain⟨z,t,hkey⟩:=hk y (Array.mem_toList_iff.mp hy);simp[DictEntry.refKey,hkey]
  have a':¬es.toList.any (·.refKey)=vD:=by rw[a];exact z9
  rw[if_neg a'];exact congrArg vB e
theorem ObjM.look{x dx:jT}{mA:Str->Option xY}(I:ObjM h x dx C mA):∃od,PySem.W.InstAt h x (PySem.W.instObj C dx) C (vB od)/\∀name,PySem.W.lookIn name od=vB (mA name):=
 let⟨od,ho,hl⟩:=ZBy I.ns
 ⟨od,⟨I.obj,rfl,rfl,ho⟩,hl⟩
section
variable{prog:xX}{w:xq}{A:jU}{E:xY->xW->Prop}{s:xW}{K:PySem.W.Frag}{x dx C f:jT}{mA:Str->Option xY}{name:Str}{v:xY}
theorem ZG2{expr:Bool}{Q:xY->xW->Prop}(X:K.In s.heap)(I:ObjM s.heap x dx C mA)(hg:PySem.W.plainGet K C name=vD)(hh:PySem.W.hasDictIn K C=vD)
  (ha:PySem.W.findIn K (.ref C) name=vB vC) (hv:mA name=vB v) (hv':PySem.W.handedIn v=vD) (h:Q v {s with toks:=s.toks+1}):
  vX (xS prog w) A (getAttr (.ref x) name expr) Q E s:=by
 obtain⟨od,J,hl⟩:=I.look;exact PySem.W.get_value X J (PySem.W.plainGet_of hg).1 (PySem.W.findObj_own hh ha rfl (by rw[hl,hv])) hv' h
theorem ZJx{pl:Sem Bool}{Q:xY×List xY->xW->Prop}(X:K.In s.heap)(I:ObjM s.heap x dx C mA)(hg:PySem.W.plainGet K C name=vD)
  (hf:PySem.W.findIn K (.ref C) name=vB (vB (.ref f))) (ht:PySem.W.isFn K (.ref f)=vD) (hv:mA name=vC) (h:Q (.ref f,[.ref x]) s):
  vX (xS prog w) A (getMethod (.ref x) name pl) Q E s:=by
 obtain⟨od,J,hl⟩:=I.look
 exact PySem.W.method_fn X J (PySem.W.plainGet_of hg).1 (PySem.W.plainGet_of hg).2 hf (beq_iff_eq.mp ht) (by show(PySem.W.lookIn name od).map (·.isSome)=vB vE;rw[hl,hv];rfl) h
theorem ZHQ{ns:List Str}(X:K.In s.heap)(I:ObjM s.heap x dx C mA)
  (hs:PySem.W.findIn K (.ref C) "__setattr__"=vB (vB (.builtin "object.__setattr__"))) (hp:PySem.W.plainOver K C=vD) (ht:PySem.W.takerIn K C name=vB vC) (hh:PySem.W.hasDictIn K C=vD)
  (hw:PySem.Within mA ns) (hsz:ns.length<=sizeLine)
  (h:∀h',ObjM h' x dx C (λy=>if y=name then vB v else mA y)->qy dx s.heap h'->Q () {s with heap:=h',toks:=s.toks+2}):
  vX (xS prog w) A (setAttr (.ref x) name v) Q E s:=by
 obtain⟨od,J,hl⟩:=I.look;refine PySem.W.set_plain X J hs (PySem.W.osa_open (s:={s with toks:=s.toks+1}) (r:=vC) X J hp ht λb=>?_);obtain⟨cd,hc,hd'⟩:=PySem.W.any_some hh;have hx:s.heap.get? x=vB ⟨.ref C,vB dx,.plain,#[]⟩:=I.obj;refine vW (v4 (vW (vW (wpAny_loadPart hx (vW (PySem.W.Looks.here (s:={s with toks:=s.toks+1}) (PySem.W.looks_clsIn X hc) ?_))))))
 rw[hd'];refine v4 (a:=vB dx) (vW (v4 (vW ?_)));refine wpAny_nsSet1 (s:={s with toks:=s.toks+1}) I.ns λh' hn2 hs2=>?_
 obtain⟨oD,esD,epD,hoD,hdD,hcD⟩:=hn2.count (PySem.Within.cons name v hw);refine vW (wpAny_lookBehind hoD (by rw[hdD];exact pastItsLine_dict (zC hcD (by rw[qZ];lia))) ?_);exact v4 (h _ ⟨(hs2.2 _ (Ne.symm I.ne)).trans I.obj,hn2,I.ne⟩ hs2)
theorem ZGn{R:Result->xW->Prop}{vs:List xY}(X:K.In s.heap)(hm:PySem.W.makesIn K C=vD)
  (hi:PySem.W.findIn K (.ref C) "__init__"=vB (vB (.ref f))) (hf:PySem.W.typeIn K (.ref f)=vB (.type "function"))
  (h:codeAny (xS prog w) (A.under (.builtin "type.__call__" ⟨.ref C::vs,kw⟩)) (.call (.ref f) ⟨.ref (s.heap.objs.size+1)::vs,kw⟩) (PySem.W.InitBack (s.heap.objs.size+1) R)
   {s with heap:=(s.heap.push PySem.W.emptyDict).push (PySem.W.instObj C s.heap.objs.size)}):
  codeAny (xS prog w) A (.call (.ref C) ⟨vs,kw⟩) R s:=by
 obtain⟨hh,g,d,t,os⟩:=s;exact PySem.W.make_core (PySem.W.makes_of X hm) (PySem.W.looks_findIn X hi) (λself=>PySem.W.bind_fn X self hf) (.inl rfl) h
end
noncomputable def Dv(f:Str)(v:V):List (Str×V)->List (Str×V)
 |[]=>[(f,v)]
 |(g,x)::r=>if g=f then(g,v)::r else(g,x)::Dv f v r
theorem ZCW(f g:Str)(v:V):∀fs:List (Str×V),(Dv f v fs).lookup g=if g=f then vB v else fs.lookup g
 |[]=>by
  show jQ g [(f,v)]=_;by_cases h:g=f
  ·have hb:(g==f)=vD:=beq_iff_eq.mpr h;simp only[jQ,hb,if_pos h]
  ·have hb:(g==f)=vE:=beq_eq_false_iff_ne.mpr h;simp only[jQ,hb,if_neg h]
 | (k,x)::r=>by
  have ih:=ZCW f g v r
  rw[show Dv f v ((k,x)::r)=(if k=f then(k,v)::r else(k,x)::Dv f v r)from rfl]
  by_cases hk:k=f
  ·rw[if_pos hk];by_cases h:g=k
   ·have hb:(g==k)=vD:=beq_iff_eq.mpr h;simp only[jQ,hb,if_pos (h.trans hk)]
   ·have hb:(g==k)=vE:=beq_eq_false_iff_ne.mpr h;simp only[jQ,hb,if_neg (λe:g=f=>h (e.trans hk.symm))]
  ·rw[if_neg hk];by_cases h:g=k
   ·have hb:(g==k)=vD:=beq_iff_eq.mpr h;simp only[jQ,hb,if_neg (λe:g=f=>hk (h.symm.trans e))]
   ·have hb:(g==k)=vE:=beq_eq_false_iff_ne.mpr h;simp only[jQ,hb];exact ih
theorem Zy(f:Str)(v:V):∀fs:List (Str×V),f∈(Dv f v fs).map (·.1)/\∀g,g∈fs.map (·.1)->g∈(Dv f v fs).map (·.1)
 |[]=>⟨by simp[Dv],λg h=>by simp at h⟩
 | (k,x)::r=>by
  obtain⟨i1,i2⟩:=Zy f v r
  rw[show Dv f v ((k,x)::r)=(if k=f then(k,v)::r else(k,x)::Dv f v r)from rfl]
  by_cases hk:k=f
  ·rw[if_pos hk];subst hk;exact⟨by simp,λg h=>by simpa using h⟩
  ·rw[if_neg hk];refine⟨?_,λg h=>?_⟩
   ·rw[zG];exact zJ _ i1
   ·rw[zG]at h⊢;rcases zw.mp h with e|e
    ·exact zw.mpr (.inl e)
    ·exact zJ _ (i2 g e)
theorem ZD0(f:Str)(v:V):∀fs:List (Str×V),(Dv f v fs).length<=fs.length+1
 |[]=>by simp[Dv]
 |(k,x)::r=>by
  have ih:=ZD0 f v r
  rw[show Dv f v ((k,x)::r)=(if k=f then(k,v)::r else(k,x)::Dv f v r)from rfl]
  by_cases hk:k=f
  ·rw[if_pos hk,qZ,qZ];lia
  ·rw[if_neg hk,qZ,qZ];lia
theorem RelO.some_of{o:Option xY}(r:RelO (vB v) o):∃u,o=vB u/\RelV v u:=by
 cases o with
 |none=>exact(show False from r).elim
 |some u=>exact⟨u,rfl,r⟩
theorem RelO.none_of{o:Option xY}(r:RelO vC o):o=vC:=by
 cases o with
 |none=>rfl
 |some u=>exact(show False from r).elim
theorem ZDT(r:RelV v u):PySem.W.handedIn u=vD:=by
 cases v with
 |non=>cases(show u=Value.none from r);rfl
 |bl b=>cases(show u=Value.bool b from r);rfl
 |int i=>obtain⟨t,e⟩:=(show∃t,u=Value.int i t from r);cases e;rfl
 |str x=>obtain⟨t,e⟩:=(show∃t,u=Value.str x t from r);cases e;rfl
 |byt b=>obtain⟨t,e⟩:=(show∃t,u=Value.bytes b t from r);cases e;rfl
 |flt b=>obtain⟨t,e⟩:=(show∃t,u=Value.float b t from r);cases e;rfl
 |ref a=>cases(show u=Value.ref a from r);rfl
 |ty n=>cases(show u=Value.type n from r);rfl
section
variable{P:xX}{w:xq}{H H':Hp}{h h':Heap}{a C dx:jT}{fs fs':List (Str×V)}
theorem Zj(hok:HOk P w H h)(e:H a=vB (.ins C dx fs)):∃mA,ObjM h a dx C mA/\(∀f,RelO (fs.lookup f) (mA f))/\PySem.Within mA (fs.map (·.1))/\fs.length<=1000/\H dx=vB (.own a):=by
 obtain⟨d,z,ne,ob,mA,n,r,q⟩:=(show ObjOk P w H h a (.ins C dx fs)from hok a _ e)
 exact⟨mA,⟨ob,n,ne⟩,r,q,z,d⟩
end
structure Cls (K:PySem.W.Frag) (C:jT):Prop where
 pg:PySem.W.plainGet K C Str.empty=vD
 hd:PySem.W.hasDictIn K C=vD
 po:PySem.W.plainOver K C=vD
 sa:PySem.W.findIn K (.ref C) "__setattr__"=vB (vB (.builtin "object.__setattr__"))
theorem Cls.get(c:Cls K C)(f:Str):PySem.W.plainGet K C f=vD:=c.pg
def NoAttr(K:PySem.W.Frag)(C:jT)(f:Str):Prop:=PySem.W.findIn K (.ref C) f=vB vC
theorem NoAttr.taker{f:Str}(n:NoAttr K C f):PySem.W.takerIn K C f=vB vC:=by
 unfold PySem.W.takerIn
 rw[show PySem.W.findIn K (.ref C) f=vB vC from n]
 rfl
structure Meth (K:PySem.W.Frag) (C:jT) (m:Str) (f:jT):Prop where
 at_:PySem.W.findIn K (.ref C) m=vB (vB (.ref f))
 fn:PySem.W.isFn K (.ref f)=vD
 kp:PySem.W.keepIn K (.ref f)=vD
section
variable{X:Cx}{vA:List (jT×Obj)}{σ:St}{H:Hp}{s:xW}{a C dx:jT}{fs:List (Str×V)}{f:Str}{v:V}{A:jU}{E:xY->xW->Prop}
theorem ZOG{b:Bool}{Q:xY->xW->Prop}(I:Inv X vA σ H s)(e:H a=vB (.ins C dx fs))(c:Cls X.K C)(n:NoAttr X.K C f)(l:fs.lookup f=vB v)
  (h:∀u s',Inv X vA σ H s'->RelV v u->Q u s'):vX (xS X.prog X.w) A (getAttr (.ref a) f b) Q E s:=by
 obtain⟨mA,O,r,_,_,_⟩:=Zj I.hok e;obtain⟨u,hu,ru⟩:=RelO.some_of (v:=v) (o:=mA f) (by rw[<-l];exact r f);exact ZG2 I.kIn O (c.get f) c.hd n hu (ZDT ru) (h u _ (I.tok _) ru)
theorem ZES{m:Str}{g:jT}{pl:Sem Bool}{Q:xY×List xY->xW->Prop}(I:Inv X vA σ H s)(e:H a=vB (.ins C dx fs))(c:Cls X.K C)(k:Meth X.K C m g)(l:fs.lookup m=vC)
  (h:Q (.ref g,[.ref a]) s):vX (xS X.prog X.w) A (getMethod (.ref a) m pl) Q E s:=by
 obtain⟨mA,O,r,_,_,_⟩:=Zj I.hok e;have hn:mA m=vC:=RelO.none_of (by rw[<-l];exact r m);exact ZJx I.kIn O (c.get m) k.at_ k.fn hn h
theorem ZNH(I:Inv X vA σ H s)(e:H a=vB (.ins C dx fs))(c:Cls X.K C)(n:NoAttr X.K C f)(hl:fs.length<1000)(ry:RelV y u)
  (h:∀s',Inv X vA σ (upd H a (.ins C dx (Dv f y fs))) s'->Q () s'):vX (xS X.prog X.w) A (setAttr (.ref a) f u) Q E s:=by
 obtain⟨mA,O,r,wi,_,ho⟩:=Zj I.hok e
 have hz:(fs.map (·.1)).length<=sizeLine:=by rw[qJ,xU];lia
 refine ZHQ I.kIn O c.sa c.po n.taker c.hd wi hz λh' O' sb=>h _ ?_
 have hd:∃o,h'.get? dx=vB o:=let⟨o,_,_,e',_⟩:=O'.ns;⟨o,e'⟩;refine I.write (x:=a) (e:=dx) (by rw[e];exact True.intro) (.inr ho) (λb q hb z=>(sb.2 b hb).trans z) hd ?_;refine⟨by rw[Ay O.ne];exact ho,?_,O.ne,O'.obj,_,O'.ns,λg=>?_,λg hg=>?_⟩
 ·have:=ZD0 f y fs;lia
 ·show RelO ((Dv f y fs).lookup g) (if g=f then vB u else mA g);rw[ZCW];by_cases q:g=f
  ·rw[if_pos q,if_pos q];exact ry
  ·rw[if_neg q,if_neg q];exact r g
 ·by_cases q:g=f
  ·rw[q];exact(Zy f y fs).1
  ·refine(Zy f y fs).2 g (wi g λz=>hg ?_);show(if g=f then vB u else mA g)=vC;rw[if_neg q];exact z
theorem Inv.made(I:Inv X vA σ H s):Inv X vA σ (upd (upd H s.heap.objs.size (.own (s.heap.objs.size+1))) (s.heap.objs.size+1) (.ins C s.heap.objs.size []))
  {s with heap:=(s.heap.push PySem.W.emptyDict).push (PySem.W.instObj C s.heap.objs.size)}:=by
 have e1:(s.heap.push PySem.W.emptyDict).get? s.heap.objs.size=vB PySem.W.emptyDict:=zy s.heap rfl;have e2:((s.heap.push PySem.W.emptyDict).push (PySem.W.instObj C s.heap.objs.size)).get? (s.heap.objs.size+1)=vB (PySem.W.instObj C s.heap.objs.size):=by have:=zy (s.heap.push PySem.W.emptyDict) (o:=PySem.W.instObj C s.heap.objs.size) rfl;rwa[qw]at this
 have e3:(s.heap.push PySem.W.emptyDict).Ns s.heap.objs.size (λ_=>vC):=⟨PySem.W.emptyDict,#[],_,e1,rfl,(λe he=>absurd he (by simp)),λ_=>rfl⟩;have I1:=I.laid (a:=s.heap.objs.size) (o:=.own (s.heap.objs.size+1)) (h':=s.heap.push PySem.W.emptyDict) (t':=s.toks) (λb u q=>zQ _ q) (zW _) ⟨_,e1⟩;refine I1.laid (a:=s.heap.objs.size+1) (o:=.ins C s.heap.objs.size []) (t':=s.toks) (λb u q=>zQ _ q) (Nat.le_of_eq (qw _ _)) ?_
 have ne:s.heap.objs.size≠s.heap.objs.size+1:=zE (qX _);refine⟨by rw[Ay ne,Eo],j6 _,ne,e2,λ_=>vC,(Heap.Ns1.of_empty e3).at λo q=>zQ _ q,λ_=>True.intro,λy hy=>absurd rfl hy⟩
theorem ZDY{prog:xX}{env:Env}{f:Str}{pos:Pos}{Q:xY->xW->Prop}(hb:xj e f env (eval e env)=eval e env)
  (h:vX (xS prog w) A (eval e env) (λo s₁=>vX (xS prog w) A (getAttr o f vD) Q E s₁) E s):vX (xS prog w) A (eval (.Attribute e f pos) env) Q E s:=
 Attribute_any_ h (by rw[arm_eval_Attribute,hb])
end
def tFld(K:PySem.W.Frag)(ta:TE)(f:Str):TE:=λσ H Q=>ta σ H λx H1=>∃a C dx fs v,x=.ref a/\H1 a=vB (.ins C dx fs)/\Cls K C/\NoAttr K C f/\fs.lookup f=vB v/\Q v H1
def sFld(K:PySem.W.Frag)(ta tv:TE)(f:Str):TS:=λD σ H=>tv σ H λy H1=>ta σ H1 λx H2=>∃a C dx fs,x=.ref a/\H2 a=vB (.ins C dx fs)/\Cls K C/\NoAttr K C f/\fs.length<1000/\
 D.nx σ (upd H2 a (.ins C dx (Dv f y fs)))
section
variable{X:Cx}{o e value:xQ}{f:Str}{pos pos' tpos:Pos}{ta tv:TE}
theorem ZGm(he:PE X e ta)(hb:xj e f X.env (eval e X.env)=eval e X.env):PE X (.Attribute e f pos) (tFld X.K ta f):=by intro vA s σ H Q I h;refine ZDY hb (thn (he vA s σ H _ I h) λu s1 ⟨x,H1,I1,rx,a,C,dx,fs,v,ex,ea,c,n,l,q⟩=>?_);subst ex;obtain rfl:u=Value.ref a:=rx;exact ZOG I1 ea c n l λu' s2 I2 ru=>⟨v,H1,I2,ru,q⟩
theorem ZHP(ha:PE X o ta)(hv:PE X value tv)(hs:swapsWith value (vB (.Attribute o f pos')) pos.line X.env=pure vE):PS X (.Assign [.Attribute o f pos'] value pos) (sFld X.K ta tv f):=by intro vA s σ H D I h;refine plainObj_wpAny_Assign_Attribute (thn (hv vA s σ H _ I h) λu s1 ⟨y,H1,I1,ry,q⟩=>thn (ha vA s1 σ H1 _ I1 q) λov s2 ⟨x,H2,I2,rx,a,C,dx,fs,ex,ea,c,n,l,q2⟩=>?_) hs;subst ex;obtain rfl:ov=Value.ref a:=rx;exact ZNH I2 ea c n l ry λs3 I3=>⟨σ,_,I3,q2⟩
end
section
variable{X:Cx}{vA:List (jT×Obj)}{σ:St}{H:Hp}{s:xW}{A:jU}{E:xY->xW->Prop}{Q:xY->xW->Prop}{c:xY}{b:Bool}
end
structure Room (k:Nat) (A:jU):Prop where
 hd:A.handled=vC
 dp:A.depth+3*k+5<recursionLimit
 un:A.units+16*k+200<cLine
theorem Room.mono{j:Nat}(r:Room k A)(h:j<=k):Room j A:=⟨r.hd,by have:=r.dp;lia,by have:=r.un;lia⟩
theorem Room.deeper(r:Room (k+1) A)(env:Env):Room k (A.deeper env):=
 ⟨r.hd,by have:=r.dp;show A.depth+1+3*k+5<_;lia,by have:=r.un;show A.units+3+16*k+200<_;lia⟩
theorem ZIS:(A.under (.builtin "type.__call__" ⟨.ref C::us,kw⟩)).depth=A.depth+1:=by
 first|rfl|simp[Around.under,Code.weight,Code.isCreation,Code.isGuard,Code.isCaller,Code.frames,Code.isFrame,guardIds]
theorem ZL3:(A.under (.builtin "type.__call__" ⟨.ref C::us,kw⟩)).units=A.units+1:=by
 first|rfl|simp[Around.under,Code.cUnits,Code.frames,Code.isFrame]
theorem Room.make(r:Room (k+1) A)(C:jT)(us:List xY)(kw:List (Str×xY)):Room k (A.under (.builtin "type.__call__" ⟨.ref C::us,kw⟩)):=
 ⟨r.hd,by have:=r.dp;rw[ZIS];lia,by have:=r.un;rw[ZL3];lia⟩
theorem Room.depth(r:Room k A):A.depth<recursionLimit:=by have:=r.dp;lia
theorem Room.units(r:Room k A):A.units+64<cLine:=by have:=r.un;lia
noncomputable def Pz:TA:=λ_ H Q=>Q [] H
noncomputable def Qn(ta:TE)(tr:TA):TA:=λσ H Q=>ta σ H λx H1=>tr σ H1 λxs H2=>Q (x::xs) H2
section
variable{X:Cx}{e:xQ}{es:List xQ}{te:TE}{t:TA}{pos:Pos}
theorem ZDE:PA X [] Pz:=λ_ _ _ _ H Q I h=>Calls.spliced_nil ⟨[],H,I,.nil,h⟩
theorem ZBD(ha:PE X e te)(hr:PA X es t)(hs:vZ (e::es) X.env=(vE,eval e X.env)::vZ es X.env:=by rfl):PA X (e::es) (Qn te t):=by intro pos vA s σ H Q I h;rw[hs];show vX _ _ (spliced ((vE,eval e X.env)::xk pos (vZ es X.env))) _ _ s;refine Calls.spliced_cons (thn (ha vA s σ H _ I h) λu s1 ⟨x,H1,I1,r1,q1⟩=>?_);exact thn (hr pos vA s1 σ H1 _ I1 q1) λus s2 ⟨xs,H2,I2,r2,q2⟩=>⟨x::xs,H2,I2,.cons r1 r2,q2⟩
def tTup(t:TA):TE:=λσ H Q=>t σ H λxs H1=>xs.length<=sizeLine/\∀p,H1 p=vC->Q (.ref p) (upd H1 p (.tup xs))
def tLst(t:TA):TE:=λσ H Q=>t σ H λxs H1=>xs.length<=sizeLine/\∀p,H1 p=vC->Q (.ref p) (upd H1 p (.lst xs))
theorem ZKr{x1}(h:PA X es t):PE X (.Tuple es x1 pos) (tTup t):=by intro vA s σ H Q I hq;refine wpAny_Tuple_spliced (thn (h pos vA s σ H _ I hq) λus s1 ⟨xs,H1,I1,r,z,q⟩=>⟨by rw[<-r.length];exact z,?_⟩);have hf:H1 s1.heap.objs.size=vC:=I1.hok.fresh (zW _);refine⟨.ref s1.heap.objs.size,upd H1 s1.heap.objs.size (.tup xs),I1.laid (t':=s1.toks) (λb u e=>zQ _ e) (zW _) ?_,rfl,q _ hf⟩;exact⟨z,us,r,⟨_,zy _ rfl,rfl,_,rfl⟩⟩
theorem ZLU(h:PA X es t):PE X (.List es pos) (tLst t):=by intro vA s σ H Q I hq;refine wpAny_List_spliced (thn (h pos vA s σ H _ I hq) λus s1 ⟨xs,H1,I1,r,z,q⟩=>⟨by rw[<-r.length];exact z,?_⟩);have hf:H1 s1.heap.objs.size=vC:=I1.hok.fresh (zW _);refine⟨.ref s1.heap.objs.size,upd H1 s1.heap.objs.size (.lst xs),I1.laid (t':=s1.toks) (λb u e=>zQ _ e) (zW _) ?_,rfl,q _ hf⟩;exact⟨z,us,0,r,zy _ rfl⟩
end
noncomputable abbrev Sp:=List V->Hp->VK->XK->Prop
noncomputable abbrev CXT:=List Env->Hp->xW->XK->xY->xW->Prop
structure Env0 (P:xX) (w:xq) (K:PySem.W.Frag) (mg:Str->Option xY) (base:Heap) (A:jU) (outer:List Env) (s:xW) (H:Hp):Prop where
 frames:A.frames=vB outer
 mod:Mod K mg base
 bs:∀b o,base.get? b=vB o->s.heap.get? b=vB o/\H b=vC
 bsz:base.objs.size<=s.heap.objs.size
 funs:s.heap.FunFrames base outer
 frf:∀b∈frs outer,H b=vC
 hok:HOk P w H s.heap
 bare:AllBare s.gens
def CE(outer:List Env)(P:xX)(w:xq)(H:Hp)(s:xW)(Q:VK)(u:xY)(s':xW):Prop:=
 ∃v H',s'.os=s.os/\AllBare s'.gens/\Un (frs outer) [] H H' s.heap s'.heap/\HOk P w H' s'.heap/\RelV v u/\Q v H'
def CR(CX:CXT)(outer:List Env)(P:xX)(w:xq)(H:Hp)(s:xW)(Q:VK)(E:XK)(r:Result)(s':xW):Prop:=
 match r with
 |.ok (.ret u)=>CE outer P w H s Q u s'
 |.ok _=>False
 |.error e=>CX outer H s E e s'
structure FnOk (P:xX) (w:xq) (K:PySem.W.Frag) (mg:Str->Option xY) (base:Heap) (CX:CXT) (k:Nat) (f:jT) (fd:xZ) (ps:List Str) (sp:Sp):Prop where
 len:∀vs H Q E,sp vs H Q E->vs.length=ps.length
 run:∀(A:jU)(outer:List Env)(s:xW)(H:Hp)(args:Args)(us:List xY)(vs:List V)(Q:VK)(E:XK),Room k A->Env0 P w K mg base A outer s H->BindsTo s fd args (ps.zip us)->Vals vs us->sp vs H Q E->
  codeAny (xS P w) A (.call (.ref f) args) (CR CX outer P w H s Q E) s
theorem Env0.make{outer:List Env}(e:Env0 P w K mg base A outer s H)(C:jT)(us:List xY)(kw:List (Str×xY)):
  Env0 P w K mg base (A.under (.builtin "type.__call__" ⟨.ref C::us,kw⟩)) outer s H:=⟨by first|exact e.frames|(simpa[Around.under,Code.envs,Code.isFrame,pushEnvs]using e.frames),e.mod,e.bs,e.bsz,e.funs,e.frf,e.hok,e.bare⟩
section
variable{X:Cx}{vA:List (jT×Obj)}{σ:St}{H:Hp}{s s':xW}
theorem Inv.env0(I:Inv X vA σ H s):Env0 X.prog X.w X.K X.mg X.base X.A X.stack s H:=
 ⟨I.ok.frames,I.ok.mod,I.bs,zC I.ok.bsz I.sz,I.stack,I.S8,I.hok,I.bare⟩
theorem Inv.after{Q:VK}(I:Inv X vA σ H s)(h:CE X.stack X.prog X.w H s Q u s'):EP X vA σ Q u s':=by obtain⟨v,H',os,bare,un,hok,r,q⟩:=h;obtain⟨hh,g,d,t,os'⟩:=s';obtain rfl:os'=s.os:=os;exact⟨v,H',I.call (h':=hh) (g':=g) (d':=d) (t':=t) (ch:=[]) un hok bare (λb z=>absurd z (by simp)),r,q⟩
end
noncomputable def ZN3(sp:Sp)(dvs:List V)(E:XK)(t:TA):TE:=λσ H Q=>t σ H λvs H1=>sp (vs++dvs) H1 Q E
def Zn(C:jT)(m:Str)(sp:Sp)(dvs:List V)(E:XK)(ta:TE)(t:TA):TE:=λσ H Q=>ta σ H λx H1=>∃a dx fs,x=.ref a/\H1 a=vB (.ins C dx fs)/\fs.lookup m=vC/\
 t σ H1 λvs H2=>sp (x::(vs++dvs)) H2 Q E
def ZI6(C:jT)(sp:Sp)(dvs:List V)(E:XK)(t:TA):TE:=λσ H Q=>t σ H λvs H1=>∀x dx,H1 x=vC->H1 dx=vC->dx≠x->
 sp (.ref x::(vs++dvs)) (upd (upd H1 dx (.own x)) x (.ins C dx [])) (λv H2=>v=.non/\Q (.ref x) H2) E
def Binds(K:PySem.W.Frag)(fd:xZ)(ps:List Str)(ds:List xY):Prop:=
 ∀(s:xW)(us:List xY),K.In s.heap->(us++ds).length=ps.length->BindsTo s fd ⟨us,[]⟩ (ps.zip (us++ds))
theorem Binds.all{fd:xZ}{ps:List Str}(h:∀us:List xY,us.length=ps.length->bindArgs fd ⟨us,[]⟩=pure (ps.zip us)):Binds K fd ps []:=λs us _ hl=>by rw[q8]at hl⊢;exact .of_eq (h us hl)
def Passes(CX:CXT)(X:Cx)(E:XK):Prop:=∀(vA:List (jT×Obj))(σ:St)(H:Hp)(s:xW)(e:xY)(s':xW),Inv X vA σ H s->CX X.stack H s E e s'->X.xe e s'
section
variable{X:Cx}{CX:CXT}{k:Nat}{f C:jT}{fd:xZ}{ps:List Str}{sp:Sp}{dvs:List V}{ds:List xY}{E:XK}{x m:Str}{p pos apos:Pos}{e o:xQ}{es:List xQ}{ta:TE}{t:TA}
theorem Xf{Q:VK}(F:FnOk X.prog X.w X.K X.mg X.base CX k f fd ps sp)(hr:Room k X.A)(hb:Binds X.K fd ps ds)(hd:Vals dvs ds)(hx:Passes CX X E)
  (I:Inv X vA σ H s) (r:Vals vs us) (h:sp (vs++dvs) H Q E):vX (xS X.prog X.w) X.A (call (.ref f) us) (EP X vA σ Q) X.xe s:=by
 have r2:Vals (vs++dvs) (us++ds):=r.append hd;have hl:(us++ds).length=ps.length:=by rw[<-r2.length];exact F.len _ _ _ _ h
 refine wpAny_call (xD (F.run X.A X.stack s H ⟨us,[]⟩ (us++ds) (vs++dvs) Q E hr I.env0 (hb s us I.kIn hl) r2 h) λr s' hq=>?_);cases r with
 |error e=>exact hx vA σ H s e s' I hq
 |ok fl=>
  cases fl with
  |ret u=>exact I.after hq
  |next=>exact False.elim hq
  |brk=>exact False.elim hq
  |cont=>exact False.elim hq
theorem X7(F:FnOk X.prog X.w X.K X.mg X.base CX k f fd ps sp)(hr:Room k X.A)(hg:Gl X x)(hm:X.mg x=vB (.ref f))(hk:PySem.W.keepIn X.K (.ref f)=vD)(hb:Binds X.K fd ps ds)(hd:Vals dvs ds)(hx:Passes CX X E)
  (ha:PA X (e::es) t) (hdb:(x==("__debug__":Str))=vE:=by decide) (he:vZ (e::es) X.env=(vE,eval e X.env)::vZ es X.env:=by rfl) (hpl:(xk pos (vZ es X.env)).any (·.1)=vE:=by rfl):
  PE X (.Call (.Name x p) (e::es) [] pos) (ZN3 sp dvs E t):=by
 intro vA s σ H Q I h;refine vV (Ld I hg hm ?_ hdb);refine PySem.W.callWith_K (h₀:=X.base) I.ok.mod.kin hk (thn (ha pos vA s σ H _ I h) λus s1 ⟨vs,H1,I1,r,q⟩=>⟨I1.kIn,?_⟩) he hpl;exact Xf F hr hb hd hx I1 r q
theorem ZNr{pl:Sem Bool}(he:PE X o ta)(c:Cls X.K C)(hm:Meth X.K C m f)(F:FnOk X.prog X.w X.K X.mg X.base CX k f fd ps sp)(hr:Room k X.A)(hb:Binds X.K fd ps ds)(hd:Vals dvs ds)(hx:Passes CX X E)(ha:PA X (e::es) t)
  (hst:vZ (e::es) X.env=(vE,eval e X.env)::vZ es X.env:=by rfl) (hpl:(xk pos (vZ es X.env)).any (·.1)=vE:=by rfl)
  (ht:eval (.Call (.Attribute o m apos) (e::es) [] pos) X.env=(do
   let ov<-eval o X.env
   standAt apos.atName
   let(f,first)<-holding [ov] (getMethod ov m pl)
   callWith pos f first (xk pos (vZ (e::es) X.env)) (xy pos (xO [] X.env))):=by rfl):
  PE X (.Call (.Attribute o m apos) (e::es) [] pos) (Zn C m sp dvs E ta t):=by
 intro vA s σ H Q I h;refine PySem.W.methodCall_KW (pl:=pl) (thn (he vA s σ H _ I h) λu s1 ⟨x,H1,I1,rx,a,dx,fs,ex,ea,l,q⟩=>?_) ht;subst ex;obtain rfl:u=Value.ref a:=rx;refine ZES I1 ea c hm l ?_
 refine PySem.W.callWith_K (first:=[.ref a]) (h₀:=X.base) I.ok.mod.kin hm.kp (thn (ha pos vA s1 σ H1 _ I1 q) λus s2 ⟨vs,H2,I2,r,q2⟩=>⟨I2.kIn,?_⟩) hst hpl
 exact Xf (us:=.ref a::us) (vs:=.ref a::vs) F hr hb hd hx I2 (.cons rfl r) q2
theorem ZI1{pl:Sem Bool}(he:PE X o ta)(c:Cls X.K C)(hm:Meth X.K C m f)(F:FnOk X.prog X.w X.K X.mg X.base CX k f fd ps sp)(hr:Room k X.A)(hb:Binds X.K fd ps ds)(hd:Vals dvs ds)(hx:Passes CX X E)
  (ht:eval (.Call (.Attribute o m apos) [] [] pos) X.env=(do
   let ov<-eval o X.env
   standAt apos.atName
   let(f,first)<-holding [ov] (getMethod ov m pl)
   callWith pos f first (xk pos (vZ [] X.env)) (xy pos (xO [] X.env))):=by rfl):
  PE X (.Call (.Attribute o m apos) [] [] pos) (Zn C m sp dvs E ta Pz):=by
 intro vA s σ H Q I h;refine PySem.W.methodCall_KW (pl:=pl) (thn (he vA s σ H _ I h) λu s1 ⟨x,H1,I1,rx,a,dx,fs,ex,ea,l,q⟩=>?_) ht;subst ex;obtain rfl:u=Value.ref a:=rx;refine ZES I1 ea c hm l ?_
 exact PySem.W.callWith_K0 (first:=[.ref a]) I1.kIn hm.kp (Xf (us:=[.ref a]) (vs:=[.ref a]) F hr hb hd hx I1 (.cons rfl .nil) q)
structure Mk (K:PySem.W.Frag) (C f:jT):Prop where
 makes:PySem.W.makesIn K C=vD
 init:PySem.W.findIn K (.ref C) "__init__"=vB (vB (.ref f))
 fn:PySem.W.isFn K (.ref f)=vD
 kp:PySem.W.keepIn K (.ref C)=vD
theorem ZM0{Q:VK}(M:Mk X.K C f)(F:FnOk X.prog X.w X.K X.mg X.base CX k f fd ps sp)(hr:Room (k+1) X.A)(hb:Binds X.K fd ps ds)(hd:Vals dvs ds)
  (hx:Passes CX X E) (I:Inv X vA σ H s) (r:Vals vs us)
  (h:∀x dx,H x=vC->H dx=vC->dx≠x->sp (.ref x::(vs++dvs)) (upd (upd H dx (.own x)) x (.ins C dx [])) (λv H2=>v=.non/\Q (.ref x) H2) E):
  vX (xS X.prog X.w) X.A (call (.ref C) us) (EP X vA σ Q) X.xe s:=by
 have hq:=h (s.heap.objs.size+1) s.heap.objs.size (I.hok.fresh (jX _)) (I.hok.fresh (zW _)) (zE (qX _));have I2:=Inv.made (C:=C) I;have r2:Vals (V.ref (s.heap.objs.size+1)::(vs++dvs)) (Value.ref (s.heap.objs.size+1)::(us++ds)):=.cons rfl (r.append hd);have hl:(Value.ref (s.heap.objs.size+1)::us++ds).length=ps.length:=by have e:=r2.length;rw[F.len _ _ _ _ hq]at e;exact e.symm
 refine wpAny_call (ZGn (f:=f) I.kIn M.makes M.init (beq_iff_eq.mp M.fn) (xD (F.run _ X.stack _ _ ⟨Value.ref (s.heap.objs.size+1)::us,[]⟩ (Value.ref (s.heap.objs.size+1)::(us++ds)) _ _ E (hr.make C us [])
  (I2.env0.make C us []) (hb _ (Value.ref (s.heap.objs.size+1)::us) I2.kIn hl) r2 hq) λr s' hq'=>?_))
 cases r with
 |error e=>exact hx vA σ _ _ e s' I2 hq'
 | ok fl=>
  cases fl with
  |ret u=>
   obtain⟨v,H',I3,rv,ev,q3⟩:=I2.after hq';subst ev;exact⟨rv,⟨V.ref (s.heap.objs.size+1),H',I3,rfl,q3⟩⟩
  |next=>exact False.elim hq'
  |brk=>exact False.elim hq'
  |cont=>exact False.elim hq'
theorem ZJf(M:Mk X.K C f)(F:FnOk X.prog X.w X.K X.mg X.base CX k f fd ps sp)(hr:Room (k+1) X.A)(hg:Gl X x)(hm:X.mg x=vB (.ref C))(hb:Binds X.K fd ps ds)(hd:Vals dvs ds)(hx:Passes CX X E)
  (ha:PA X (e::es) t) (hdb:(x==("__debug__":Str))=vE:=by decide) (he:vZ (e::es) X.env=(vE,eval e X.env)::vZ es X.env:=by rfl) (hpl:(xk pos (vZ es X.env)).any (·.1)=vE:=by rfl):
  PE X (.Call (.Name x p) (e::es) [] pos) (ZI6 C sp dvs E t):=by
 intro vA s σ H Q I h;refine vV (Ld I hg hm ?_ hdb);refine PySem.W.callWith_K (h₀:=X.base) I.ok.mod.kin M.kp (thn (ha pos vA s σ H _ I h) λus s1 ⟨vs,H1,I1,r,q⟩=>⟨I1.kIn,?_⟩) he hpl;exact ZM0 M F hr hb hd hx I1 r q
end
def PK(X:Cx)(kws:List Keyword)(t:TA):Prop:=
 ∀(pos:Pos)(vA:List (jT×Obj))(s:xW)(σ:St)(H:Hp)(Q:List V->Hp->Prop),Inv X vA σ H s->t σ H Q->vX (xS X.prog X.w) X.A (evalAll ((xy pos (xO kws X.env)).map (·.2))) (AP X vA σ Q) X.xe s
section
variable{X:Cx}{CX:CXT}{k:Nat}{f C:jT}{fd:xZ}{ps ks:List Str}{sp:Sp}{E:XK}{x m:Str}{p pos apos kpos:Pos}{e o:xQ}{es:List xQ}{kws:List Keyword}{te ta:TE}{t tk:TA}{nm:Option Str}
theorem ZIj:PK X [] Pz:=λ_ _ _ _ H Q I h=>wpAny_evalAll_nil ⟨[],H,I,.nil,h⟩
theorem ZHq(ha:PE X e te)(hr:PK X kws t):PK X (⟨nm,e,kpos⟩::kws) (Qn te t):=by
 intro pos vA s σ H Q I h
 show vX _ _ (evalAll ((do let v<-eval e X.env;standAt pos;pure v)::(xy pos (xO kws X.env)).map (·.2))) _ _ s
 refine wpAny_evalAll_cons (vW (thn (ha vA s σ H _ I h) λu s1 ⟨x,H1,I1,r1,q1⟩=>vW (wpAny_standAt (v4 ?_))));exact thn (hr pos vA s1 σ H1 _ I1 q1) λus s2 ⟨xs,H2,I2,r2,q2⟩=>⟨x::xs,H2,I2,.cons r1 r2,q2⟩
variable{g:List xY->List xY->List xY}{gV:List V->List V->List V}
end
structure FnScope (N P:List Str) (sc:xV):Prop where
 kind:sc.kind=.function
 co:sc.isCoroutine=vE
 gen:sc.isGenerator=vE
 nd:N.Nodup
 pre:N.take P.length=P
 par:∀x∈P,sc.names.lookup x=vB .local∨sc.names.lookup x=vB .cell
 nofree:∀y∈sc.names,y.2≠ .free
theorem ZDq:∀{binds:List (Str×xY)}{m:Str->Option xY},(∀v,(x,v)∉binds)->bindL kindOf binds m x=m x
 |[],_,_=>rfl
 | (n,v)::r,m,h=>by
  unfold bindL;rw[ZDq λw hw=>h w (zJ _ hw)];split
  ·have:x≠n:=by rintro rfl;exact h v zX
   simp[this]
  ·rfl
theorem ZFQ:∀{binds:List (Str×xY)}{m:Str->Option xY},(∀v,(x,v)∉binds)->bindC kindOf binds m x=m x
 |[],_,_=>rfl
 | (n,v)::r,m,h=>by
  unfold bindC;rw[ZFQ λw hw=>h w (zJ _ hw)];split
  ·rfl
  ·have:x≠n:=by rintro rfl;exact h v zX
   simp[this]
theorem ZDu{v:xY}:∀{P:List Str}{vs:List xY}{i:Nat}{m:Str->Option xY},P.Nodup->P[i]?=vB x->vs[i]?=vB v->kindOf x=vB .local->
  bindL kindOf (P.zip vs) m x=vB v
 |[],_,_,_,_,h,_,_=>by simp at h
 |_::_,[],_,_,_,_,h,_=>by simp at h
 |p::P,w::vs,0,m,nd,h1,h2,hk=>by simp at h1 h2;subst h1;subst h2;show bindL kindOf ((p,w)::P.zip vs) m p=_;unfold bindL;rw[ZDq λv hv=>(qN.mp nd).1 (List.of_mem_zip hv).1,if_pos hk];simp
 |p::P,w::vs,i+1,m,nd,h1,h2,hk=>by show bindL kindOf ((p,w)::P.zip vs) m x=_;unfold bindL;exact ZDu (i:=i) (qN.mp nd).2 (by simpa using h1) (by simpa using h2) hk
theorem ZCe{v:xY}:∀{P:List Str}{vs:List xY}{i:Nat}{m:Str->Option xY},P.Nodup->P[i]?=vB x->vs[i]?=vB v->kindOf x≠vB .local->
  bindC kindOf (P.zip vs) m x=vB v
 |[],_,_,_,_,h,_,_=>by simp at h
 |_::_,[],_,_,_,_,h,_=>by simp at h
 |p::P,w::vs,0,m,nd,h1,h2,hk=>by simp at h1 h2;subst h1;subst h2;show bindC kindOf ((p,w)::P.zip vs) m p=_;unfold bindC;rw[ZFQ λv hv=>(qN.mp nd).1 (List.of_mem_zip hv).1,if_neg hk];simp
 |p::P,w::vs,i+1,m,nd,h1,h2,hk=>by show bindC kindOf ((p,w)::P.zip vs) m x=_;unfold bindC;exact ZCe (i:=i) (qN.mp nd).2 (by simpa using h1) (by simpa using h2) hk
noncomputable def start(N:List Str)(vs:List V):St:=vs.map vB++zx (N.length-vs.length) vC
noncomputable def Fw(CX:CXT)(P:xX)(w:xq)(K:PySem.W.Frag)(mg:Str->Option xY)(base:Heap)(N:List Str)(qual:Str)(scope:xV)(f:jT)(cd:xY)(A:jU)(outer:List Env)(s:xW)(H:Hp)(E:XK):Cx where
 prog:=P
 w:=w
 K:=K
 mg:=mg
 base:=base
 A:=A.deeper (envOfC qual scope s.heap.objs.size f cd)
 N:=N
 s₀:=s
 H₀:=H
 env:=envOfC qual scope s.heap.objs.size f cd
 outer:=outer
 stack:=envOfC qual scope s.heap.objs.size f cd::outer
 ex:=[]
 calm:=vD
 fn:=λ_=>vD
 pn:=[]
 xe:=λe s'=>vX (xS P w) (A.deeper (envOfC qual scope s.heap.objs.size f cd)) (leaving (envOfC qual scope s.heap.objs.size f cd) e) (λ_ s''=>CX outer H s E e s'') (λe' s''=>CX outer H s E e' s'') s'
theorem ZCz{sc:xV}{n:Nat}(h:sc.names.lookup x=vB .cell):∃c,(cellsFrom n sc.names []).lookup x=vB c:=by have q:=PySem.W.cellsFrom_some sc.names n [] (.inl h);exact jK.mp q
theorem ZOg{CX:CXT}{N ps:List Str}{qual:Str}{scope:xV}{f:jT}{cd:xY}{outer:List Env}{s1:xW}{E:XK} 
  (S:FnScope N ps scope) (hd:A.handled=vC) (e0:Env0 P w K mg base A outer s H) (hl:vs.length=ps.length) (r:Vals vs us)
  (x:InCallC s s.heap.objs.size (bindL (envOfC qual scope s.heap.objs.size f cd).kindOf (ps.zip us) λ_=>vC) (cellsFrom (s.heap.objs.size+1) scope.names []) (bindC (envOfC qual scope s.heap.objs.size f cd).kindOf (ps.zip us) λ_=>vC) s1):
  Inv (Fw CX P w K mg base N qual scope f cd A outer s H E) [] (start N vs) H s1:=by
 have hpl:ps.length<=N.length:=by have:=congrArg List.length S.pre;rw[j1]at this;lia
 obtain⟨h1,tk,rfl,hk⟩:=x.done
 have noA:∀b:jT,b∉(Fw CX P w K mg base N qual scope f cd A outer s H E).ex:=λb z=>absurd (show b∈([]:List jT)from z) (by simp)
 refine⟨⟨e0.mod,S.kind,rfl,rfl,zW _,λy z c h1 h2=>?_,λy hy=>?_,λy c _ h=>?_,λ_=>hd,Around.frames_deeper e0.frames,.inr ⟨rfl,rfl⟩,λb z=>absurd z (noA b),e0.bs,e0.bsz,λb _ _=>noA b,λb z=>absurd z (noA b),e0.funs,e0.frf⟩,
  rfl,e0.bare,Un.kept hk,⟨_,x.toInCall.ns,λi y v h1 h2 h3=>?_⟩,λy c h=>⟨_,x.cell y c h⟩,e0.hok.fresh (zW _),λy c h=>?_,λp hp=>absurd (show p∈([]:List (jT×Obj))from hp) (by simp),e0.hok.kept hk,?_⟩
 ·exact name_of_addr x.apart (PySem.mem_of_lookup h1) (PySem.mem_of_lookup h2)
 ·have hy:scope.names.lookup y=vB .cell∨scope.names.lookup y=vB .free:=hy;rcases hy with hy|hy
  ·exact ZCz hy
  ·exact absurd rfl (S.nofree _ (PySem.mem_of_lookup hy))
 ·exact Nat.le_of_lt (x.above y c (PySem.mem_of_lookup h))
 ·have hi:i<vs.length:=by
   unfold start at h2;by_cases hi:i<vs.length
   ·exact hi
   ·rw[zI (by simpa using hi)]at h2;rw[jZ]at h2
    split at h2<;>cases h2
  have ha:vs[i]?=vB v:=by
   unfold start at h2;rw[zL (by simpa using hi),zq]at h2;cases e:vs[i]? with
   |none=>rw[e]at h2;cases h2
   |some a=>rw[e]at h2;cases h2;rfl
  obtain⟨u,hu,rv⟩:=r.get ha;have hp:ps[i]?=vB y:=by rw[<-S.pre,jY (by lia)];exact h1
  have ndP:ps.Nodup:=by rw[<-S.pre];exact S.nd.sublist (List.take_sublist _ _)
  refine⟨u,rv,?_⟩;rcases S.par y (jO hp)with k|k
  ·exact .inl ⟨k,ZDu ndP hp hu k⟩
  ·obtain⟨c,e⟩:=ZCz (n:=s.heap.objs.size+1) k;refine .inr ⟨.inl k,c,e,?_⟩;have q:=x.cell y c e;rw[ZCe ndP hp hu (by show scope.names.lookup y≠_;rw[k];decide)]at q;exact q
 ·exact e0.hok.fresh (Nat.le_of_lt (x.above y c (PySem.mem_of_lookup h)))
 ·unfold start;show _=N.length;rw[zT,qJ,jD];lia
theorem Xe{CX:CXT}{f:jT}{name qual:Str}{params:Arguments}{scope:xV}{dV kV doc pm cdv ct oc:xY}{an od:Option jT}
  {osl:Array (Option xY)} {N ps:List Str} {sp:Sp} (lk:K.lookup f=vB ⟨oc,od,.func (PySem.W.fnOf name qual params body scope dV kV doc pm an cdv ct),osl⟩) (hcd:PySem.W.codeIn K cdv qual=vD) (S:FnScope N ps scope)
  (len:∀vs H Q E,sp vs H Q E->vs.length=ps.length)
  (hbody:∀(A:jU)(outer:List Env)(s:xW)(H:Hp)(vs:List V)(Q:VK)(E:XK),Room k (A.deeper (envOfC qual scope s.heap.objs.size f cdv))->sp vs H Q E->
   ∃t,PSs (Fw CX P w K mg base N qual scope f cdv A outer s H E) body t/\t {nx:=λ_ H'=>Q .non H',rt:=Q} (start N vs) H):
  FnOk P w K mg base CX (k+1) f (PySem.W.fnOf name qual params body scope dV kV doc pm an cdv ct) ps sp:=by
 refine⟨len,λA outer s H args us vs Q E hr e0 hb r hsp=>?_⟩;have hl:=len _ _ _ _ hsp;have KX:K.In s.heap:=e0.mod.kin.keeps λb o e=>(e0.bs b o e).1
 have lim:s.heap.NoLimit:=e0.mod.nolimit.keeps λb o e=>(e0.bs b o e).1
 have hkind:∀y∈ps.zip us,scope.names.lookup y.1=vB .local∨(scope.names.lookup y.1=vB .cell/\((cellsFrom (s.heap.objs.size+1) scope.names []).lookup y.1).isSome=vD):=λ⟨n,v⟩ hy=>by
  rcases S.par n (List.of_mem_zip hy).1 with q|q
  ·exact .inl q
  ·exact .inr ⟨q,PySem.W.cellsFrom_some _ _ _ (.inl q)⟩
 refine codeAny_call_function hr.depth (KX _ _ lk) rfl S.co S.gen rfl (PySem.W.codeRec_of KX hcd) (hb _ _ _ _ ?_);refine wpAny_newFunctionEnv_cells S.kind hkind λenv he s1 x=>?_
 subst he;refine⟨lim.keeps x.toInCall.keep,codeAny_func ?_⟩;obtain⟨t,ht,hq⟩:=hbody A outer s H vs Q E (hr.deeper _) hsp;have I:Inv (Fw CX P w K mg base N qual scope f cdv A outer s H E) [] (start N vs) H s1:=ZOg S hr.hd e0 hl r x;refine vj (ht [] s1 (start N vs) H _ I hq) (λfl s' hs=>?_) λe s' hs=>hs
 have fin:∀{σ':St}{H':Hp}{v:V}{u:xY},Inv (Fw CX P w K mg base N qual scope f cdv A outer s H E) [] σ' H' s'->RelV v u->Q v H'->CE outer P w H s Q u s':=
  λ{σ' H' v u}J rv q=>⟨v,H',J.os,J.bare,J.base,J.hok,rv,q⟩
 cases fl with
 |ret u=>
  obtain⟨v,σ',H',J,rv,q⟩:=hs;exact fin J rv q
 |next=>
  obtain⟨σ',H',J,q⟩:=hs;exact fin (v:=V.non) (u:=Value.none) J rfl q
 |brk=>
  obtain⟨_,_,_,q⟩:=hs;exact False.elim q
 |cont=>
  obtain⟨_,_,_,q⟩:=hs;exact False.elim q
section
variable{X:Cx}{x:Str}{p pos:Pos}{e:xQ}{es:List xQ}{t:TA}{id T:String}{r:List V->Hp->VK->Prop}
noncomputable def tCB(r:List V->Hp->VK->Prop)(t:TA):TE:=λσ H Q=>t σ H λvs H1=>r vs H1 Q
theorem ZKF(hc:CallR X (.builtin id) r)(hg:Gl X x)(hm:X.mg x=vC)(hv:xA x=vB (.builtin id))(ha:PA X (e::es) t)(hn:x≠"__name__":=by decide)(hdb:(x==("__debug__":Str))=vE:=by decide)
  (he:vZ (e::es) X.env=(vE,eval e X.env)::vZ es X.env:=by rfl) (hpl:(xk pos (vZ es X.env)).any (·.1)=vE:=by rfl):PE X (.Call (.Name x p) (e::es) [] pos) (tCB r t):=by
 intro vA s σ H Q I h;refine vV (Ht I hg hm hv ?_ hn hdb);exact PyProof.Rows.callWith_builtin1 (thn (ha pos vA s σ H _ I h) λus s1 ⟨vs,H1,I1,r1,q1⟩=>hc vA s1 σ H1 vs us Q I1 r1 q1) he hpl
theorem ZLP(hc:CallR X (.type T) r)(hg:Gl X x)(hm:X.mg x=vC)(hv:xA x=vB (.type T))(ha:PA X (e::es) t)(hn:x≠"__name__":=by decide)(hdb:(x==("__debug__":Str))=vE:=by decide)
  (he:vZ (e::es) X.env=(vE,eval e X.env)::vZ es X.env:=by rfl) (hpl:(xk pos (vZ es X.env)).any (·.1)=vE:=by rfl):PE X (.Call (.Name x p) (e::es) [] pos) (tCB r t):=by
 intro vA s σ H Q I h;refine vV (Ht I hg hm hv ?_ hn hdb);exact PyProof.Rows.callWith_type1 (thn (ha pos vA s σ H _ I h) λus s1 ⟨vs,H1,I1,r1,q1⟩=>hc vA s1 σ H1 vs us Q I1 r1 q1) he hpl
end
end _L
namespace HT
open PySem PyProof.Rows
section
open PySem.SeqAt
open PySem.AutoSeq1 (wpAny_loadPart')
open PySem.MeetsSeq PySem.MeetsSeq2 PySem.MeetsSeq3
end
section
variable{prog:xX}{w:xq}{A:jU}{E:xY->xW->Prop}{s:xW}
theorem ZNq{t b:jT}{vs ws:List xY}{Q:xY->xW->Prop}(ht:IsTup s.heap t vs.toArray)(hb:IsTup s.heap b ws.toArray)(hv:vs≠[])
  (h1:ws=[]->Q (.ref t) s) (h2:ws≠[]->Q (.ref s.heap.objs.size) {s with heap:=s.heap.push {cls:=.type "tuple",data:=.seq (vs++ws).toArray}})
  (hsz:vs.length+ws.length<=sizeLine):vX (xS prog w) A (x9 .Add (.ref t) (.ref b)) Q E s:=by
 obtain⟨⟨cls,dd,data,sl⟩,ho,hc,n,hd⟩:=id ht;obtain⟨⟨cls2,dd2,data2,sl2⟩,ho2,hc2,n2,hd2⟩:=id hb;simp only at hc hd hc2 hd2;subst hc hd hc2 hd2;have e:vs.toArray++ws.toArray=(vs++ws).toArray:=by simp
 by_cases hw:ws=[]
 ·exact concat_meets ⟨_,ho,rfl⟩ ⟨_,ho2,rfl⟩ noFill_tuple_add seq_tuple_add PySem.F.slot_tuple_add PySem.F.entry_tuple_add (PySem.F.args_tuple_add_2 _ _)
   (tuple_addW1 t b vs.toArray ws.toArray n n2 dd dd2 sl sl2 (by simpa using hv) (by simp[hw])) ⟨ho,ho2,h1 hw⟩
 ·refine concat_meets ⟨_,ho,rfl⟩ ⟨_,ho2,rfl⟩ noFill_tuple_add seq_tuple_add PySem.F.slot_tuple_add PySem.F.entry_tuple_add (PySem.F.args_tuple_add_2 _ _)
   (tuple_addW2 t b vs.toArray ws.toArray n n2 dd dd2 sl sl2 (by simpa using hv) (by simpa using hw) (by rw[zK,zK];exact hsz)) ⟨ho,ho2,?_⟩
  rw[e];exact h2 hw
noncomputable def sIx(n d:Nat):Option Int->Nat
 |none=>d
 |some v=>if v<0 then(v+(n:Int)).toNat else min v.toNat n
theorem ZCr(n d:Nat)(hd:d<=n)(o:Option Int):sIx n d o<=n:=by
 cases o with
 |none=>exact hd
 |some v=>
  show(if v<0 then(v+(n:Int)).toNat else min v.toNat n)<=n;by_cases hv:v<0
  ·rw[if_pos hv];lia
  ·rw[if_neg hv];exact Nat.min_le_right _ _
theorem ZC8(v:Int)(n d:Nat):(if v<0 then max (v+(n:Int)) 0 else min v (n:Int))=((sIx n d (vB v):Nat):Int):=by
 show(if v<0 then max (v+(n:Int)) 0 else min v (n:Int))=(((if v<0 then(v+(n:Int)).toNat else min v.toNat n):Nat):Int);by_cases hv:v<0
 ·simp only[if_pos hv];lia
 ·simp only[if_neg hv];lia
theorem ZG4(lo hi:Option Int)(n:Nat):Builtin.Slice.sliceAdjust lo hi 1 (n:Int)=(((sIx n 0 lo:Nat):Int),((sIx n n hi:Nat):Int)):=by
 have h1:¬((1:Int)<0):=by lia
 unfold Builtin.Slice.sliceAdjust;simp only[h1,if_false];refine Prod.ext ?_ ?_
 ·cases lo with
  |none=>rfl
  |some v=>exact ZC8 v n 0
 ·cases hi with
  |none=>rfl
  |some v=>exact ZC8 v n n
theorem ZGi(i j:Nat):Builtin.Slice.slicePlaces (i:Int) (j:Int) 1=j-i:=by
 unfold Builtin.Slice.slicePlaces;have h1:(1:Int)>0:=by lia
 simp only[h1,if_true,Int.ediv_one]
 split <;> lia
theorem ZFj{v:xY}{o:Option Int}{Q:Option Int->xW->Prop}(p:IsPart v o)(h:Q o s):vX (xS prog w) A (Builtin.Slice.slicePartIndex v) Q E s:=by
 cases p with
 |none=>exact slicePart_none h
 |int i t=>exact slicePart_int h
theorem ZDa{sl:jT}{vl vu:xY}{lo hi:Option Int}{n:Nat}{Q:Int×Int×Nat->xW->Prop}(hs:s.heap.IsSliceOf sl vl vu .none)(pl:IsPart vl lo)(pu:IsPart vu hi)
  (h:Q (((sIx n 0 lo:Nat):Int),1,sIx n n hi-sIx n 0 lo) s):vX (xS prog w) A (Builtin.Slice.sliceApplied (.ref sl) (pure (n:Int))) Q E s:=by
 obtain⟨os,hos,hcs,hds⟩:=id hs;unfold Builtin.Slice.sliceApplied Builtin.Slice.sliceFields;refine vW (vW (vq hos hds (x:=vl) rfl (vW (vq hos hds (x:=vu) rfl (vW (vq hos hds (x:=.none) rfl (v4 ?_)))))));refine vW (slicePart_none ?_);show vX _ _ (if((1:Int)==0)=vD then _ else _) _ _ s;rw[if_neg (by decide)];refine vW (ZFj pl (vW (ZFj pu (vW (v4 ?_)))))
 show vX _ _ (match Builtin.Slice.sliceAdjust lo hi 1 (n:Int)with |(lo,hi)=>pure (lo,(1:Int),Builtin.Slice.slicePlaces lo hi 1)) _ _ s
 rw[ZG4 lo hi n];show vX _ _ (pure (((sIx n 0 lo:Nat):Int),(1:Int),Builtin.Slice.slicePlaces ((sIx n 0 lo:Nat):Int) ((sIx n n hi:Nat):Int) 1)) _ _ s;rw[ZGi];exact v4 h
theorem ZNC(xs:Array xY)(i k:Nat):((zk k).filterMap λ(m:Nat)=>xs[((i:Int)+(m:Int)*1).toNat]?).toArray=((xs.toList.drop i).take k).toArray:=by
 have e:(λ(m:Nat)=>xs[((i:Int)+(m:Int)*1).toNat]?)=λm=>xs[i+m]? :=by
  funext m;have:((i:Int)+(m:Int)*1).toNat=i+m:=by lia
  rw[this]
 rw[e];have:=pick_run xs i k;rw[qq]at this;have e2:((λx=>xs[x]?) ∘ λx=>i+x)=λm=>xs[i+m]? :=rfl
 rw[e2]at this;rw[this]
theorem ZHo{t sl:jT}{items:Array xY}{vl vu:xY}{lo hi:Option Int}{Q:xY->xW->Prop}(ht:IsTup s.heap t items)(hs:s.heap.IsSliceOf sl vl vu .none)(pl:IsPart vl lo)(pu:IsPart vu hi)
  (hw:¬(sIx items.size 0 lo=0/\sIx items.size items.size hi=items.size))
  (h:Q (.ref s.heap.objs.size) {s with heap:=s.heap.push {cls:=.type "tuple",data:=.seq ((items.toList.drop (sIx items.size 0 lo)).take (sIx items.size items.size hi-sIx items.size 0 lo)).toArray}})
  (hsz:items.size<=sizeLine):vX (xS prog w) A (getItem (.ref t) (.ref sl)) Q E s:=by
 have htake:sizeOk (.seq ((items.toList.drop (sIx items.size 0 lo)).take (sIx items.size items.size hi-sIx items.size 0 lo)).toArray):=by show((items.toList.drop (sIx items.size 0 lo)).take (sIx items.size items.size hi-sIx items.size 0 lo)).toArray.size<=sizeLine;rw[zK,j1,jE,qD];lia
 have hj:sIx items.size items.size hi<=items.size:=ZCr _ _ (zW _) hi;obtain⟨os,hos,hcs,hds⟩:=id hs;have hTs:s.TypeIs (.ref sl) "slice":=⟨os,hos,hcs⟩;unfold getItem
 try with_reducible refine vz ?_
 first|refine vW (v4 ?_)|skip
 refine vW (wpAny_sequenceKey ht.typeIs (by decide) ?_);refine vW (vK (name:=Str.ofString "__getitem__") ht.typeIs PyProof.Rows.slot_tuple_getitem
  (vY PyProof.Rows.slot_tuple_getitem ht.typeIs entry_tuple_getitem ?_ (args_tuple_getitem _ _)))
 show vX _ _ (Builtin.Tuple.tupleItemsOf (.ref t) >>=_) _ _ s;refine vW (tupleItemsOf_ ht ?_);refine vW (wpAny_typeOf hTs ?_);rw[if_pos (by decide)];refine vW (ZDa hs pl pu ?_);have hno:¬((((sIx items.size 0 lo:Nat):Int)==0&&(1:Int)==1&&(sIx items.size items.size hi-sIx items.size 0 lo)==items.size)=vD):=by intro q;rw[zB,zB]at q;have q1:((sIx items.size 0 lo:Nat):Int)=0:=eq_of_beq q.1.1;have q2:sIx items.size items.size hi-sIx items.size 0 lo=items.size:=eq_of_beq q.2;exact hw ⟨by lia,by lia⟩
 show vX _ _ (if(((sIx items.size 0 lo:Nat):Int)==0&&(1:Int)==1&&(sIx items.size items.size hi-sIx items.size 0 lo)==items.size)=vD then _ else _) _ _ s;rw[if_neg hno,ZNC]
 first
  |exact vW (m:=Builtin.Tuple.tupleExact _) (vx (v4 ⟨_,rfl,v4 h⟩) htake)
  |exact vW (m:=Builtin.Tuple.tupleExact _) (vx (vW (v4 (v4 ⟨_,rfl,v4 h⟩))) htake)
  |exact vW (vW (m:=Builtin.Tuple.tupleExact _) (vx (v4 (v4 ⟨_,rfl,v4 h⟩)) htake))
  |exact vW (vW (m:=Builtin.Tuple.tupleExact _) (vx (v4 ⟨_,rfl,v4 h⟩) htake))
end
end HT
namespace _L
open PySem PySem.Spec PyProof.Rows
variable{xs:List V}{vA:List (jT×Obj)}{σ:St}{H:Hp}{s:xW}{its:List xY}
noncomputable abbrev TO:=St->Hp->(Option Int->Hp->Prop)->Prop
def PO(X:Cx)(e:Option xQ)(t:TO):Prop:=
 ∀(vA:List (jT×Obj))(s:xW)(σ:St)(H:Hp)(Q:Option Int->Hp->Prop),Inv X vA σ H s->t σ H Q->
  vX (xS X.prog X.w) X.A (evalPart e X.env) (λu s'=>∃o H',Inv X vA σ H' s'/\IsPart u o/\Q o H') X.xe s
noncomputable def ZOp:TO:=λ_ H Q=>Q vC H
noncomputable def ZNd(t:TE):TO:=λσ H Q=>t σ H λx H1=>∃i,x=.int i/\Q (vB i) H1
section
variable{X:Cx}{e:xQ}{te:TE}{lo hi:Option xQ}{tl th:TO}{pos p2:Pos}
theorem ZJY:PO X vC ZOp:=by intro vA s σ H Q I h;rw[evalPart_none];exact v4 ⟨vC,H,I,.none,h⟩
theorem ZMJ(h:PE X e te):PO X (vB e) (ZNd te):=by
 intro vA s σ H Q I hw;rw[evalPart_some];refine thn (h vA s σ H _ I hw) λu s1 ⟨x,H1,I1,r1,q1⟩=>?_
 obtain⟨i,rfl,q⟩:=q1;obtain⟨t,rfl⟩:=r1;exact⟨vB i,H1,I1,.int i t,q⟩
def SlR(X:Cx)(r:V->Option Int->Option Int->Hp->VK->Prop):Prop:=
 ∀(vA:List (jT×Obj))(s:xW)(σ:St)(H:Hp)(x:V)(v vl vu:xY)(lo hi:Option Int)(sl:jT)(Q:VK),Inv X vA σ H s->RelV x v->s.heap.IsSliceOf sl vl vu .none->IsPart vl lo->IsPart vu hi->r x lo hi H Q->
  ∃T id,typeLookup (.type T) "__getitem__"=pure (vB (.builtin id))/\s.TypeIs v T/\vX (xS X.prog X.w) X.A (getItem v (.ref sl)) (EP X vA σ Q) X.xe s
theorem SlR.or{r r':V->Option Int->Option Int->Hp->VK->Prop}(h:SlR X r)(h':SlR X r'):SlR X (λx lo hi H Q=>r x lo hi H Q∨r' x lo hi H Q):=by
 intro vA s σ H x v vl vu lo hi sl Q I rx hs pl pu q;rcases q with q|q
 ·exact h vA s σ H x v vl vu lo hi sl Q I rx hs pl pu q
 ·exact h' vA s σ H x v vl vu lo hi sl Q I rx hs pl pu q
noncomputable def tSl(r:V->Option Int->Option Int->Hp->VK->Prop)(te:TE)(tl th:TO):TE:=λσ H Q=>te σ H λx H1=>tl σ H1 λl H2=>th σ H2 λu H3=>r x l u H3 Q
theorem ZOc{r:V->Option Int->Option Int->Hp->VK->Prop}(hr:SlR X r)(he:PE X e te)(hl:PO X lo tl)(hu:PO X hi th):PE X (.Subscript e (.Slice lo hi vC p2) pos) (tSl r te tl th):=by
 intro vA s σ H Q I h;refine Subscript_ (thn (he vA s σ H _ I h) λv s1 ⟨x,H1,I1,r1,q1⟩=>?_);refine wpAny_Slice (thn (hl vA s1 σ H1 _ I1 q1) λvl s2 ⟨l,H2,I2,pl,q2⟩=>thn (hu vA s2 σ H2 _ I2 q2) λvu s3 ⟨u,H3,I3,pu,q3⟩=>?_);rw[evalPart_none];refine v4 ?_;have I4:Inv X vA σ H3 {s3 with heap:=s3.heap.push {cls:=.type "slice",data:=.fields #[vl,vu,.none]}}:=I3.kept (t':=s3.toks) λb ob q=>zQ _ q
 obtain⟨T,id,hT,ht,hg⟩:=hr vA {s3 with heap:=s3.heap.push {cls:=.type "slice",data:=.fields #[vl,vu,.none]}} σ H3 x v vl vu l u s3.heap.objs.size Q I4 r1 (Heap.IsSliceOf.new ..) pl pu q3;show vX (xS X.prog X.w) X.A (subscriptTail e (.Slice lo hi vC p2) v (.ref s3.heap.objs.size)) (EP X vA σ Q) X.xe {s3 with heap:=s3.heap.push {cls:=.type "slice",data:=.fields #[vl,vu,.none]}}
 exact tail_any (ops:=[.ref s3.heap.objs.size,v]) ht hT hg (by with_unfolding_all rfl)
def Js(xs:List V)(lo hi:Option Int):List V:=(xs.drop (HT.sIx xs.length 0 lo)).take (HT.sIx xs.length xs.length hi-HT.sIx xs.length 0 lo)
theorem ZC3(xs:List V)(lo hi:Option Int):(Js xs lo hi).length<=xs.length:=by unfold Js;rw[j1,jE];lia
def rSlT(K:PySem.W.Frag):V->Option Int->Option Int->Hp->VK->Prop:=λx lo hi H Q=>∃a xs,x=.ref a/\SqT K H a xs/\
 ¬(HT.sIx xs.length 0 lo=0/\HT.sIx xs.length xs.length hi=xs.length)/\∀p,H p=vC->Q (.ref p) (upd H p (.tup (Js xs lo hi)))
theorem ZIY:SlR X (rSlT X.K):=by
 intro vA s σ H x v vl vu lo hi sl Q I rx hs pl pu h;obtain⟨a,xs,rfl,hx,hw,q⟩:=h;cases rx;obtain⟨its,r,ht,hz⟩:=I.tuple hx;have hlen:its.toArray.size=xs.length:=by rw[zK];exact r.length.symm
 refine⟨"tuple",_,PyProof.Rows.slot_tuple_getitem.lookup,ht.typeIs,?_⟩;refine HT.ZHo ht hs pl pu (by rw[hlen];exact hw) ?_ (by rw[hlen];exact hz);rw[hlen];refine⟨.ref s.heap.objs.size,_,I.laid (t':=s.toks) (o:=.tup (Js xs lo hi)) (λb ob q=>zQ _ q) (zW _) ?_,rfl,q _ (I.hok.fresh (zW _))⟩;exact⟨zC (ZC3 xs lo hi) hz,_,(r.drop (HT.sIx xs.length 0 lo)).take (HT.sIx xs.length xs.length hi-HT.sIx xs.length 0 lo),IsTup.new _ _⟩
def ZF1(K:PySem.W.Frag):R2:=λx y H Q=>∃a b xs ys,x=.ref a/\y=.ref b/\SqT K H a xs/\SqT K H b ys/\xs≠[]/\xs.length+ys.length<=sizeLine/\
 (ys=[]->Q (.ref a) H)/\(ys≠[]->∀p,H p=vC->Q (.ref p) (upd H p (.tup (xs++ys))))
theorem Vals.ZBF{us:List xY}(r:Vals xs us):us=[]↔xs=[]:=by
 cases r with
 |nil=>simp
 |cons _ _=>simp
theorem ZN2:OpR X (x9 .Add) (ZF1 X.K):=by
 intro vA s σ H x y v u Q I rx ry h;obtain⟨a,b,xs,ys,rfl,rfl,ha,hb,hx,hz,q1,q2⟩:=h;cases rx;cases ry;obtain⟨its,r1,p1,_⟩:=I.tuple ha;obtain⟨its2,r2,p2,_⟩:=I.tuple hb;refine HT.ZNq p1 p2 (λz=>hx (r1.ZBF.mp z)) (λz=>⟨.ref a,H,I,rfl,q1 (r2.ZBF.mp z)⟩) (λz=>?_) (by rw[<-r1.length,<-r2.length];exact hz);refine⟨.ref s.heap.objs.size,_,I.laid (t':=s.toks) (o:=.tup (xs++ys)) (λb ob q=>zQ _ q) (zW _) ?_,rfl,q2 (λw=>z (r2.ZBF.mpr w)) _ (I.hok.fresh (zW _))⟩
 exact⟨by rw[zT];exact hz,_,r1.append r2,IsTup.new _ _⟩
end
noncomputable def ixN(n:Nat)(i:Int):Option Nat:=if 0<=i then(if i<n then vB i.toNat else vC)else if -(n:Int)<=i then vB (i+n).toNat else vC
def atI{α:Type}(xs:List α)(i:Int):Option α:=(ixN xs.length i).bind λj=>xs[j]?
theorem ZFf{n:Nat}{i:Int}{j:Nat}(h:ixN n i=vB j):seqIndex? i n=vB j/\j<n/\ -(n:Int)<=i/\i<n:=by
 unfold ixN at h;by_cases h0:0<=i
 ·rw[if_pos h0]at h;by_cases h1:i<n
  ·rw[if_pos h1]at h;have e:i.toNat=j:=Option.some.inj h;exact⟨by rw[seqIndex_of h0 h1,e],by lia,by lia,h1⟩
  ·rw[if_neg h1]at h;cases h
 ·rw[if_neg h0]at h;by_cases h1: -(n:Int)<=i
  ·rw[if_pos h1]at h;have e:(i+n).toNat=j:=Option.some.inj h;exact⟨by rw[seqIndex_neg (by lia) h1,e],by lia,h1,by lia⟩
  ·rw[if_neg h1]at h;cases h
theorem Uu{α:Type}{xs:List α}{i:Int}{v:α}(h:atI xs i=vB v):∃j,seqIndex? i xs.length=vB j/\xs[j]?=vB v/\j<xs.length/\ -(xs.length:Int)<=i/\i<xs.length:=by
 unfold atI at h;cases e:ixN xs.length i with
 |none=>rw[e]at h;cases h
 |some j=>
  rw[e]at h;obtain⟨h1,h2,h3,h4⟩:=ZFf e;exact⟨j,h1,h,h2,h3,h4⟩
def PlainIx(b:xQ):Prop:=∀o i,subscripted b vE o i=operate [o,i] (getItem o i)
def IxR(X:Cx)(r:R2):Prop:=
 ∀(value slice:xQ)(vA:List (jT×Obj))(s:xW)(σ:St)(H:Hp)(x y:V)(v u:xY)(Q:VK),Inv X vA σ H s->RelV x v->RelV y u->r x y H Q->
  subscripted slice vE v u=operate [v,u] (getItem v u)->vX (xS X.prog X.w) X.A (subscriptTail value slice v u) (EP X vA σ Q) X.xe s
def MtR(X:Cx)(id:String)(r:V->List V->Hp->VK->Prop):Prop:=
 ∀(vA:List (jT×Obj))(s:xW)(σ:St)(H:Hp)(x:V)(xs:List V)(v:xY)(us:List xY)(Q:VK),Inv X vA σ H s->RelV x v->Vals xs us->r x xs H Q->
  vX (xS X.prog X.w) X.A (call (.builtin id) (v::us)) (EP X vA σ Q) X.xe s
section
variable{X:Cx}{a b:xQ}{ta tb:TE}{pos:Pos}
theorem IxR.or{r r':R2}(h:IxR X r)(h':IxR X r'):IxR X (λx y H Q=>r x y H Q∨r' x y H Q):=by
 intro value slice vA s σ H x y v u Q I rx ry q hs;rcases q with q|q
 ·exact h value slice vA s σ H x y v u Q I rx ry q hs
 ·exact h' value slice vA s σ H x y v u Q I rx ry q hs
theorem ZOj{r:R2}(hr:IxR X r)(ha:PE X a ta)(hb:PE X b tb)(hs:PlainIx b):PE X (.Subscript a b pos) (tOp r ta tb):=by intro vA s σ H Q I h;exact Subscript_ (Wq ha hb I h λv u s2 x y H2 I2 rx ry q=>hr a b vA s2 σ H2 x y v u Q I2 rx ry q (hs _ _))
def rIxL(K:PySem.W.Frag):R2:=λx y H Q=>∃p xs i v,x=.ref p/\y=.int i/\SqL K H p xs/\atI xs i=vB v/\Q v H
def rIxT(K:PySem.W.Frag):R2:=λx y H Q=>∃p xs i v,x=.ref p/\y=.int i/\SqT K H p xs/\atI xs i=vB v/\Q v H
def rIxS:R2:=λx y H Q=>∃z i c,x=.str z/\y=.int i/\z.length<=sizeLine/\atI z.cps.toList i=vB c/\Q (.str ⟨#[c]⟩) H
theorem ZLH:IxR X (rIxL X.K):=by
 intro value slice vA s σ H x y v u Q I rx ry h hs;obtain⟨p,xs,i,z,rfl,rfl,hq,he,q⟩:=h;cases rx;obtain⟨t,rfl⟩:=ry;obtain⟨its,r,pl,hz⟩:=I.list hq;obtain⟨j,h1,h2,h3,h4,h5⟩:=Uu he;obtain⟨w,ew,rw'⟩:=r.get h2;have hl:=r.length;have hn:=line63;have fin:EP X vA σ Q w s:=⟨z,H,I,rw',q⟩;by_cases h0:0<=i
 ·have hj:i.toNat=j:=by rw[seqIndex_of h0 h5]at h1;exact Option.some.inj h1
  exact item_listR pl.isList h0 (by lia) (by rw[hj];simpa using ew) fin hs
 ·have hj:(i+(its.toArray.size:Int)).toNat=j:=by rw[seqIndex_neg (by lia) h4]at h1;rw[zK,<-hl];exact Option.some.inj h1
  exact subscriptTail_builtinR (x:=w) pl.isList.typeIs slot_list_getitem.lookup
   (wpAny_getItem_list_neg (Q:=λr s'=>r=w/\EP X vA σ Q r s') pl.isList (by lia) (by rw[zK]<;>lia) (by lia) (by rw[hj];simpa using ew) ⟨rfl,fin⟩) hs
theorem ZGv:IxR X (rIxT X.K):=by
 intro value slice vA s σ H x y v u Q I rx ry h hs;obtain⟨p,xs,i,z,rfl,rfl,hq,he,q⟩:=h;cases rx;obtain⟨t,rfl⟩:=ry;obtain⟨its,r,pl,hz⟩:=I.tuple hq;obtain⟨j,h1,h2,h3,h4,h5⟩:=Uu he;obtain⟨w,ew,rw'⟩:=r.get h2;have hl:=r.length;have hn:=line63;have fin:EP X vA σ Q w s:=⟨z,H,I,rw',q⟩;exact subscriptTail_builtinR (x:=w) pl.typeIs slot_tuple_getitem.lookup
  (getItem_tuple (j:=j) (Q:=λr s'=>r=w/\EP X vA σ Q r s') pl (by lia) (by lia) (by rw[zK,<-hl];exact h1) (by simpa using ew) ⟨rfl,fin⟩) hs
theorem ZKX:IxR X rIxS:=by
 intro value slice vA s σ H x y v u Q I rx ry h hs;obtain⟨z,i,c,rfl,rfl,hz,he,q⟩:=h;obtain⟨t,rfl⟩:=rx;obtain⟨t',rfl⟩:=ry;obtain⟨j,h1,h2,h3,h4,h5⟩:=Uu he;have hl:z.cps.toList.length=z.length:=by simp[Str.length]
 rw[hl]at h1 h4 h5;have hn:=line63;exact tail_any (typeIs_str s z t) slot_str_getitem.lookup (getItem_str (c:=c) (by have e1:decide (i < -(2^63:Int))=vE:=decide_eq_false (by lia);have e2:decide (i ≥ 2^63)=vE:=decide_eq_false (by lia);rw[e1,e2,Bool.or_false]) (by rw[h1];simpa using h2) ⟨.str ⟨#[c]⟩,H,I.tok _,⟨_,rfl⟩,q⟩) hs
def rIx(K:PySem.W.Frag):R2:=λx y H Q=>rIxL K x y H Q∨rIxT K x y H Q∨rIxS x y H Q
theorem ZKI:IxR X (rIx X.K):=ZLH.or (ZGv.or ZKX)
theorem ZL9(its:List xY)(n j:Nat)(u:xY):Obj.mapSeq (·.setIfInBounds j u) {cls:=.type "list",data:=.seq its.toArray n}={cls:=.type "list",data:=.seq (its.set j u).toArray n}:=by simp[Obj.mapSeq]
theorem Inv.lst{p:jT}(I:Inv X vA σ H s)(h:H p=vB (.lst xs)):
  ∃(its:List xY)(n:Nat),Vals xs its/\s.heap.get? p=vB {cls:=.type "list",data:=.seq its.toArray n}/\xs.length<=sizeLine:=by
 obtain⟨z,its,n,r,e⟩:=I.hok p _ h;exact⟨its,n,r,e,z⟩
theorem Inv.ZJ1{p:jT}{ys:List V}{its':List xY}{n n':Nat}{f:Obj->Obj}(I:Inv X vA σ H s)(h:H p=vB (.lst xs))
  (ho:s.heap.get? p=vB {cls:=.type "list",data:=.seq its.toArray n}) (hf:f {cls:=.type "list",data:=.seq its.toArray n}={cls:=.type "list",data:=.seq its'.toArray n'}) (r:Vals ys its') (hz:ys.length<=sizeLine) (t:Nat):
  Inv X vA σ (upd H p (.lst ys)) {s with heap:=s.heap.update p f,toks:=t}:=by
 have e:(s.heap.update p f).get? p=vB {cls:=.type "list",data:=.seq its'.toArray n'}:=by rw[qj f ho (by rw[hf]<;>rfl),hf]
 refine I.write (x:=p) (e:=p) (by rw[h];trivial) (.inl rfl) (λb u hb q=>(qk _ _ (Ne.symm hb)).trans q) ⟨_,e⟩ ?_;exact⟨hz,its',n',r,e⟩
def ZG7:V->V->V->Hp->(Hp->Prop)->Prop:=λo i v H Q=>∃p xs k j,o=.ref p/\i=.int k/\H p=vB (.lst xs)/\ixN xs.length k=vB j/\Q (upd H p (.lst (xs.set j v)))
theorem set_list:PSet X ZG7:=by
 intro vA s σ H o i v ov iv u Q I ro ri rv h;obtain⟨p,xs,k,j,rfl,rfl,hp,hj,q⟩:=h;cases ro;obtain⟨t,rfl⟩:=ri;obtain⟨its,n,r,ho,hz⟩:=I.lst hp;obtain⟨h1,h2,h3,h4⟩:=ZFf hj;have hl:=r.length;have hn:=line63
 have I':Inv X vA σ (upd H p (.lst (xs.set j v))) {s with heap:=s.heap.update p (Obj.mapSeq (·.setIfInBounds j u))}:=
  I.ZJ1 hp ho (ZL9 its n j u) (r.set rv j) (by rw[jz];exact hz) s.toks
 by_cases h0:0<=k
 ·have hk:k.toNat=j:=by rw[seqIndex_of h0 h4]at h1;exact Option.some.inj h1
  exact PySem.W.ki_setAt ho h0 (by lia) (by rw[zK,<-hl];exact h4) (by rw[hk];exact⟨_,I',q⟩)
 ·have hk:(k+(its.toArray.size:Int)).toNat=j:=by rw[seqIndex_neg (by lia) h3]at h1;rw[zK,<-hl];exact Option.some.inj h1
  exact PySem.W.ki_setBack ho (by lia) (by rw[zK,<-hl];exact h3) (by lia) (by rw[hk];exact⟨_,I',q⟩)
theorem ZHT(lo hi:Option Int)(n:Nat):(vQ lo hi vC n).1=((HT.sIx n 0 lo:Nat):Int)/\(vQ lo hi vC n).2.1=((HT.sIx n n hi:Nat):Int)/\(vQ lo hi vC n).2.2=1:=by
 refine⟨?_,?_,rfl⟩
 ·cases lo with
  |none=>simp[vQ,HT.sIx]
  |some i=>
   simp only[vQ,HT.sIx,Option.getD_none,show(1:Int)>0 by decide,if_true];by_cases h:i<0
   ·simp only[h,if_true]<;>lia
   ·simp only[h,if_false]<;>lia
 ·cases hi with
  |none=>simp[vQ,HT.sIx]
  |some i=>
   simp only[vQ,HT.sIx,Option.getD_none,show(1:Int)>0 by decide,if_true];by_cases h:i<0
   ·simp only[h,if_true]<;>lia
   ·simp only[h,if_false]<;>lia
theorem ZIx(its:List xY)(lo hi:Option Int):slicePick its.toArray lo hi vC=((its.drop (HT.sIx its.length 0 lo)).take (HT.sIx its.length its.length hi-HT.sIx its.length 0 lo)).toArray:=by
 obtain⟨h1,h2,h3⟩:=ZHT lo hi its.toArray.size;unfold slicePick;rw[h1,h2,h3]
 simp only[sliceRange_one,pick_run,zK]<;>rfl
def rSlL(K:PySem.W.Frag):V->Option Int->Option Int->Hp->VK->Prop:=λx lo hi H Q=>∃a xs,x=.ref a/\SqL K H a xs/\∀p,H p=vC->Q (.ref p) (upd H p (.lst (Js xs lo hi)))
theorem ZJG:SlR X (rSlL X.K):=by
 intro vA s σ H x v vl vu lo hi sl Q I rx hs pl pu h;obtain⟨a,xs,rfl,hx,q⟩:=h;cases rx;obtain⟨its,r,ht,hz⟩:=I.list hx;have hlen:=r.length;refine⟨"list",_,slot_list_getitem.lookup,ht.isList.typeIs,?_⟩
 refine wpAny_getItem_list_slice ht.isList hs pl pu .none (by simp) ?_ (by rw[zK]<;>lia)
 rw[ZIx,<-hlen];refine⟨.ref s.heap.objs.size,_,I.laid (t':=s.toks) (o:=.lst (Js xs lo hi)) (λb ob q=>zQ _ q) (zW _) ?_,rfl,q _ (I.hok.fresh (zW _))⟩;exact⟨zC (ZC3 xs lo hi) hz,_,0,(r.drop (HT.sIx xs.length 0 lo)).take (HT.sIx xs.length xs.length hi-HT.sIx xs.length 0 lo),zy _ rfl⟩
noncomputable def Iv:V->Bool
 |.non=>vD
 |.bl _=>vD
 |.int _=>vD
 |.str _=>vD
 |_=>vE
noncomputable def eqV:V->V->Bool
 |.non,.non=>vD
 |.bl a,.bl b=>a==b
 |.bl a,.int b=>(if a then 1 else 0)==b
 |.int a,.bl b=>a==(if b then 1 else 0)
 |.int a,.int b=>a==b
 |.str a,.str b=>a==b
 |_,_=>vE
theorem ZK0{A:jU}{y x:V}{u v:xY}(ry:RelV y u)(rx:RelV x v)(fy:Iv y=vD)(fx:Iv x=vD):SeqAt.EqAt A s u v (eqV y x):=by
 cases y with
 |non=>
  cases ry;cases x with
  |non=>cases rx;exact SeqAt.EqAt.same _
  |bl b=>cases rx;exact SeqAt.EqAt.none_bool b
  |int b=>obtain⟨t,rfl⟩:=rx;exact SeqAt.EqAt.none_int b t
  |str b=>obtain⟨t,rfl⟩:=rx;exact SeqAt.EqAt.none_str b t
  |_=>exact absurd (show vE=vD from fx) z9
 |bl a=>
  cases ry;cases x with
  |non=>cases rx;exact SeqAt.EqAt.bool_none a
  |bl b=>cases rx;exact SeqAt.EqAt.bool_bool a b
  |int b=>obtain⟨t,rfl⟩:=rx;exact SeqAt.EqAt.bool_int a b t
  |str b=>obtain⟨t,rfl⟩:=rx;exact SeqAt.EqAt.bool_str a b t
  |_=>exact absurd (show vE=vD from fx) z9
 |int a=>
  obtain⟨t',rfl⟩:=ry;cases x with
  |non=>cases rx;exact SeqAt.EqAt.int_none a t'
  |bl b=>cases rx;exact SeqAt.EqAt.int_bool a t' b
  |int b=>obtain⟨t,rfl⟩:=rx;exact SeqAt.EqAt.int_int a t' b t
  |str b=>obtain⟨t,rfl⟩:=rx;exact SeqAt.EqAt.int_str a t' b t
  |_=>exact absurd (show vE=vD from fx) z9
 |str a=>
  obtain⟨t',rfl⟩:=ry;cases x with
  |non=>cases rx;exact SeqAt.EqAt.str_none a t'
  |bl b=>cases rx;exact SeqAt.EqAt.str_bool a t' b
  |int b=>obtain⟨t,rfl⟩:=rx;exact SeqAt.EqAt.str_int a t' b t
  |str b=>obtain⟨t,rfl⟩:=rx;exact SeqAt.EqAt.str_str a t' b t
  |_=>exact absurd (show vE=vD from fx) z9
 |_=>exact absurd (show vE=vD from fy) z9
theorem ZMk:CallR X (.builtin "len") (λxs H Q=>∃p ys,xs=[.ref p]/\(SqL X.K H p ys∨SqT X.K H p ys)/\Q (.int ys.length) H):=by
 intro vA s σ H xs us Q I r h;obtain⟨p,ys,rfl,hq,q⟩:=h;obtain⟨u,rfl,rx⟩:=vals1 r;cases rx;have hn:=line63;rcases hq with hq|hq
 ·obtain⟨its,r',pl,hz⟩:=I.list hq;have hlen:=r'.length
  exact Calls.call_len_list pl.isList (by simp only[zK]<;>lia) ⟨.int ys.length,H,I.tok _,⟨s.toks+1,by rw[zK,hlen]⟩,q⟩
 ·obtain⟨its,r',pl,hz⟩:=I.tuple hq;have hlen:=r'.length
  exact len_tuple pl (by simp only[zK]<;>lia) ⟨.int ys.length,H,I.tok _,⟨s.toks+1,by rw[zK,hlen]⟩,q⟩
theorem ZMS:CallR X (.builtin "len") (λxs H Q=>∃z,xs=[.str z]/\z.length<=sizeLine/\Q (.int z.length) H):=by intro vA s σ H xs us Q I r h;obtain⟨z,rfl,hz,q⟩:=h;obtain⟨u,rfl,t,rfl⟩:=vals1 r;have hn:=line63;exact len_str (by lia) ⟨.int z.length,H,I.tok _,⟨_,rfl⟩,q⟩
theorem CallR.or{f:xY}{r r':List V->Hp->VK->Prop}(h:CallR X f r)(h':CallR X f r'):CallR X f (λxs H Q=>r xs H Q∨r' xs H Q):=by
 intro vA s σ H xs us Q I rs q;rcases q with q|q
 ·exact h vA s σ H xs us Q I rs q
 ·exact h' vA s σ H xs us Q I rs q
theorem ZGs:CallR X (.type "list") (λxs H Q=>∃p ys,xs=[.ref p]/\(SqL X.K H p ys∨SqT X.K H p ys)/\∀l,H l=vC->Q (.ref l) (upd H l (.lst ys))):=by
 intro vA s σ H xs us Q I r h;obtain⟨p,ys,rfl,hq,q⟩:=h;obtain⟨u,rfl,rx⟩:=vals1 r;cases rx;have fin:∀(its:List xY),Vals ys its->ys.length<=sizeLine->∀(h':Heap)(c':Nat),(∀b o',s.heap.get? b=vB o'->h'.get? b=vB o')->
   h'.get? s.heap.objs.size=vB {cls:=.type "list",dict:=vC,data:=.seq its.toArray c',slots:= #[]}->EP X vA σ Q (.ref s.heap.objs.size) {s with heap:=h'}:=λits r' hz h' c' kp e=>
  ⟨.ref s.heap.objs.size,_,I.laid (t':=s.toks) kp (zW _) (show ObjOk X.prog X.w _ h' _ (.lst ys)from⟨hz,its,c',r',e⟩),rfl,q _ (I.hok.fresh (zW _))⟩
 rcases hq with hq|hq
 ·obtain⟨its,r',pl,hz⟩:=I.list hq;have hlen:=r'.length;obtain⟨o,ho,hc,n,hd⟩:=pl.isList
  exact call_list_seq p (.inl rfl) ho hc hd (λh' c' kp e=>fin its r' hz h' c' kp e) (by simp only[zK]<;>lia)
 ·obtain⟨its,r',pl,hz⟩:=I.tuple hq;have hlen:=r'.length;obtain⟨o,ho,hc,n,hd⟩:=pl
  exact call_list_seq p (.inr rfl) ho hc hd (λh' c' kp e=>fin its r' hz h' c' kp e) (by simp only[zK]<;>lia)
theorem ZMc:CallR X (.type "tuple") (λxs H Q=>∃p ys,xs=[.ref p]/\((SqL X.K H p ys/\∀l,H l=vC->Q (.ref l) (upd H l (.tup ys)))∨(SqT X.K H p ys/\Q (.ref p) H))):=by
 intro vA s σ H xs us Q I r h;obtain⟨p,ys,rfl,h⟩:=h;obtain⟨u,rfl,rx⟩:=vals1 r;cases rx;rcases h with⟨hq,q⟩|⟨hq,q⟩
 ·obtain⟨its,r',pl,hz⟩:=I.list hq;have hlen:=r'.length
  refine call_tuple_list pl.isList (λh' kp=>?_) (by simp only[zK]<;>lia)
  have I1:Inv X vA σ H {s with heap:=h'}:=I.kept (t':=s.toks) kp;have I2:Inv X vA σ (upd H h'.objs.size (.tup ys)) {s with heap:=h'.push {cls:=.type "tuple",data:=.seq its.toArray}}:=
   I1.laid (t':=s.toks) (λb o e=>zQ _ e) (zW _) (show ObjOk X.prog X.w _ _ _ (.tup ys)from⟨hz,its,r',IsTup.new _ _⟩)
  exact⟨.ref h'.objs.size,_,I2,rfl,q _ (I1.hok.fresh (zW _))⟩
 ·obtain⟨its,r',pl,hz⟩:=I.tuple hq;exact call_tuple_same pl ⟨.ref p,H,I,rfl,q⟩
def tyV(K:PySem.W.Frag)(T:String)(x:V)(H:Hp):Prop:=match x with
 |.str _=>T="str"
 |.int _=>T="int"
 | .ref p=>(T="list"/\∃xs,SqL K H p xs)∨(T="tuple"/\∃o,K.lookup p=vB o/\o.cls=.type "tuple"/\o.dict=vC)∨
   (T="dict"/\((∃kvs,H p=vB (.dK kvs))∨∃kvs,H p=vB (.dT kvs)))∨(T="set"/\∃S n,H p=vB (.set S n))
 |_=>False
theorem ZMF{T:String}{x:V}{v:xY}(I:Inv X vA σ H s)(r:RelV x v)(ty:tyV X.K T x H):
  s.TypeIs v T/\∀a,v=.ref a->∃ob,s.heap.get? a=vB ob/\ob.dict=vC:=by
 cases x with
 |str z=>
  obtain⟨t,rfl⟩:=r
  cases(show T="str" from ty)
  exact⟨typeIs_str s z t,λ_ e=>nomatch e⟩
 |int i=>
  obtain⟨t,rfl⟩:=r
  cases(show T="int" from ty)
  exact⟨typeIs_int s i t,λ_ e=>nomatch e⟩
 | ref p=>
  cases r;rcases ty with⟨rfl,xs,hq⟩|⟨rfl,o,hk,hc,hd⟩|⟨rfl,hk⟩|⟨rfl,S,n,hk⟩
  ·obtain⟨its,_,pl,_⟩:=I.list hq;refine⟨pl.isList.typeIs,λa e=>?_⟩;cases e;obtain⟨o,n,e,c,hd,_⟩:=pl;exact⟨o,e,hd⟩
  ·refine⟨⟨o,I.kIn p o hk,hc⟩,λa e=>?_⟩;cases e;exact⟨o,I.kIn _ o hk,hd⟩
  ·have z:∃o,s.heap.get? p=vB o/\o.ExactDict:=by
    rcases hk with⟨kvs,hk⟩|⟨kvs,hk⟩
    ·obtain⟨_,_,_,_,o,_,_,e,ex,_⟩:=I.hok p _ hk;exact⟨o,e,ex⟩
    ·obtain⟨_,_,_,_,o,_,_,e,ex,_⟩:=I.hok p _ hk;exact⟨o,e,ex⟩
   obtain⟨o,e,ex⟩:=z;refine⟨⟨o,e,ex.1⟩,λa e2=>?_⟩;cases e2;exact⟨o,e,ex.2.1⟩
  ·obtain⟨o,_,_,_,e,ex,_⟩:=I.hok p _ hk;refine⟨⟨o,e,ex.1⟩,λa e2=>?_⟩;cases e2;exact⟨o,e,ex.2.1⟩
 |_=>exact False.elim ty
noncomputable def tBM(K:PySem.W.Frag)(T:String)(r:V->List V->Hp->VK->Prop)(to:TE)(t:TA):TE:=λσ H Q=>to σ H λx H1=>tyV K T x H1/\t σ H1 λxs H2=>r x xs H2 Q
variable{o e:xQ}{es:List xQ}{to:TE}{t:TA}{name:Str}{apos cpos:Pos}{T id:String}{r:V->List V->Hp->VK->Prop}
theorem ZJ7(pa:PlainAttrs T)(slot:Slot T name id)(hty:typeOf (.builtin id)=pure (.type "method_descriptor"))(hm:MtR X id r)(ho:PE X o to)(ha:PA X (e::es) t)
  (hbase:xj o name X.env (eval o X.env)=eval o X.env:=by rfl)
  (hfew:((xk cpos (vZ (e::es) X.env)).all (λx=> !x.1)&&(xy cpos (xO [] X.env)).all (λx=>x.1.isSome)
   && decide ((e::es).length+([]:List Keyword).length+(if([]:List Keyword).isEmpty then 0 else 1)<30))=vD:=by rfl)
  (hline:(apos.endLine==cpos.line)=vD:=by rfl) (hs:vZ (e::es) X.env=(vE,eval e X.env)::vZ es X.env:=by rfl) (hplain:(xk cpos (vZ es X.env)).any (·.1)=vE:=by rfl):
  PE X (.Call (.Attribute o name apos) (e::es) [] cpos) (tBM X.K T r to t):=by
 intro vA s σ H Q I h;refine wpAny_Call_method_late hbase hfew hline rfl (thn (ho vA s σ H _ I h) λv s1 ⟨x,H1,I1,r1,ty,q1⟩=>?_);obtain⟨h1,h2⟩:=ZMF I1 r1 ty;refine⟨T,id,pa,slot,hty,h1,h2,?_⟩;have hA:=ha cpos vA s1 σ H1 _ I1 q1;rw[hs]at hA⊢
 refine Calls.callWith_builtin (by show(vE||(xk cpos (vZ es X.env)).any (·.1))=vE;rw[hplain]<;>rfl) (Calls.evalArgs_plain ?_)
 exact thn hA λus s2 ⟨vs,H2,I2,r2,q2⟩=>hm vA s2 σ H2 x vs v us Q I2 r1 r2 q2
end
def MtM(X:Cx)(id:String)(r:V->List V->Hp->VK->Prop):Prop:=
 ∀(vA:List (jT×Obj))(s:xW)(σ:St)(H:Hp)(x:V)(xs:List V)(v:xY)(us:List xY)(Q:VK),Inv X vA σ H s->RelV x v->Vals xs us->r x xs H Q->
  vX (xS X.prog X.w) X.A (call (.builtin id) (v::us)) (EP X vA σ Q) X.xe s
theorem Vals.one:∀{x:V}{us:List xY},Vals [x] us->∃u,us=[u]/\RelV x u
 |_,_,.cons r .nil=>⟨_,rfl,r⟩
theorem Vals.rep{us:List xY}(h:Vals xs us):∀k:Nat,Vals (zx k xs).flatten (zx k us).flatten
 |0=>.nil
 |k+1=>by rw[qW,qW,qH,qH];exact Vals.append h (Vals.rep h k)
theorem foldl_rep(its:List xY):∀(k:Nat)(acc:List xY),
  List.foldl (λx1 x2=>x1++x2) acc.toArray (zx k its.toArray)=(acc++(zx k its).flatten).toArray
 |0,acc=>by simp
 |k+1,acc=>by
  have e:acc.toArray++its.toArray=(acc++its).toArray:=by simp
  have e2:(acc++its)++(zx k its).flatten=acc++(zx (k+1) its).flatten:=by rw[qW,qH,qI]
  rw[<-e2,<-foldl_rep its k (acc++its),<-e,qW,List.foldl_cons]
section
variable{X:Cx}{vA:List (jT×Obj)}{σ:St}{H:Hp}{s:xW}{l b:jT}{xs ys zs:List V}
theorem Inv.lset{its':List xY}{n:Nat}{f:Array xY->Array xY}{t':Nat}(I:Inv X vA σ H s)(hH:H l=vB (.lst xs))
  (e:s.heap.get? l=vB {cls:=.type "list",data:=.seq its.toArray n}) (hf:f its.toArray=its'.toArray) (hv:Vals ys its') (hz:ys.length<=sizeLine):
  Inv X vA σ (upd H l (.lst ys)) {s with heap:=s.heap.update l (Obj.mapSeq f),toks:=t'}:=by
 have q:=PySem.IsL.update e f;rw[hf]at q;refine I.write (x:=l) (e:=l) (by rw[hH];exact trivial) (.inl rfl) (λb' u hb hu=>(qk s.heap (Obj.mapSeq f) (Ne.symm hb)).trans hu) ⟨_,q⟩ ?_;exact⟨hz,its',_,hv,q⟩
theorem Inv.lnew{t':Nat}(I:Inv X vA σ H s)(hv:Vals ys its)(hz:ys.length<=sizeLine):
  Inv X vA σ (upd H s.heap.objs.size (.lst ys)) {s with heap:=s.heap.push {cls:=.type "list",data:=.seq its.toArray},toks:=t'}:=
 I.laid (λ_ _ q=>zQ _ q) (zW _) ⟨hz,its,0,hv,zy _ rfl⟩
theorem Inv.fresh(I:Inv X vA σ H s):H s.heap.objs.size=vC:=I.hok.fresh (zW _)
theorem Inv.Vq(I:Inv X vA σ H s)(hH:H l=vB (.lst xs)):xs.length<=sizeLine/\∃(its:List xY)(n:Nat),Vals xs its/\xs.length=its.length/\s.heap.get? l=vB {cls:=.type "list",data:=.seq its.toArray n}:=by obtain⟨z,its,n,r,e⟩:=I.hok l _ hH;exact⟨z,its,n,r,r.length,e⟩
theorem ZEv{n:Nat}(h:n<=sizeLine):Builtin.List.listTooLong n=vE:=by unfold Builtin.List.listTooLong;exact decide_eq_false (by lia)
end
section
variable{X:Cx}
def ZHJ:V->List V->Hp->VK->Prop:=λx vs H Q=>∃l xs y,x=.ref l/\vs=[y]/\H l=vB (.lst xs)/\xs.length<sizeLine/\Q .non (upd H l (.lst (xs++[y])))
theorem ZMT:MtM X "list.append" ZHJ:=by
 intro vA s σ H x vs v us Q I rx rv h;obtain⟨l,xs,y,rfl,rfl,hH,hz,q⟩:=h;cases rx;obtain⟨u,rfl,ru⟩:=rv.one;obtain⟨z,its,n,r,hl,e⟩:=I.Vq hH;refine call_meets F.slot_list_append ⟨_,e,rfl⟩ F.entry_list_append (F.args_list_append_2 _ _) (PySem.list_append l its.toArray n u (by rw[zK];lia)) ⟨e,?_⟩;refine⟨.non,_,I.lset (its':=its++[u]) hH e (by simp) (r.append (.cons ru .nil)) ?_,rfl,q⟩
 rw[zT,jw];lia
def ZHy:V->List V->Hp->VK->Prop:=λx vs H Q=>∃l b xs zs,x=.ref l/\vs=[.ref b]/\H l=vB (.lst xs)/\H b=vB (.lst zs)/\xs.length+zs.length<=sizeLine/\Q .non (upd H l (.lst (xs++zs)))
theorem ZKh:MtM X "list.extend" ZHy:=by
 intro vA s σ H x vs v us Q I rx rv h;obtain⟨l,b,xs,zs,rfl,rfl,hH,hB,hz,q⟩:=h;cases rx;obtain⟨u,rfl,ru⟩:=rv.one;cases ru;obtain⟨z,its,n,r,hl,e⟩:=I.Vq hH;obtain⟨z2,its2,n2,r2,hl2,e2⟩:=I.Vq hB;have hsz:its.toArray.size+its2.toArray.size<=sizeLine:=by rw[zK,zK];lia
 have hlong:¬(!its.toArray.isEmpty&&Builtin.List.listTooLong (its.toArray.size+its2.toArray.size))=vD:=by rw[ZEv hsz,Bool.and_false];exact z9
 refine call_meets F.slot_list_extend ⟨_,e,rfl⟩ F.entry_list_extend (F.args_list_extend_2 _ _)
  (AutoSeq1.list_extend_list_list_0 l its.toArray n b its2.toArray n2 hlong (by rw[zK];lia) (by lia)) ⟨e,e2,?_⟩
 refine⟨.non,_,I.lset (its':=its++its2) hH e (by simp) (r.append r2) ?_,rfl,q⟩;rw[zT];lia
def rRep:R2:=λx y H Q=>∃l k xs,x=.ref l/\y=.int k/\H l=vB (.lst xs)/\ -(2^63)<=k/\k<2^63/\xs.length*k.toNat<=sizeLine/\
 ∀p,H p=vC->Q (.ref p) (upd H p (.lst (zx k.toNat xs).flatten))
theorem len_rep{α:Type}(xs:List α)(k:Nat):(zx k xs).flatten.length=k*xs.length:=by
 induction k with
 |zero=>simp
 |succ k ih=>rw[qW,qH,zT,ih,Nat.succ_mul,Nat.add_comm]
theorem ZJd:OpR X (x9 .Mult) rRep:=by
 intro vA s σ H x y v u Q I rx ry h;obtain⟨l,k,xs,rfl,rfl,hH,h1,h2,hz,q⟩:=h;cases rx;obtain⟨t,rfl⟩:=ry;obtain⟨z,its,n,r,hl,e⟩:=I.Vq hH;have hlen:its.toArray.size*k.toNat<=sizeLine:=by rw[zK,<-hl];exact hz
 have hcap:¬its.toArray.size*k.toNat>(2^63-1)/8:=by
  have:(sizeLine:Nat)<=(2^63-1)/8:=by decide
  lia
 have hfit:¬(!Builtin.List.listFitsIndex k)=vD:=by rw[fitsIndex_both h1 h2];exact z9
 have hlong:¬Builtin.List.listTooLong (its.toArray.size*k.toNat)=vD:=by rw[ZEv hlen];exact z9
 have hnew:List.foldl (λx1 x2=>x1++x2) #[] (zx (if its.toArray.isEmpty=vD then 0 else k.toNat) its.toArray)=(zx k.toNat its).flatten.toArray:=by
  have f0:∀m:Nat,List.foldl (λx1 x2=>x1++x2) #[] (zx m its.toArray)=(zx m its).flatten.toArray:=λm=>by have:=foldl_rep its m [];rw[j7]at this;exact this
  rw[f0];cases its with
  |nil=>simp
  |cons a r'=>rw[if_neg (by simp)]
 refine wpAny_binaryOp_repeat_ref (T:="list") (U:="int") (by decide) ⟨_,e,rfl⟩ (λs'=>typeIs_int s' k t) noFill_list_mul F.fills_int_mul F.slot_int_rmul repeat_list F.slot_int_index.lookup
  (call_meets F.slot_int_rmul (typeIs_int s k t) F.entry_int_rmul (F.args_int_rmul_2 _ _) (int___rmul___int_list k t l its.toArray n)
   ⟨e,rfl,⟨_,e,rfl⟩,call_meets F.slot_list_mul ⟨_,e,rfl⟩ F.entry_list_mul (F.args_list_mul_2 _ _) (AutoListH.list___mul___list_int_3 l its.toArray n k t hfit hcap hlong) ⟨e,?_⟩⟩)
 rw[hnew];exact⟨.ref _,_,I.lnew (t':=s.toks) (r.rep k.toNat) (by rw[len_rep,Nat.mul_comm];exact hz),rfl,q _ I.fresh⟩
end
section
variable{prog:xX}{w:xq}{A:jU}{E:xY->xW->Prop}{s:xW}
end
section
variable{X:Cx}
end
end _L
namespace Att
open PySem PySem.W PySem.Calls PyProof.Rows
variable{h:Heap}
theorem ZNp{P:Params}:∀(ns:List Int)(vs:List xY),WellAll P h vs (ns.map WData.int)->IntsAre vs ns:=by
 intro ns
 induction ns with
 |nil=>
  intro vs w;rw[List.map_nil]at w;cases w;exact .nil
 | cons n ns ih=>
  intro vs w;rw[zG]at w;cases w with
  |cons a b=>
   cases a;exact .cons _ _ (ih _ b)
theorem ZI9{l:OpenLaw}{n:Nat}(hn:l.most=vB n){P:Params}{args:List WData}{vals:List xY}
  (hpre:l.row.toRowW.claim.pre args=vD) (hwl:WellAll P h vals args):
  ∃a vs ns,vals=[Value.ref a]/\args=[WData.list (ns.map WData.int)]/\h.get? a=vB {cls:=.type "list",data:=.seq vs.toArray}/\IntsAre vs ns/\ns.length<=n:=by
 have hsh:WShape.hasAll [] args [.list .int]=vD:=(pre_splitW hpre).1;have hc:l.pre.holds [] {args:=args}=vD:=(pre_splitW hpre).2;obtain⟨d,r,rfl,h1,h2⟩:=hasAllW_cons hsh;obtain rfl:=hasAllW_nil h2;obtain⟨xs,rfl,h3⟩:=hasW_list h1;obtain⟨ns,rfl⟩:=items_int h3;have hlen:ns.length<=n:=by
  unfold OpenLaw.pre at hc;have h4:(WTm.not (.lt (.lit (.int (n:Int))) (.len (.arg 0)))).holds [] {args:=[.list (ns.map .int)]}=vD:=by have h4:=(holds_andW hc).1;rw[hn]at h4;exact h4
  have h5:=condW_of h4 (w_not (w_lt w_lit (w_len_list (w_arg rfl))));rw[qJ]at h5;refine Nat.le_of_not_lt λq=>?_
  have q':(n:Int)<((ns.length:Nat):Int):=by lia
  first
   |(rw[decide_eq_true q']at h5;exact absurd h5 (by decide))
   |(simp at h5;lia)
 cases hwl with
 |cons w1 w2=>
  cases w2;cases w1 with
  |list ho hall=>exact⟨_,_,ns,rfl,rfl,ho,ZNp ns _ hall,hlen⟩
theorem ZNk(l:OpenLaw)(args:List WData):l.row.toRowW.claim.post args (.bool vD) args=vD:=
 postW_of (r:=l.row.toRowW) (X:=(vD==vD))
  (show WShape.has [] (.bool vD) .bool=vD by first|rfl|decide|simp[WShape.has,WShape.arms,WShape.armsAll])
  (show(WTm.eq .res (.lit (.bool vD))).value [] {args:=args,res:=vB (.bool vD),after:=args}=vB (.bool (vD==vD))from w_eq_bool (w_res rfl) w_lit) rfl
theorem ZJg{l:OpenLaw}{n:Nat}{q:xX}{loose:List Str}{XP:(Str->Option xY)->Heap->Prop}{YP:xq->Heap->Prop}{d:DefRec}
  (hn:l.most=vB n) (hdf:d.params.defaults=[])
  (call:∀(w:xq)(s₀ s₁:xW)(mg mb:Str->Option xY)(fa:jT)(o:Obj)(pm cd doc:xY)(a:jT)(vs:List xY)(ns:List Int),
   Ground q loose [] XP w s₀ mg mb s₁.heap->YP w s₁.heap->
   s₁.heap.get? fa=vB o->o.data=.func (docDef d.name d.params d.body d.scope pm cd doc)->s₁.heap.CodeRec cd d.name->mg d.name=vB (.ref fa)->
   s₁.heap.get? a=vB {cls:=.type "list",data:=.seq vs.toArray}->IntsAre vs ns->ns.length<=n->s₁.gens= #[]->
   codeAny (xS l.prog w) callerA (.call (.ref fa) ⟨[.ref a],[]⟩) (λr s'=>r=.ok (.ret (.bool vD))/\OldK s₁.heap s'.heap/\s'.os=s₁.os/\AllBare s'.gens) s₁):
  WalkO q loose XP YP l.row.toRowW d [] (λf vs=>PySem.call f vs):=by
 intro w s₀ s₁ mg mb G Y fa o pm cd doc dV kV ho hd hcd hD hmg hg args vals as hpre hlay hrd hwl hlo;obtain rfl:dV=.none:=Dflts.none hD hdf;obtain rfl:kV=.none:=Dflts.noKw hD;obtain⟨a,vs,ns,rfl,rfl,hobj,hints,hlen⟩:=ZI9 hn hpre hwl;refine enter_call (xD (call w s₀ s₁ mg mb fa o pm cd doc a vs ns G Y ho (fd_plain hd) hcd hmg hobj hints hlen hg) λr s' hq=>?_);obtain⟨rfl,h2,h3,h4⟩:=hq
 exact⟨.inl ⟨.bool vD,.bool vD,[],rfl,λ_=>rfl,.bool vD,ZNk l _,λ_=>⟨List.Pairwise.nil,λ_ hm=>(nomatch hm)⟩⟩,h2,h3,h4⟩
section
variable{prog:xX}{w:xq}{A:jU}{E:xY->xW->Prop}{s:xW}{K:v7}
noncomputable def U6(h:Heap):Heap:={h with objs:= #[]}
theorem ZBL(h:Heap)(b:jT):(U6 h).get? b=vC:=by
 cases e:(U6 h).get? b with
 |none=>rfl
 |some o=>exact absurd (zY e) (Nat.not_lt_zero _)
noncomputable def ledger(h:Heap)(L d:jT):List (jT×Obj):=(zk h.objs.size).filterMap λa=>if a=L∨a=d then vC else(h.get? a).map λo=>(a,o)
theorem Pn{L d a:jT}{o:Obj}:(a,o)∈ledger h L d↔a≠L/\a≠d/\h.get? a=vB o:=by
 unfold ledger;rw[j9];constructor
 ·rintro⟨b,_,e⟩;split at e
  ·cases e
  ·rename_i hb;obtain⟨o',ho,e'⟩:=zN.mp e;cases e';exact⟨λq=>hb (.inl q),λq=>hb (.inr q),ho⟩
 ·rintro⟨n1,n2,ho⟩;refine⟨a,qY.mpr (zY ho),?_⟩
  rw[if_neg (show¬(a=L∨a=d)from λq=>q.elim n1 n2),ho]<;>rfl
theorem ZKi{L:jT}{m:Str->Option xY}(n:h.Ns L m):Fr (U6 h) L h m:=
 ⟨n,λb o e=>(by rw[ZBL]at e;cases e),j6 _⟩
end
end Att
namespace _L
open PySem PySem.Spec PyProof.Rows
variable{k:Nat}{fd:xZ}{x:Str}
theorem Ri:∀{vs:List xY}{ns:List Int},IntsAre vs ns->Vals (ns.map V.int) vs
 |_,_,.nil=>.nil
 |_,_,.cons n t h=>.cons ⟨t,rfl⟩ (Ri h)
def Only(H:Hp):Prop:=∀b,H b=vC∨∃o xs,H b=vB (.frz o (.lst xs))
theorem ZOa{P:xX}{w:xq}{K:PySem.W.Frag}{mg mb:Str->Option xY}{CX:CXT}{fa a:jT}{sp:Sp}{s₁:xW}{vs:List xY}{ns:List Int}
  (KX:K.In s₁.heap) (hns:s₁.heap.Ns xR mg) (hb:s₁.heap.Ns builtinsNs mb) (hbb:∀x:Str,x≠"__name__"->mb x=xA x) (hlim:s₁.heap.NoLimit) (hg:s₁.gens= #[])
  (ha:s₁.heap.get? a=vB {cls:=.type "list",data:=.seq vs.toArray}) (hi:IntsAre vs ns) (hl:ns.length<=sizeLine) (hr:Room k callerA)
  (F:∀base:Heap,K.In base->base.Ns xR mg->FnOk P w K mg base CX k fa fd [x] sp) (hbind:∀(s:xW)(u:xY),BindsTo s fd ⟨[u],[]⟩ [(x,u)])
  (hsp:∀H:Hp,Only H->SqL K H a (ns.map V.int)->sp [.ref a] H (λv _=>v=.bl vD) λ_ _ _=>False)
  (hCX:∀H e s',CX [] H s₁ (λ_ _ _=>False) e s'->False):
  codeAny (xS P w) callerA (.call (.ref fa) ⟨[.ref a],[]⟩) (λr s'=>r=.ok (.ret (.bool vD))/\OldK s₁.heap s'.heap/\s'.os=s₁.os/\AllBare s'.gens) s₁:=by
 have rv:=Ri hi;have lenV:=hi.length;have core:∀H:Hp,Only H->SqL K H a (ns.map V.int)->HOk P w H s₁.heap->(∀b,H b≠vC->b=a)->(H a≠vC->K.lookup a=vC)->
   codeAny (xS P w) callerA (.call (.ref fa) ⟨[.ref a],[]⟩) (λr s'=>r=.ok (.ret (.bool vD))/\OldK s₁.heap s'.heap/\s'.os=s₁.os/\AllBare s'.gens) s₁:=by
  intro H hO hS hok hA hK;have base_of:∀{b:jT}{o:Obj},s₁.heap.get? b=vB o->H b=vC->(J9 s₁.heap H).get? b=vB o:=λe n=>ZNa e n
  have noA:∀{b:jT}{o:Obj}{es:Array DictEntry}{ep:Nat},s₁.heap.get? b=vB o->o.data=.dict es ep->H b=vC:=λ{b o es ep}e d=>by
   cases q:H b with
   |none=>rfl
   |some u=>
    have e':b=a:=hA b (by rw[q];simp);subst e';rw[ha]at e;cases e;have d':Data.seq vs.toArray _=Data.dict es ep:=d;cases d'
  have nsK:∀{b:jT}{m:Str->Option xY},s₁.heap.Ns b m->(J9 s₁.heap H).Ns b m:=λ{b m}⟨o,es,ep,e,d,r⟩=>⟨o,es,ep,base_of e (noA e d),d,r⟩
  have hKb:K.In (J9 s₁.heap H):=λb o e=>base_of (KX b o e) (by
   cases q:H b with
   |none=>rfl
   |some u=>
    have e':b=a:=hA b (by rw[q];simp);subst e';rw[hK (by rw[q];simp)]at e;cases e)
  have hM:Mod K mg (J9 s₁.heap H):=⟨hKb,nsK hns,⟨mb,nsK hb,hbb⟩,let⟨mc,h1,h2⟩:=hlim;⟨mc,nsK h1,h2⟩⟩
  have e0:Env0 P w K mg (J9 s₁.heap H) callerA [] s₁ H:=⟨rfl,hM,λb o e=>ZL4 e,Nat.le_of_eq (ZKV _ _),trivial,λb hb=>absurd (show b∈([]:List jT)from hb) (by simp),hok,.of_eq hg⟩
  refine xD ((F _ hKb (nsK hns)).run callerA [] s₁ H ⟨[.ref a],[]⟩ [.ref a] [.ref a] _ _ hr e0 (hbind s₁ (.ref a)) (.cons rfl .nil) (hsp H hO hS)) λr s' h=>?_
  cases r with
  |error e=>exact(hCX H e s' h).elim
  | ok fl=>
   cases fl with
   |next=>exact False.elim h
   |brk=>exact False.elim h
   |cont=>exact False.elim h
   | ret u=>
    obtain⟨v,H',os,bare,un,hok',r',q⟩:=h;have q':v=.bl vD:=q;subst q';obtain rfl:u=Value.bool vD:=r';refine⟨rfl,OldK.of_keep λb o e=>?_,os,bare⟩;cases q:H b with
    |none=>exact un.keep b o e q (by intro z;exact absurd (show b∈([]:List jT)from z) (by simp)) (by simp)
    |some u=>
     rcases hO b with z|⟨ob,xs,z⟩
     ·rw[q]at z;cases z
     ·have z2:=un.frzs b ob _ z;obtain⟨e1,_⟩:=hok b _ z;obtain⟨e2,_⟩:=hok' b _ z2;rw[e]at e1;cases e1;exact e2
 cases hk:K.lookup a with
 |some o=>
  have e:=KX a o hk;rw[ha]at e;cases e;refine core (λ_=>vC) (λ_=>.inl rfl) (.inr ⟨_,vs.toArray,_,hk,rfl,rfl,rfl,by rw[zK,lenV];exact hl,by simpa using rv⟩) (λb u z=>by have z':(vC:Option HO)=vB u:=z;cases z') (λb z=>absurd rfl z) λz=>absurd rfl z
 | none=>
  refine core (λb=>if b=a then vB (.frz {cls:=.type "list",data:=.seq vs.toArray} (.lst (ns.map V.int)))else vC) (λb=>?_) (.inl (.inr ⟨{cls:=.type "list",data:=.seq vs.toArray},if_pos rfl⟩)) (λb u z=>?_) (λb z=>?_) λ_=>hk
  ·by_cases hb:b=a
   ·exact .inr ⟨_,_,if_pos hb⟩
   ·exact .inl (if_neg hb)
  ·by_cases hb:b=a
   ·have z':=(if_pos hb).symm.trans z;cases z';subst hb;exact⟨ha,by rw[qJ];exact hl,vs,_,rv,ha⟩
   ·have z':=(if_neg hb).symm.trans z;cases z'
  ·by_cases hb:b=a
   ·exact hb
   ·exact absurd (if_neg hb) z
theorem ZHw{l:PySem.W.OpenLaw}{n:Nat}{q:xX}{loose:List Str}{XP:(Str->Option xY)->Heap->Prop}{YP:xq->Heap->Prop}{d:DefRec}{K:xq->PySem.W.Frag}{CX:xq->CXT}{sp:xq->Sp} 
  (hn:l.most=vB n) (hn2:n<=sizeLine) (hdf:d.params.defaults=[]) (hr:Room k callerA)
  (hY:∀(w:xq)(h:Heap),YP w h->(K w).In h)
  (F:∀(w:xq)(mg:Str->Option xY)(fa:jT)(h:Heap),(K w).In h->h.Ns xR mg->mg d.name=vB (.ref fa)->
   ∃fd:xZ,(∀(s:xW)(u:xY),BindsTo s fd ⟨[u],[]⟩ [(x,u)])/\
    ∀base:Heap,(K w).In base->base.Ns xR mg->FnOk l.prog w (K w) mg base (CX w) k fa fd [x] (sp w))
  (hsp:∀(w:xq)(H:Hp)(a:jT)(ns:List Int),ns.length<=n->Only H->SqL (K w) H a (ns.map V.int)->sp w [.ref a] H (λv _=>v=.bl vD) λ_ _ _=>False)
  (hCX:∀(w:xq)(H:Hp)(s:xW)(e:xY)(s':xW),CX w [] H s (λ_ _ _=>False) e s'->False):
  PySem.W.WalkO q loose XP YP l.row.toRowW d [] (λf vs=>PySem.call f vs):=by
 refine Att.ZJg hn hdf λw s₀ s₁ mg mb fa o pm cd doc a vs ns G Y ho hd hcd hmg hobj hints hlen hg=>?_
 have KX:=hY w _ Y;obtain⟨fd,hb,hF⟩:=F w mg fa _ KX G.T.g hmg;exact ZOa KX G.T.g G.T.b G.T.builtins G.T.nolimit hg hobj hints (zC hlen hn2) hr hF hb (λH hO hS=>hsp w H a ns hlen hO hS) λH e s'=>hCX w H s₁ e s'
noncomputable def Fg(s:xK):Arguments:=match s with
 |.FunctionDef _ a _ _ _ _ _ _ _ _=>a
 |_=>{posonlyargs:=[],args:=[],vararg:=vC,kwonlyargs:=[],kw_defaults:=[],kwarg:=vC,defaults:=[]}
noncomputable def Dg(s:xK):List xK:=match s with
 |.FunctionDef _ _ b _ _ _ _ _ _ _=>b
 |_=>[]
noncomputable def Aq(s:xK):xV:=match s with
 |.FunctionDef _ _ _ _ _ _ sc _ _ _=>sc
 |_=>{kind:=.function,names:=[],isGenerator:=vE,isCoroutine:=vE}
noncomputable abbrev CX0:CXT:=λ_ _ _ _ _ _=>False
noncomputable abbrev E0:XK:=λ_ _ _=>False
theorem pass0{X:Cx}:Passes CX0 X E0:=λ_ _ _ _ _ _ _ h=>h.elim
structure Fun (K:PySem.W.Frag) (x qual:Str) (st:xK) (f:jT) (fd:xZ):Prop where
 ex:∃(oc:xY)(od:Option jT)(kV doc pm:xY)(an:Option jT)(cdv ct:xY)(osl:Array (Option xY)),
  fd=PySem.W.fnOf x qual (Fg st) (Dg st) (Aq st) .none kV doc pm an cdv ct/\K.lookup f=vB ⟨oc,od,.func fd,osl⟩/\PySem.W.codeIn K cdv qual=vD
 kp:PySem.W.keepIn K (.ref f)=vD
section
variable{P:xX}{w:xq}{K:PySem.W.Frag}{mg:Str->Option xY}{base:Heap}
theorem Fun.ok{qual:Str}{st:xK}{f:jT}{N ps:List Str}{sp:Sp}(F:Fun K x qual st f fd)(S:FnScope N ps (Aq st))(len:∀vs H Q E,sp vs H Q E->vs.length=ps.length)
  (hbody:∀(cdv:xY)(A:jU)(outer:List Env)(s:xW)(H:Hp)(vs:List V)(Q:VK)(E:XK),Room k (A.deeper (envOfC qual (Aq st) s.heap.objs.size f cdv))->sp vs H Q E->
   ∃t,PSs (Fw CX0 P w K mg base N qual (Aq st) f cdv A outer s H E).nox (Dg st) t/\t {nx:=λ_ H'=>Q .non H',rt:=Q} (start N vs) H):FnOk P w K mg base CX0 (k+1) f fd ps sp:=by
 obtain⟨oc,od,kV,doc,pm,an,cdv,ct,osl,rfl,lk,hcd⟩:=F.ex;refine Xe lk hcd S len λA outer s H vs Q E hr hsp=>?_
 obtain⟨t,h,q⟩:=hbody cdv A outer s H vs Q E hr hsp;exact⟨t,h.nox,q⟩
theorem Fun.binds{qual:Str}{st:xK}{f:jT}{ps:List Str}(F:Fun K x qual st f fd)
  (h:∀(kV doc pm:xY)(an:Option jT)(cdv ct:xY)(us:List xY),us.length=ps.length->bindArgs (PySem.W.fnOf x qual (Fg st) (Dg st) (Aq st) .none kV doc pm an cdv ct) ⟨us,[]⟩=pure (ps.zip us)):Binds K fd ps []:=by
 obtain⟨oc,od,kV,doc,pm,an,cdv,ct,osl,rfl,lk,hcd⟩:=F.ex;exact .all (h kV doc pm an cdv ct)
end
section
variable{X:Cx}
theorem pv(i:Nat){pos:Pos}(hN:X.N[i]?=vB x:=by rfl)(hv:Vis X.env.scope x:=by first|exact Or.inl rfl|exact Or.inr (Or.inl rfl)|exact Or.inr (Or.inr rfl))(hd:(x==("__debug__":Str))=vE:=by decide)
  (hcd:(x==("__classdict__":Str))=vE:=by decide):PE X (.Name x pos) (Lr i):=Ol hN hv hd hcd
end
section
variable{κ:Type}[DecidableEq κ]
end
section
variable{P:xX}{w:xq}{H:Hp}{h:Heap}{a:jT}
end
section
variable{X:Cx}{vA:List (jT×Obj)}{σ:St}{H:Hp}{s:xW}{a:jT}{y v:V}{u r:xY}{o:Option V}{A:jU}{E:xY->xW->Prop}
end
section
variable{X:Cx}{vA:List (jT×Obj)}{σ:St}{H:Hp}{s:xW}{a:jT}{kvs:List (Key×V)}{k:Key}{u:xY}{A:jU}{E:xY->xW->Prop}
end
section
variable{X:Cx}{o i e value:xQ}{pos pos' tpos:Pos}{td ty tv:TE}
end
section
variable{X:Cx}{pos:Pos}
end
section
variable{X:Cx}{vA:List (jT×Obj)}{σ:St}{H:Hp}{s:xW}{a:jT}{y d:V}{u r:xY}{o:Option V}{A:jU}{E:xY->xW->Prop}
end
section
variable{X:Cx}{o e f:xQ}{apos cpos:Pos}{td ty tx:TE}
end
section
variable{X:Cx}{vA:List (jT×Obj)}{σ:St}{H:Hp}{s:xW}{a:jT}{kvs:List (Key×V)}{A:jU}{E:xY->xW->Prop}
end
section
variable{X:Cx}{vA:List (jT×Obj)}{σ:St}{H:Hp}{s:xW}{a:jT}{y:V}{u:xY}{A:jU}{E:xY->xW->Prop}
end
section
variable{X:Cx}
end
end _L
namespace _L
section
variable{κ:Type}[DecidableEq κ]
end
end _L
namespace _D
open PySem PySem.Spec _L
open PyProof.Rows hiding St
variable{α β:Type}{H:Hp}{p:jT}{v:V}{vs:List V}{σ:St}{E:XK}{Q:VK}{W:Ends}{e tg:xQ}{ho:HO}{i j k nt:Nat}{x:Str}{A:jU}{s:xW}{P:xX}{w:xq}{scope:xV}{env:Env}{X:Cx}
inductive D where
 |non|bl (b:Bool)|int (i:Int)|str (x:Str)|ty (n:String)
 |tup (xs:List D)
 |fl (xs:List D)
 |ref (i:Nat)
variable{d:D}{ds xs:List D}
inductive DO where
 |lst (xs:List D)
 |dct (kvs:List (Key×D))
 |ins (c:Str) (fs:List (Str×D))
 |tab (c m:Str)
 |exc (c:Str) (fs:List (Str×D))
 |gone
variable{o:DO}
noncomputable abbrev DH:=List DO
variable{G G' L:DH}
noncomputable abbrev DSt:=List (Option D)
variable{S:DSt}
structure Xn where
 cls:Str
 fs:List (Str×D)
inductive R (α:Type) where
 |ok (a:α) (G:DH)
 |err (x:Xn) (G:DH)
 |bad
variable{r:R D}{f:D->D->DH->R D}
noncomputable def R.bind{α β:Type}(r:R α)(f:α->DH->R β):R β:=match r with
 |.ok a G=>f a G
 |.err x G=>.err x G
 |.bad=>.bad
@[simp]theorem R.Hr(a:α)(G:DH)(f:α->DH->R β):(R.ok a G).bind f=f a G:=id rfl
@[simp]theorem R.ZPx(f:α->DH->R β):(R.bad:R α).bind f=.bad:=id rfl
inductive SR where
 |nx (S:DSt) (G:DH)
 |rt (d:D) (G:DH)
 |bk (S:DSt) (G:DH)
 |ct (S:DSt) (G:DH)
 |err (x:Xn) (G:DH)
 |bad
noncomputable abbrev DE:=DSt->DH->R D
variable{t te:DE}
noncomputable abbrev DB:=DSt->DH->R Bool
variable{c:DB}
noncomputable abbrev DA:=DSt->DH->R (List D)
noncomputable abbrev DS:=DSt->DH->SR
variable{u:DS}
def FzL(K:PySem.W.Frag)(H:Hp)(a:jT)(xs:List V):Prop:=
 (∃o,H a=vB (.frz o (.lst xs)))∨
  ∃(o:Obj)(its:Array xY)(n:Nat),K.lookup a=vB o/\o.cls=.type "list"/\o.dict=vC/\o.data=.seq its n/\its.size<=sizeLine/\Vals xs its.toList
theorem FzL.sq{K:PySem.W.Frag}{a:jT}{xs:List V}(h:FzL K H a xs):SqL K H a xs:=by
 rcases h with⟨o,h⟩|h
 ·exact .inl (.inr ⟨o,h⟩)
 ·exact .inr h
structure Wd where
 K:PySem.W.Frag
 n:Nat
 m:Nat->jT
 H:Hp
variable{a b:Wd}
mutual
def Rep(a:Wd):D->V->Prop
 |.non,v=>v=.non
 |.bl b,v=>v=.bl b
 |.int i,v=>v=.int i
 |.str x,v=>v=.str x
 |.ty n,v=>v=.ty n
 |.tup ds,v=>∃p vs,v=.ref p/\SqT a.K a.H p vs/\Reps a ds vs
 |.fl ds,v=>∃p vs,v=.ref p/\FzL a.K a.H p vs/\Reps a ds vs
 |.ref i,v=>i<a.n/\v=.ref (a.m i)
def Reps(a:Wd):List D->List V->Prop
 |[],vs=>vs=[]
 |d::ds,vs=>∃v r,vs=v::r/\Rep a d v/\Reps a ds r
end
noncomputable def lamQ:Str:="Sending.send_by.<locals>.<lambda>"
def TabOk(H:Hp)(P:jT):Prop:=
 ∃ps:Array xY,H P=vB (.tbl ps)/\TriplesOk ps.toList/\∀pos cv,codeAmong pos ps.toList=vB cv->∃(c:jT)(oc:Obj)(vs:Array xY)(t:Tok),cv=.ref c/\H c=vB (.frz oc (.own 0))/\oc.data=.fields vs/\vs[1]?=vB (.str lamQ t)
theorem TabOk.mono{H':Hp}{P:jT}(h:TabOk H P)(ht:∀p ps,H p=vB (.tbl ps)->H' p=vB (.tbl ps))(hf:∀p o u,H p=vB (.frz o u)->H' p=vB (.frz o u)):TabOk H' P:=by obtain⟨ps,e,t,k⟩:=h;refine⟨ps,ht _ _ e,t,λpos cv hc=>?_⟩;obtain⟨c,oc,vs,tk,e1,e2,e3,e4⟩:=k pos cv hc;exact⟨c,oc,vs,tk,e1,hf _ _ _ e2,e3,e4⟩
def TabAt(K:PySem.W.Frag)(C m:Str)(c P:jT):Prop:=
 ∃(Ca f:jT)(oc:xY)(od:Option jT)(fd:xZ)(sl:Array (Option xY)),PySem.W.nsIn K xR C=vB (vB (.ref Ca))/\PySem.W.findIn K (.ref Ca) m=vB (vB (.ref f))/\K.lookup f=vB ⟨oc,od,.func fd,sl⟩/\fd.code=.ref c/\PySem.W.codeHdIn K c P=vD
structure Ext (a b:Wd):Prop where
 k:b.K=a.K
 n:a.n<=b.n
 m:∀i,i<a.n->b.m i=a.m i
 tup:∀p xs,a.H p=vB (.tup xs)->b.H p=vB (.tup xs)
 frz:∀p o u,a.H p=vB (.frz o u)->b.H p=vB (.frz o u)
 tab:∀p,TabOk a.H p->TabOk b.H p
theorem Ext.refl(a:Wd):Ext a a:=⟨rfl,zW _,λ_ _=>rfl,λ_ _ h=>h,λ_ _ _ h=>h,λ_ h=>h⟩
theorem Ext.trans{c:Wd}(x:Ext a b)(y:Ext b c):Ext a c:=
 ⟨y.k.trans x.k,zC x.n y.n,λi h=>(y.m i (zV h x.n)).trans (x.m i h),λp xs h=>y.tup p xs (x.tup p xs h),λp o u h=>y.frz p o u (x.frz p o u h),λp h=>y.tab p (x.tab p h)⟩
theorem Ext.sqT(x:Ext a b){xs:List V}(h:SqT a.K a.H p xs):SqT b.K b.H p xs:=by
 rcases h with(h|⟨o,h⟩)|h
 ·exact .inl (.inl (x.tup _ _ h))
 ·exact .inl (.inr ⟨o,x.frz _ _ _ h⟩)
 ·exact .inr (by rw[x.k];exact h)
theorem Ext.fzL(x:Ext a b){xs:List V}(h:FzL a.K a.H p xs):FzL b.K b.H p xs:=by
 rcases h with⟨o,h⟩|h
 ·exact .inl ⟨o,x.frz _ _ _ h⟩
 ·exact .inr (by rw[x.k];exact h)
mutual
theorem Rep.mono(x:Ext a b):∀{d:D}{v:V},Rep a d v->Rep b d v
 |.non,_,h=>h
 |.bl _,_,h=>h
 |.int _,_,h=>h
 |.str _,_,h=>h
 |.ty _,_,h=>h
 |.tup ds,v,h=>by obtain⟨p,vs,e,q,r⟩:=h;exact⟨p,vs,e,x.sqT q,Reps.mono x r⟩
 |.fl ds,v,h=>by obtain⟨p,vs,e,q,r⟩:=h;exact⟨p,vs,e,x.fzL q,Reps.mono x r⟩
 |.ref i,v,h=>by obtain⟨l,e⟩:=h;exact⟨zV l x.n,by rw[x.m i l];exact e⟩
theorem Reps.mono(x:Ext a b):∀{ds:List D}{vs:List V},Reps a ds vs->Reps b ds vs
 |[],_,h=>h
 |d::ds,vs,h=>by obtain⟨v,r,e,h1,h2⟩:=h;exact⟨v,r,e,Rep.mono x h1,Reps.mono x h2⟩
end
theorem Reps.length:∀{ds:List D}{vs:List V},Reps a ds vs->ds.length=vs.length
 |[],vs,h=>by cases(show vs=[]from h);rfl
 |d::ds,vs,h=>by obtain⟨v,r,e,h1,h2⟩:=h;subst e;show ds.length+1=r.length+1;rw[Reps.length h2]
theorem Reps.get:∀{ds:List D}{vs:List V}{i:Nat}{d:D},Reps a ds vs->ds[i]?=vB d->∃v,vs[i]?=vB v/\Rep a d v
 |[],vs,_,_,h,e=>by simp at e
 |d::ds,vs,0,d',h,e=>by obtain⟨v,r,e1,h1,h2⟩:=h;subst e1;simp at e;subst e;exact⟨v,rfl,h1⟩
 |d::ds,vs,i+1,d',h,e=>by obtain⟨v,r,e1,h1,h2⟩:=h;subst e1;obtain⟨w,e2,h3⟩:=Reps.get (i:=i) (d:=d') h2 (by simpa using e);exact⟨w,by simpa using e2,h3⟩
theorem Reps.get':∀{ds:List D}{vs:List V}{i:Nat}{v:V},Reps a ds vs->vs[i]?=vB v->∃d,ds[i]?=vB d/\Rep a d v
 |[],vs,_,_,h,e=>by cases(show vs=[]from h);simp at e
 |d::ds,vs,0,v',h,e=>by obtain⟨v,r,e1,h1,h2⟩:=h;subst e1;simp at e;subst e;exact⟨d,rfl,h1⟩
 |d::ds,vs,i+1,v',h,e=>by obtain⟨v,r,e1,h1,h2⟩:=h;subst e1;obtain⟨w,e2,h3⟩:=Reps.get' (i:=i) (v:=v') h2 (by simpa using e);exact⟨w,by simpa using e2,h3⟩
theorem Reps.append:∀{ds es:List D}{vs us:List V},Reps a ds vs->Reps a es us->Reps a (ds++es) (vs++us)
 |[],_,vs,_,h,h'=>by cases(show vs=[]from h);exact h'
 |d::ds,es,vs,us,h,h'=>by obtain⟨v,r,e1,h1,h2⟩:=h;subst e1;exact⟨v,r++us,rfl,h1,Reps.append h2 h'⟩
theorem Reps.cons(h:Rep a d v)(r:Reps a ds vs):Reps a (d::ds) (v::vs):=⟨v,vs,rfl,h,r⟩
theorem Reps.nil:Reps a [] []:=rfl
theorem Reps.set(h:Rep a d v):∀{ds:List D}{vs:List V}(i:Nat),Reps a ds vs->Reps a (ds.set i d) (vs.set i v)
 |[],vs,_,r=>by cases(show vs=[]from r);exact rfl
 |d'::ds,vs,0,r=>by obtain⟨v',r',e1,h1,h2⟩:=r;subst e1;exact⟨v,r',rfl,h,h2⟩
 |d'::ds,vs,i+1,r=>by obtain⟨v',r',e1,h1,h2⟩:=r;subst e1;exact⟨v',r'.set i v,rfl,h1,Reps.set h i h2⟩
theorem Reps.take:∀{ds:List D}{vs:List V}(i:Nat),Reps a ds vs->Reps a (ds.take i) (vs.take i)
 |_,_,0,_=>rfl
 |[],vs,_+1,r=>by cases(show vs=[]from r);exact rfl
 |d'::ds,vs,i+1,r=>by obtain⟨v',r',e1,h1,h2⟩:=r;subst e1;exact⟨v',r'.take i,rfl,h1,Reps.take i h2⟩
theorem Reps.drop:∀{ds:List D}{vs:List V}(i:Nat),Reps a ds vs->Reps a (ds.drop i) (vs.drop i)
 |_,_,0,r=>r
 |[],vs,_+1,r=>by cases(show vs=[]from r);exact rfl
 |d'::ds,vs,i+1,r=>by obtain⟨v',r',e1,h1,h2⟩:=r;subst e1;exact Reps.drop i h2
theorem Reps.ints:∀(ns:List Int),Reps a (ns.map D.int) (ns.map V.int)
 |[]=>rfl
 |n::ns=>⟨.int n,ns.map V.int,rfl,rfl,Reps.ints ns⟩
def RepKV(a:Wd)(kvs:List (Key×D))(us:List (Key×V)):Prop:=kvs.map (·.1)=us.map (·.1)/\Reps a (kvs.map (·.2)) (us.map (·.2))
def RepF(a:Wd)(fs:List (Str×D))(us:List (Str×V)):Prop:=fs.map (·.1)=us.map (·.1)/\Reps a (fs.map (·.2)) (us.map (·.2))
def XD(a:Wd)(od:Option jT)(fs:List (Str×D)):Prop:=(fs=[]/\od=vC)∨∃dx o us,od=vB dx/\a.H dx=vB (.frz o (.xd us))/\RepF a fs us
def ORep(a:Wd):DO->Option HO->Prop
 |.lst ds,o=>∃vs,o=vB (.lst vs)/\Reps a ds vs
 |.dct kvs,o=>∃us,o=vB (.dK us)/\RepKV a kvs us
 |.ins c fs,o=>∃C dx us,PySem.W.nsIn a.K xR c=vB (vB (.ref C))/\o=vB (.ins C dx us)/\RepF a fs us
 |.tab C m,_=>∃c P,TabAt a.K C m c P/\TabOk a.H P
 |.exc c fs,o=>∃C oe u vs,PySem.W.nsIn a.K xR c=vB (vB (.ref C))/\o=vB (.frz oe u)/\oe.cls=.ref C/\oe.data=.fields vs/\XD a oe.dict fs
 |.gone,_=>True
structure Sim (a:Wd) (G:DH):Prop where
 len:G.length=a.n
 inj:∀i j,i<a.n->j<a.n->a.m i=a.m j->i=j
 obj:∀(i:Nat)(o:DO),G[i]?=vB o->ORep a o (a.H (a.m i))
 tr:∀i,i<a.n->a.H (a.m i)≠vC
structure RepS (a:Wd) (S:DSt) (σ:St):Prop where
 len:S.length=σ.length
 get:∀(i:Nat)(d:D),S[i]?=vB (vB d)->∃v,σ[i]?=vB (vB v)/\Rep a d v
theorem RepS.mono(x:Ext a b)(r:RepS a S σ):RepS b S σ:=⟨r.len,λi d h=>let⟨v,e,q⟩:=r.get i d h;⟨v,e,q.mono x⟩⟩
theorem RepS.set(r:RepS a S σ)(i:Nat)(h:Rep a d v):RepS a (S.set i (vB d)) (σ.set i (vB v)):=by
 refine⟨by simpa using r.len,λj e he=>?_⟩;rw[qL]at he⊢;by_cases hij:i=j
 ·subst hij;rw[if_pos rfl]at he⊢;by_cases hl:i<S.length
  ·rw[if_pos hl]at he;have e1:d=e:=by simpa using he
   subst e1;rw[if_pos (by rw[<-r.len];exact hl)];exact⟨v,rfl,h⟩
  ·rw[if_neg hl]at he;cases he
 ·rw[if_neg hij]at he⊢;exact r.get j e he
def XOk(E:XK)(a:Wd)(x:Xn)(G:DH):Prop:=E≠E0/\∀(b:Wd)(C:jT)(od:Option jT),Ext a b->Sim b G->PySem.W.nsIn b.K xR x.cls=vB (vB (.ref C))->XD b od x.fs->E (.ref C) od b.H
def out(E:XK)(a:Wd)(r:R D)(Q:VK):Prop:=match r with
 |.ok d G=>∀(b:Wd)(v:V),Ext a b->Sim b G->Rep b d v->Q v b.H
 |.err x G=>XOk E a x G
 |.bad=>False
def Ew(E:XK)(a:Wd)(r:R Bool)(Q:Bool->Hp->Prop):Prop:=match r with
 |.ok k G=>∀(b:Wd),Ext a b->Sim b G->Q k b.H
 |.err x G=>XOk E a x G
 |.bad=>False
def Eu(E:XK)(a:Wd)(r:R (List D))(Q:List V->Hp->Prop):Prop:=match r with
 |.ok ds G=>∀(b:Wd)(vs:List V),Ext a b->Sim b G->Reps b ds vs->Q vs b.H
 |.err x G=>XOk E a x G
 |.bad=>False
def Br(E:XK)(a:Wd)(r:SR)(W:Ends):Prop:=match r with
 |.nx S G=>∀(b:Wd)(σ:St),Ext a b->Sim b G->RepS b S σ->W.nx σ b.H
 |.bk S G=>∀(b:Wd)(σ:St),Ext a b->Sim b G->RepS b S σ->W.bk σ b.H
 |.ct S G=>∀(b:Wd)(σ:St),Ext a b->Sim b G->RepS b S σ->W.ct σ b.H
 |.rt d G=>∀(b:Wd)(v:V),Ext a b->Sim b G->Rep b d v->W.rt v b.H
 |.err x G=>XOk E a x G
 |.bad=>False
theorem XOk.mono(x:Ext a b){e:Xn}(h:XOk E a e G):XOk E b e G:=⟨h.1,λc C od y s n q=>h.2 c C od (x.trans y) s n q⟩
theorem out.mono(x:Ext a b)(h:out E a r Q):out E b r Q:=by
 cases r with
 |ok d G=>exact λc v y s q=>h c v (x.trans y) s q
 |err e G=>exact XOk.mono (E:=E) (e:=e) (G:=G) x h
 |bad=>exact h
theorem Ew.mono(x:Ext a b){r:R Bool}{Q:Bool->Hp->Prop}(h:Ew E a r Q):Ew E b r Q:=by
 cases r with
 |ok d G=>exact λc y s=>h c (x.trans y) s
 |err e G=>exact XOk.mono (E:=E) (e:=e) (G:=G) x h
 |bad=>exact h
theorem Eu.mono(x:Ext a b){r:R (List D)}{Q:List V->Hp->Prop}(h:Eu E a r Q):Eu E b r Q:=by
 cases r with
 |ok d G=>exact λc vs y s q=>h c vs (x.trans y) s q
 |err e G=>exact XOk.mono (E:=E) (e:=e) (G:=G) x h
 |bad=>exact h
theorem Br.mono(x:Ext a b){r:SR}(h:Br E a r W):Br E b r W:=by
 cases r with
 |nx d G=>exact λc vs y s q=>h c vs (x.trans y) s q
 |bk d G=>exact λc vs y s q=>h c vs (x.trans y) s q
 |ct d G=>exact λc vs y s q=>h c vs (x.trans y) s q
 |rt d G=>exact λc vs y s q=>h c vs (x.trans y) s q
 |err e G=>exact XOk.mono (E:=E) (e:=e) (G:=G) x h
 |bad=>exact h
def lE(K:PySem.W.Frag)(E:XK)(t:DE):TE:=λσ H Q=>∃(a:Wd)(S:DSt)(G:DH),a.K=K/\a.H=H/\Sim a G/\RepS a S σ/\out E a (t S G) Q
def lB(K:PySem.W.Frag)(E:XK)(t:DB):TT:=λσ H Q=>∃(a:Wd)(S:DSt)(G:DH),a.K=K/\a.H=H/\Sim a G/\RepS a S σ/\Ew E a (t S G) Q
def lA(K:PySem.W.Frag)(E:XK)(t:DA):TA:=λσ H Q=>∃(a:Wd)(S:DSt)(G:DH),a.K=K/\a.H=H/\Sim a G/\RepS a S σ/\Eu E a (t S G) Q
def lS(K:PySem.W.Frag)(E:XK)(t:DS):TS:=λW σ H=>∃(a:Wd)(S:DSt)(G:DH),a.K=K/\a.H=H/\Sim a G/\RepS a S σ/\Br E a (t S G) W
def lR2(K:PySem.W.Frag)(E:XK)(f:D->D->DH->R D):R2:=λx y H Q=>∃(a:Wd)(G:DH)(d e:D),a.K=K/\a.H=H/\Sim a G/\Rep a d x/\Rep a e y/\out E a (f d e G) Q
def lR1(K:PySem.W.Frag)(E:XK)(f:D->DH->R D):V->Hp->VK->Prop:=λx H Q=>∃(a:Wd)(G:DH)(d:D),a.K=K/\a.H=H/\Sim a G/\Rep a d x/\out E a (f d G) Q
def lRn(K:PySem.W.Frag)(E:XK)(f:List D->DH->R D):List V->Hp->VK->Prop:=λxs H Q=>∃(a:Wd)(G:DH)(ds:List D),a.K=K/\a.H=H/\Sim a G/\Reps a ds xs/\out E a (f ds G) Q
def lF(K:PySem.W.Frag)(f:List D->DH->R D):Sp:=λxs H Q _=>∃(a:Wd)(G:DH)(ds:List D),a.K=K/\a.H=H/\Sim a G/\Reps a ds xs/\out E0 a (f ds G) Q
def lFx(K:PySem.W.Frag)(f:List D->DH->R D):Sp:=λxs H Q E=>∃(a:Wd)(G:DH)(ds:List D),a.K=K/\a.H=H/\Sim a G/\Reps a ds xs/\out E a (f ds G) Q
section
variable{X:Cx}{E:XK}
def QE(X:Cx)(E:XK)(e:xQ)(t:DE):Prop:=PE X e (lE X.K E t)
def QT(X:Cx)(E:XK)(e:xQ)(t:DB):Prop:=PT X e (lB X.K E t)
def QA(X:Cx)(E:XK)(es:List xQ)(t:DA):Prop:=PA X es (lA X.K E t)
def QS(X:Cx)(E:XK)(st:xK)(t:DS):Prop:=PS X st (lS X.K E t)
def QSs(X:Cx)(E:XK)(st:List xK)(t:DS):Prop:=PSs X st (lS X.K E t)
theorem _root_._L.PE.mono{t t':TE}(h:PE X e t)(w:∀σ H Q,t' σ H Q->t σ H Q):PE X e t':=λvA s σ H Q I q=>h vA s σ H Q I (w σ H Q q)
theorem _root_._L.PT.mono{t t':TT}(h:PT X e t)(w:∀σ H Q,t' σ H Q->t σ H Q):PT X e t':=λvA s σ H Q I q=>h vA s σ H Q I (w σ H Q q)
theorem _root_._L.PA.mono{e:List xQ}{t t':TA}(h:PA X e t)(w:∀σ H Q,t' σ H Q->t σ H Q):PA X e t':=λpos vA s σ H Q I q=>h pos vA s σ H Q I (w σ H Q q)
theorem _root_._L.PS.mono{e:xK}{t t':TS}(h:PS X e t)(w:∀W σ H,t' W σ H->t W σ H):PS X e t':=λvA s σ H W I q=>h vA s σ H W I (w W σ H q)
theorem _root_._L.PSs.mono{e:List xK}{t t':TS}(h:PSs X e t)(w:∀W σ H,t' W σ H->t W σ H):PSs X e t':=λvA s σ H W I q=>h vA s σ H W I (w W σ H q)
theorem _root_._L.OpR.mono{f:xY->xY->Sem xY}{r r':R2}(h:OpR X f r)(w:∀x y H Q,r' x y H Q->r x y H Q):OpR X f r':=λvA s σ H x y v u Q I rx ry q=>h vA s σ H x y v u Q I rx ry (w _ _ _ _ q)
end
theorem Ei{f:D->DH->R D}(h:out E a (r.bind f) Q):
  out E a r (λv H=>∃(b:Wd)(d:D)(G:DH),b.H=H/\Ext a b/\Sim b G/\Rep b d v/\r=.ok d G/\out E b (f d G) Q):=by
 cases r with
 |ok d G=>exact λb v x s q=>⟨b,d,G,rfl,x,s,q,rfl,out.mono x h⟩
 |err e G=>exact h
 |bad=>exact h
theorem La{r:R (List D)}{f:List D->DH->R D}(h:out E a (r.bind f) Q):
  Eu E a r (λvs H=>∃(b:Wd)(ds:List D)(G:DH),b.H=H/\Ext a b/\Sim b G/\Reps b ds vs/\r=.ok ds G/\out E b (f ds G) Q):=by
 cases r with
 |ok d G=>exact λb v x s q=>⟨b,d,G,rfl,x,s,q,rfl,out.mono x h⟩
 |err e G=>exact h
 |bad=>exact h
theorem ZFb{r:R Bool}{f:Bool->DH->R D}(h:out E a (r.bind f) Q):
  Ew E a r (λk H=>∃(b:Wd)(G:DH),b.H=H/\Ext a b/\Sim b G/\r=.ok k G/\out E b (f k G) Q):=by
 cases r with
 |ok d G=>exact λb x s=>⟨b,G,rfl,x,s,rfl,out.mono x h⟩
 |err e G=>exact h
 |bad=>exact h
theorem ZIQ{f:D->DH->R Bool}{Q:Bool->Hp->Prop}(h:Ew E a (r.bind f) Q):
  out E a r (λv H=>∃(b:Wd)(d:D)(G:DH),b.H=H/\Ext a b/\Sim b G/\Rep b d v/\r=.ok d G/\Ew E b (f d G) Q):=by
 cases r with
 |ok d G=>exact λb v x s q=>⟨b,d,G,rfl,x,s,q,rfl,Ew.mono x h⟩
 |err e G=>exact h
 |bad=>exact h
theorem ZE6{r:R Bool}{f:Bool->DH->R Bool}{Q:Bool->Hp->Prop}(h:Ew E a (r.bind f) Q):
  Ew E a r (λk H=>∃(b:Wd)(G:DH),b.H=H/\Ext a b/\Sim b G/\r=.ok k G/\Ew E b (f k G) Q):=by
 cases r with
 |ok d G=>exact λb x s=>⟨b,G,rfl,x,s,rfl,Ew.mono x h⟩
 |err e G=>exact h
 |bad=>exact h
theorem ZIi{f:D->DH->R (List D)}{Q:List V->Hp->Prop}(h:Eu E a (r.bind f) Q):
  out E a r (λv H=>∃(b:Wd)(d:D)(G:DH),b.H=H/\Ext a b/\Sim b G/\Rep b d v/\r=.ok d G/\Eu E b (f d G) Q):=by
 cases r with
 |ok d G=>exact λb v x s q=>⟨b,d,G,rfl,x,s,q,rfl,Eu.mono x h⟩
 |err e G=>exact h
 |bad=>exact h
theorem ZJC{r:R (List D)}{f:List D->DH->R (List D)}{Q:List V->Hp->Prop}(h:Eu E a (r.bind f) Q):
  Eu E a r (λvs H=>∃(b:Wd)(ds:List D)(G:DH),b.H=H/\Ext a b/\Sim b G/\Reps b ds vs/\r=.ok ds G/\Eu E b (f ds G) Q):=by
 cases r with
 |ok d G=>exact λb v x s q=>⟨b,d,G,rfl,x,s,q,rfl,Eu.mono x h⟩
 |err e G=>exact h
 |bad=>exact h
noncomputable def R.toS{α:Type}(r:R α)(f:α->DH->SR):SR:=match r with
 |.ok a G=>f a G
 |.err x G=>.err x G
 |.bad=>.bad
@[simp]theorem R.Dk(a:α)(G:DH)(f:α->DH->SR):(R.ok a G).toS f=f a G:=id rfl
@[simp]theorem R.ZPz(x:Xn)(G:DH)(f:α->DH->SR):(R.err x G:R α).toS f=.err x G:=id rfl
@[simp]theorem R.ZPm(f:α->DH->SR):(R.bad:R α).toS f=.bad:=id rfl
theorem Ge{f:D->DH->SR}(h:Br E a (r.toS f) W):
  out E a r (λv H=>∃(b:Wd)(d:D)(G:DH),b.H=H/\Ext a b/\Sim b G/\Rep b d v/\r=.ok d G/\Br E b (f d G) W):=by
 cases r with
 |ok d G=>exact λb v x s q=>⟨b,d,G,rfl,x,s,q,rfl,Br.mono x h⟩
 |err e G=>exact h
 |bad=>exact h
theorem ZDp{r:R Bool}{f:Bool->DH->SR}(h:Br E a (r.toS f) W):
  Ew E a r (λk H=>∃(b:Wd)(G:DH),b.H=H/\Ext a b/\Sim b G/\r=.ok k G/\Br E b (f k G) W):=by
 cases r with
 |ok d G=>exact λb x s=>⟨b,G,rfl,x,s,rfl,Br.mono x h⟩
 |err e G=>exact h
 |bad=>exact h
section
theorem out.imp{Q':VK}(h:out E a r Q)(w:∀v H,Q v H->Q' v H):out E a r Q':=by
 cases r with
 |ok d G=>exact λb v x s q=>w _ _ (h b v x s q)
 |err e G=>exact h
 |bad=>exact h
theorem Eu.imp{r:R (List D)}{Q Q':List V->Hp->Prop}(h:Eu E a r Q)(w:∀v H,Q v H->Q' v H):Eu E a r Q':=by
 cases r with
 |ok d G=>exact λb v x s q=>w _ _ (h b v x s q)
 |err e G=>exact h
 |bad=>exact h
theorem Ew.imp{r:R Bool}{Q Q':Bool->Hp->Prop}(h:Ew E a r Q)(w:∀v H,Q v H->Q' v H):Ew E a r Q':=by
 cases r with
 |ok d G=>exact λb x s=>w _ _ (h b x s)
 |err e G=>exact h
 |bad=>exact h
def Wd.push(a:Wd)(p:jT)(ho:HO):Wd:=⟨a.K,a.n+1,λk=>if k=a.n then p else a.m k,upd a.H p ho⟩
def Wd.put(a:Wd)(p:jT)(ho:HO):Wd:={a with H:=upd a.H p ho}
theorem Ext.put(h:a.H p=vC):Ext a (a.put p ho):=
 ⟨rfl,zW _,λ_ _=>rfl,λq xs e=>by show upd a.H p ho q=_;rw[Ay (Gf e h)];exact e,λq o u e=>by show upd a.H p ho q=_;rw[Ay (Gf e h)];exact e,λ_ t=>t.mono (λq ps e=>by show upd a.H p ho q=_;rw[Ay (Gf e h)];exact e) (λq o u e=>by show upd a.H p ho q=_;rw[Ay (Gf e h)];exact e)⟩
theorem Ext.push(h:a.H p=vC):Ext a (a.push p ho):=
 ⟨rfl,jX _,λi hi=>by show(if i=a.n then p else a.m i)=a.m i;rw[if_neg (zE hi)],λq xs e=>by show upd a.H p ho q=_;rw[Ay (Gf e h)];exact e,λq o u e=>by show upd a.H p ho q=_;rw[Ay (Gf e h)];exact e,λ_ t=>t.mono (λq ps e=>by show upd a.H p ho q=_;rw[Ay (Gf e h)];exact e) (λq o u e=>by show upd a.H p ho q=_;rw[Ay (Gf e h)];exact e)⟩
theorem XD.mono(x:Ext a b){od:Option jT}{fs:List (Str×D)}(h:XD a od fs):XD b od fs:=by
 rcases h with h|⟨dx,o,us,e,f,k,r⟩
 ·exact .inl h
 ·exact .inr ⟨dx,o,us,e,x.frz _ _ _ f,k,r.mono x⟩
theorem ORep.mono(x:Ext a b){q:Option HO}(h:ORep a o q):ORep b o q:=by
 cases o with
 |lst ds=>obtain⟨vs,e,r⟩:=h;exact⟨vs,e,r.mono x⟩
 |dct kvs=>obtain⟨us,e,k,r⟩:=h;exact⟨us,e,k,r.mono x⟩
 |ins c fs=>obtain⟨C,dx,us,n,e,k,r⟩:=h;exact⟨C,dx,us,by rw[x.k];exact n,e,k,r.mono x⟩
 |tab C m=>obtain⟨c,P,e,t⟩:=h;exact⟨c,P,by rw[x.k];exact e,x.tab _ t⟩
 |exc c fs=>obtain⟨C,oe,u,vs,n,e,k1,k2,z⟩:=h;exact⟨C,oe,u,vs,by rw[x.k];exact n,e,k1,k2,z.mono x⟩
 |gone=>trivial
theorem Sim.lt(s:Sim a G)(h:G[i]?=vB o):i<a.n:=by rw[<-s.len];exact(zH.mp h).1
theorem Sim.put(s:Sim a G)(h:a.H p=vC):Sim (a.put p ho) G:=by
 refine⟨s.len,s.inj,λi o e=>?_,λi hi=>?_⟩
 ·have z:a.H (a.m i)≠vC:=s.tr i (s.lt e);have ne:a.m i≠p:=λq=>z (by rw[q];exact h)
  show ORep _ o (upd a.H p ho (a.m i));rw[Ay ne];exact(s.obj i o e).mono (Ext.put h)
 ·have z:a.H (a.m i)≠vC:=s.tr i hi;have ne:a.m i≠p:=λq=>z (by rw[q];exact h)
  show upd a.H p ho (a.m i)≠vC;rw[Ay ne];exact z
theorem Sim.push(s:Sim a G)(h:a.H p=vC)(r:ORep (a.push p ho) o (vB ho)):Sim (a.push p ho) (G++[o]):=by
 have nep:∀i,i<a.n->a.m i≠p:=λi hi q=>s.tr i hi (by rw[q];exact h)
 have old:∀i,i<a.n->(a.push p ho).m i=a.m i:=λi hi=>by show(if i=a.n then p else a.m i)=_;rw[if_neg (zE hi)]
 have new:(a.push p ho).m a.n=p:=by show(if a.n=a.n then p else a.m a.n)=_;rw[if_pos rfl]
 refine⟨by simp[s.len,Wd.push],λi j hi hj e=>?_,λi u e=>?_,λi hi=>?_⟩
 ·have hi':i<a.n+1:=hi;have hj':j<a.n+1:=hj;by_cases h1:i<a.n
  ·by_cases h2:j<a.n
   ·rw[old i h1,old j h2]at e;exact s.inj i j h1 h2 e
   ·have:j=a.n:=by lia
    subst this;rw[old i h1,new]at e;exact absurd e (nep i h1)
  ·have:i=a.n:=by lia
   subst this;by_cases h2:j<a.n
   ·rw[old j h2,new]at e;exact absurd e.symm (nep j h2)
   ·lia
 ·by_cases h1:i<a.n
  ·rw[zL (by rw[s.len];exact h1)]at e;rw[old i h1];show ORep _ u (upd a.H p ho (a.m i));rw[Ay (nep i h1)];exact(s.obj i u e).mono (Ext.push h)
  ·have hl:i<(G++[o]).length:=(zH.mp e).1;have:i=a.n:=by rw[zT,s.len]at hl;simp at hl;lia
   subst this;rw[zI (by rw[s.len];exact zW _),s.len]at e;simp at e;subst e;rw[new];show ORep _ o (upd a.H p ho p);rw[Eo];exact r
 ·have hi':i<a.n+1:=hi;by_cases h1:i<a.n
  ·rw[old i h1];show upd a.H p ho (a.m i)≠vC;rw[Ay (nep i h1)];exact s.tr i h1
  ·have:i=a.n:=by lia
   subst this;rw[new];show upd a.H p ho p≠vC;rw[Eo];simp
theorem Ext.wr(h:a.H p=vB (.lst vs)):Ext a (a.put p ho):=
 ⟨rfl,zW _,λ_ _=>rfl,λq xs e=>by
  show upd a.H p ho q=_;rw[Ay (λz=>by subst z;rw[h]at e;cases e)];exact e,λq o u e=>by
  show upd a.H p ho q=_;rw[Ay (λz=>by subst z;rw[h]at e;cases e)];exact e,λ_ t=>t.mono (λq ps e=>by show upd a.H p ho q=_;rw[Ay (λz=>by subst z;rw[h]at e;cases e)];exact e) (λq o u e=>by show upd a.H p ho q=_;rw[Ay (λz=>by subst z;rw[h]at e;cases e)];exact e)⟩
theorem Sim.wr(s:Sim a G)(hi:i<a.n){vs':List V}{ds':List D}(h:a.H (a.m i)=vB (.lst vs))(r:Reps (a.put (a.m i) (.lst vs')) ds' vs'):Sim (a.put (a.m i) (.lst vs')) (G.set i (.lst ds')):=by
 refine⟨by rw[jz];exact s.len,s.inj,λj o e=>?_,λj hj=>?_⟩
 ·rw[qL]at e;show ORep _ o (upd a.H (a.m i) (.lst vs') (a.m j));by_cases hij:i=j
  ·subst hij;rw[if_pos rfl,if_pos (by rw[s.len];exact hi)]at e;cases e;rw[Eo];exact⟨vs',rfl,r⟩
  ·rw[if_neg hij]at e;rw[Ay λz=>hij (s.inj _ _ (s.lt e) hi z).symm];exact(s.obj j o e).mono (Ext.wr h)
 ·show upd a.H (a.m i) (.lst vs') (a.m j)≠vC;by_cases hij:a.m j=a.m i
  ·rw[hij,Eo];simp
  ·rw[Ay hij];exact s.tr j hj
mutual
noncomputable def bel(n:Nat):D->Bool
 |.ref i=>decide (i<n)
 |.tup ds=>bels n ds
 |.fl ds=>bels n ds
 |_=>vD
noncomputable def bels(n:Nat):List D->Bool
 |[]=>vD
 |d::ds=>bel n d&&bels n ds
end
def Jf(n:Nat):DO->Bool
 |.lst ds=>bels n ds
 |.dct kvs=>bels n (kvs.map (·.2))
 |.ins _ fs=>bels n (fs.map (·.2))
 |.tab _ _=>vD
 |.exc _ fs=>bels n (fs.map (·.2))
 |.gone=>vD
mutual
theorem Rep.bel:∀{d:D}{v:V},Rep a d v->bel a.n d=vD
 |.non,_,_=>by simp[_D.bel]
 |.bl _,_,_=>by simp[_D.bel]
 |.int _,_,_=>by simp[_D.bel]
 |.str _,_,_=>by simp[_D.bel]
 |.ty _,_,_=>by simp[_D.bel]
 |.tup ds,v,h=>by obtain⟨p,vs,e,q,r⟩:=h;simp only[_D.bel];exact Reps.bels r
 |.fl ds,v,h=>by obtain⟨p,vs,e,q,r⟩:=h;simp only[_D.bel];exact Reps.bels r
 |.ref i,v,h=>by obtain⟨l,e⟩:=h;simp only[_D.bel];exact decide_eq_true l
theorem Reps.bels:∀{ds:List D}{vs:List V},Reps a ds vs->bels a.n ds=vD
 |[],_,_=>by simp[_D.bels]
 |d::ds,vs,h=>by
  obtain⟨v,r,e,h1,h2⟩:=h;simp only[_D.bels];rw[Rep.bel h1,Reps.bels h2]
  rfl
end
structure Cut (b c:Wd):Prop where
 k:c.K=b.K
 h:c.H=b.H
mutual
theorem Rep.cut{c:Wd}(x:Cut b c){n:Nat}(hn:n<=c.n)(hm:∀i,i<n->c.m i=b.m i):∀{d:D}{v:V},Rep b d v->bel n d=vD->Rep c d v
 |.non,_,h,_=>h
 |.bl _,_,h,_=>h
 |.int _,_,h,_=>h
 |.str _,_,h,_=>h
 |.ty _,_,h,_=>h
 |.tup ds,v,h,q=>by obtain⟨p,vs,e,t,r⟩:=h;simp only[_D.bel]at q;exact⟨p,vs,e,by rw[x.k,x.h];exact t,Reps.cut x hn hm r q⟩
 |.fl ds,v,h,q=>by obtain⟨p,vs,e,t,r⟩:=h;simp only[_D.bel]at q;exact⟨p,vs,e,by rw[x.k,x.h];exact t,Reps.cut x hn hm r q⟩
 |.ref i,v,h,q=>by obtain⟨l,e⟩:=h;simp only[_D.bel]at q;have q':=of_decide_eq_true q;exact⟨zV q' hn,by rw[hm i q'];exact e⟩
theorem Reps.cut{c:Wd}(x:Cut b c){n:Nat}(hn:n<=c.n)(hm:∀i,i<n->c.m i=b.m i):∀{ds:List D}{vs:List V},Reps b ds vs->bels n ds=vD->Reps c ds vs
 |[],_,h,_=>h
 |d::ds,vs,h,q=>by obtain⟨v,r,e,h1,h2⟩:=h;simp only[_D.bels,zB]at q;exact⟨v,r,e,Rep.cut x hn hm h1 q.1,Reps.cut x hn hm h2 q.2⟩
end
theorem ORep.cut{c:Wd}(x:Cut b c){n:Nat}(hn:n<=c.n)(hm:∀i,i<n->c.m i=b.m i){q:Option HO}(h:ORep b o q)(l:Jf n o=vD):ORep c o q:=by
 cases o with
 |lst ds=>obtain⟨vs,e,r⟩:=h;exact⟨vs,e,Reps.cut x hn hm r l⟩
 |dct kvs=>obtain⟨us,e,k,r⟩:=h;exact⟨us,e,k,Reps.cut x hn hm r l⟩
 |ins c fs=>obtain⟨C,dx,us,n,e,k,r⟩:=h;exact⟨C,dx,us,by rw[x.k];exact n,e,k,Reps.cut x hn hm r l⟩
 |tab C m=>obtain⟨c,P,e,t⟩:=h;exact⟨c,P,by rw[x.k];exact e,by rw[x.h];exact t⟩
 |exc c fs=>
  obtain⟨C,oe,u,vs,n,e,k1,k2,z⟩:=h;refine⟨C,oe,u,vs,by rw[x.k];exact n,e,k1,k2,?_⟩;rcases z with z|⟨dx,o,us,e,f,k,r⟩
  ·exact .inl z
  ·exact .inr ⟨dx,o,us,e,by rw[x.h];exact f,k,Reps.cut x hn hm r l⟩
 |gone=>trivial
theorem ORep.Jf{q:Option HO}(h:ORep a o q):Jf a.n o=vD:=by
 cases o with
 |lst ds=>obtain⟨vs,e,r⟩:=h;exact r.bels
 |dct kvs=>obtain⟨us,e,k,r⟩:=h;exact r.bels
 |ins c fs=>obtain⟨C,dx,us,n,e,k,r⟩:=h;exact r.bels
 |tab C m=>rfl
 |exc c fs=>
  obtain⟨C,oe,u,vs,n,e,k1,k2,z⟩:=h;rcases z with⟨z,_⟩|⟨dx,o,us,e,f,k,r⟩
  ·rw[z];rfl
  ·exact r.bels
 |gone=>rfl
open Classical in
def tidy (G:DH) (r:R D):R D:=match r with
 | .ok d G'=>if G'.take G.length=G then
   (if bel G.length d=vD then .ok d G else match d with
    |.ref i=>match G'[i]? with
     |some o=>if Jf G.length o=vD then .ok (.ref G.length) (G++[o])else .ok d G'
     |none=>.ok d G'
    |_=>.ok d G')else .ok d G'
 |r=>r
theorem Vb (s:Sim a G) (h:out E a (tidy G r) Q):out E a r Q:=by
 cases r with
 |err e G'=>exact h
 |bad=>exact h
 | ok d G'=>
  intro b v x sb rb;unfold tidy at h;dsimp only at h;split at h
  ·rename_i hG;have hlen:∀i o,G[i]?=vB o->G'[i]?=vB o:=λi o e=>by have hi:i<G.length:=(zH.mp e).1;rw[<-hG,jY hi]at e;exact e
   have base:∀(c:Wd),Cut b c->a.n<=c.n->(∀i,i<a.n->c.m i=b.m i)->∀i o,G[i]?=vB o->ORep c o (c.H (c.m i)):=λc cc hn hm i o e=>by have q:=sb.obj i o (hlen i o e);rw[cc.h,hm i (s.lt e)];exact q.cut cc hn hm (s.obj i o e).Jf
   split at h
   ·rename_i hb;rw[s.len]at hb;let c:Wd:=⟨b.K,a.n,b.m,b.H⟩;have cc:Cut b c:=⟨rfl,rfl⟩;refine h c v ⟨x.k,zW _,x.m,x.tup,x.frz,x.tab⟩ ⟨s.len,λi j hi hj=>sb.inj i j (zV hi x.n) (zV hj x.n),base c cc (zW _) (λ_ _=>rfl),λi hi=>sb.tr i (zV hi x.n)⟩ ?_;exact rb.cut cc (zW _) (λ_ _=>rfl) hb
   ·rename_i hb;split at h
    ·rename_i i;obtain⟨il,iv⟩:=rb;split at h
     ·rename_i o ho;split at h
      ·rename_i hbo;rw[s.len]at hbo hb h;simp only[_D.bel,decide_eq_true_eq]at hb;let c:Wd:=⟨b.K,a.n+1,λk=>if k=a.n then b.m i else b.m k,b.H⟩;have cc:Cut b c:=⟨rfl,rfl⟩;have cm:∀j,j<a.n->c.m j=b.m j:=λj hj=>by show(if j=a.n then b.m i else b.m j)=_;rw[if_neg (zE hj)]
       have cn:c.m a.n=b.m i:=by show(if a.n=a.n then b.m i else b.m a.n)=_;rw[if_pos rfl]
       have lt':∀j,j<a.n->j<b.n:=λj hj=>zV hj x.n
       refine h c v ⟨x.k,jX _,λj hj=>(cm j hj).trans (x.m j hj),x.tup,x.frz,x.tab⟩ ⟨by simp[s.len,c],λj k hj hk e=>?_,λj u e=>?_,λj hj=>?_⟩ ⟨qX _,by rw[cn];exact iv⟩
       ·have hj':j<a.n+1:=hj;have hk':k<a.n+1:=hk;by_cases h1:j<a.n
        ·by_cases h2:k<a.n
         ·rw[cm j h1,cm k h2]at e;exact sb.inj j k (lt' j h1) (lt' k h2) e
         ·have:k=a.n:=by lia
          subst this;rw[cm j h1,cn]at e;have:=sb.inj j i (lt' j h1) il e;lia
        ·have:j=a.n:=by lia
         subst this;by_cases h2:k<a.n
         ·rw[cm k h2,cn]at e;have:=sb.inj i k il (lt' k h2) e;lia
         ·lia
       ·by_cases h1:j<a.n
        ·rw[zL (by rw[s.len];exact h1)]at e;exact base c cc (jX _) cm j u e
        ·have hl:j<(G++[o]).length:=(zH.mp e).1;have:j=a.n:=by rw[zT,s.len]at hl;simp at hl;lia
         subst this;rw[zI (by rw[s.len];exact zW _),s.len]at e;simp at e;subst e;rw[cn];exact(sb.obj i o ho).cut cc (jX _) cm hbo
       ·have hj':j<a.n+1:=hj;by_cases h1:j<a.n
        ·rw[cm j h1];exact sb.tr j (lt' j h1)
        ·have:j=a.n:=by lia
         subst this;rw[cn];exact sb.tr i il
      ·exact h b v x sb ⟨il,iv⟩
     ·exact h b v x sb ⟨il,iv⟩
    ·exact h b v x sb rb
  ·exact h b v x sb rb
end
noncomputable def dV(i:Nat):DE:=λS G=>match S[i]? with
 |some (vB d)=>.ok d G
 |_=>.bad
noncomputable def dC(d:D):DE:=λ_ G=>.ok d G
def dOp(f:D->D->DH->R D)(a b:DE):DE:=λS G=>(a S G).bind λx G1=>(b S G1).bind λy G2=>f x y G2
def dUn(f:D->DH->R D)(a:DE):DE:=λS G=>(a S G).bind f
noncomputable def Ad:DA:=λ_ G=>.ok [] G
def Ab(a:DE)(r:DA):DA:=λS G=>(a S G).bind λx G1=>(r S G1).bind λxs G2=>.ok (x::xs) G2
def dFn(f:List D->DH->R D)(t:DA):DE:=λS G=>(t S G).bind f
def Di(t:DE):DE:=λS G=>tidy G (t S G)
def asB:D->DH->R Bool
 |.bl k,G=>.ok k G
 |_,_=>.bad
def Bl(t:DE):DB:=λS G=>(t S G).bind asB
def dOr(t u:DB):DB:=λS G=>(t S G).bind λk G1=>if k=vD then .ok vD G1 else u S G1
def ZBO(t:DB):DB:=λS G=>(t S G).bind λk G1=>.ok (!k) G1
def Qc(t u:DE):DE:=λS G=>(t S G).bind λx G1=>(asB x G1).bind λk G2=>if k=vD then u S G2 else .ok (.bl vE) G2
def Xr(t u:DE):DE:=λS G=>(t S G).bind λx G1=>(asB x G1).bind λk G2=>if k=vD then .ok (.bl vD) G2 else u S G2
def Zw(t:DE):DE:=λS G=>(t S G).bind λx G1=>(asB x G1).bind λk G2=>.ok (.bl (!k)) G2
def dIf(c:DB)(t u:DE):DE:=λS G=>(c S G).bind λk G1=>if k=vD then t S G1 else u S G1
def V5(f g:D->D->DH->R D)(a b c:DE):DE:=λS G=>(a S G).bind λx G1=>(b S G1).bind λy G2=>(f x y G2).bind λz G3=>(asB z G3).bind λk G4=>
 if k=vD then(c S G4).bind λw G5=>g y w G5 else .ok (.bl vE) G4
noncomputable def Bj(ds:List D)(G:DH):R D:=if ds.length<=1000000 then .ok (.tup ds) G else .bad
noncomputable def Aw(ds:List D)(G:DH):R D:=if ds.length<=1000000 then .ok (.ref G.length) (G++[.lst ds])else .bad
noncomputable def Bk(d:D)(G:DH):Option (List D):=match d with
 |.tup xs=>vB xs
 |.fl xs=>vB xs
 |.ref i=>match G[i]? with
  |some (.lst xs)=>vB xs
  |_=>vC
 |_=>vC
theorem size6:(1000000:Nat)<=sizeLine:=by decide
section
variable{X:Cx}{E:XK}{a b c:xQ}{ta tb tc:DE}{pos:Pos}
theorem two{K:PySem.W.Frag}(h:lE K E (dOp f ta tb) σ H Q):tOp (lR2 K E f) (lE K E ta) (lE K E tb) σ H Q:=by obtain⟨a,S,G,hk,rfl,s,r,h⟩:=h;refine⟨a,S,G,hk,rfl,s,r,(Ei h).imp ?_⟩;rintro v _ ⟨b,d,G1,rfl,x,s1,q,_,h1⟩;refine⟨b,S,G1,x.k.trans hk,rfl,s1,r.mono x,(Ei h1).imp ?_⟩;rintro w _ ⟨c,e,G2,rfl,y,s2,q2,_,h2⟩;exact⟨c,G2,d,e,y.k.trans (x.k.trans hk),rfl,s2,q.mono y,q2,h2⟩
theorem Aa(i:Nat){pos:Pos}(hN:X.N[i]?=vB x:=by rfl)(hv:Vis X.env.scope x:=by first|exact Or.inl rfl|exact Or.inr (Or.inl rfl)|exact Or.inr (Or.inr rfl))(hd:(x==("__debug__":Str))=vE:=by decide)
  (hcd:(x==("__classdict__":Str))=vE:=by decide):QE X E (.Name x pos) (dV i):=by
 refine(Ol hN hv hd hcd).mono λσ H Q h=>?_
 obtain⟨a,S,G,hk,rfl,s,r,h⟩:=h;unfold dV at h;split at h
 ·rename_i d e;obtain⟨v,e',q⟩:=r.get i d e;exact⟨v,e',h a v (Ext.refl a) s q⟩
 ·exact h.elim
theorem Ms{K:PySem.W.Frag}(h:lE K E (dC d) σ H Q)(r:∀a:Wd,a.K=K->Rep a d v):Q v H:=by obtain⟨a,S,G,hk,rfl,s,_,h⟩:=h;exact h a v (Ext.refl a) s (r a hk)
theorem Ag{i:Int}:QE X E (.Constant (.int i) j pos) (dC (.int i)):=ZLs.mono λσ H Q h=>Ms h λ_ _=>rfl
theorem ZMo{i:Bool}:QE X E (.Constant (.bool i) j pos) (dC (.bl i)):=ZJF.mono λσ H Q h=>Ms h λ_ _=>rfl
theorem Gm:QE X E (.Constant .none j pos) (dC .non):=ZMG.mono λσ H Q h=>Ms h λ_ _=>rfl
theorem Gr{i:Str}:QE X E (.Constant (.str i) j pos) (dC (.str i)):=Vh.mono λσ H Q h=>Ms h λ_ _=>rfl
theorem Bp{u:xY}(hg:Gl X x)(hm:X.mg x=vB u)(r:RelV v u)(rd:∀a:Wd,a.K=X.K->Rep a d v)(hd:(x==("__debug__":Str))=vE:=by decide):QE X E (.Name x pos) (dC d):=
 (ZNw hg hm r hd).mono λσ H Q h=>Ms h rd
theorem Ar{op:Operator}(ho:OpR X (x9 op) (lR2 X.K E f))(ha:QE X E a ta)(hb:QE X E b tb):QE X E (.BinOp a op b pos) (dOp f ta tb):=
 (ZK3 ho ha hb).mono λ_ _ _ h=>two h
theorem Vy{op:CmpOp}(ho:OpR X (xE op) (lR2 X.K E f))(ha:QE X E a ta)(hb:QE X E b tb)(hm:x8 op b=vE):QE X E (.Compare a [op] [b] pos) (dOp f ta tb):=
 (ZGb ho ha hb hm).mono λ_ _ _ h=>two h
theorem Zg{K:PySem.W.Frag}{Q:Bool->Hp->Prop}(h:lB K E (Bl t) σ H Q):Om (lE K E t) σ H Q:=by
 obtain⟨a,S,G,hk,rfl,s,r,h⟩:=h;refine⟨a,S,G,hk,rfl,s,r,(ZIQ h).imp ?_⟩;rintro v _ ⟨b,d,G1,rfl,x,s1,q,_,h1⟩;cases d with
 |bl k=>exact⟨k,q,h1 b (Ext.refl b) s1⟩
 |_=>exact h1.elim
theorem ZEH{t t':TE}(w:∀σ H Q,t' σ H Q->t σ H Q)(σ:St)(H:Hp)(Q:Bool->Hp->Prop)(h:Om t' σ H Q):Om t σ H Q:=w _ _ _ h
theorem Bt{op:CmpOp}(ho:OpR X (xE op) (lR2 X.K E f))(ha:QE X E a ta)(hb:QE X E b tb)(hm:x8 op b=vE):QT X E (.Compare a [op] [b] pos) (Bl (dOp f ta tb)):=
 (ZGk ho ha hb hm).mono λσ H Q h=>ZEH (λ_ _ _ z=>two z) σ H Q (Zg h)
theorem chain{K:PySem.W.Frag}{g:D->D->DH->R D}(h:lE K E (V5 f g ta tb tc) σ H Q):ZFr (lR2 K E f) (lR2 K E g) (lE K E ta) (lE K E tb) (lE K E tc) σ H Q:=by
 obtain⟨a,S,G,hk,rfl,s,r,h⟩:=h;refine⟨a,S,G,hk,rfl,s,r,(Ei h).imp ?_⟩;rintro v _ ⟨b,d,G1,rfl,x,s1,q,_,h1⟩;refine⟨b,S,G1,x.k.trans hk,rfl,s1,r.mono x,(Ei h1).imp ?_⟩;rintro w _ ⟨c,e,G2,rfl,y,s2,q2,_,h2⟩;refine⟨c,G2,d,e,y.k.trans (x.k.trans hk),rfl,s2,q.mono y,q2,(Ei h2).imp ?_⟩;rintro z _ ⟨c3,e3,G3,rfl,y3,s3,q3,_,h3⟩;cases e3 with
 | bl k=>
  refine⟨k,q3,?_⟩;cases k with
  |false=>exact h3 c3 (.bl vE) (Ext.refl _) s3 rfl
  |true=>
   refine⟨c3,S,G3,(y3.k.trans (y.k.trans (x.k.trans hk))),rfl,s3,((r.mono x).mono y).mono y3,(Ei h3).imp ?_⟩;rintro z4 _ ⟨c4,e4,G4,rfl,y4,s4,q4,_,h4⟩;exact⟨c4,G4,e,e4,y4.k.trans (y3.k.trans (y.k.trans (x.k.trans hk))),rfl,s4,(q2.mono y3).mono y4,q4,h4⟩
 |_=>exact h3.elim
theorem ZMP{op op':CmpOp}{g:D->D->DH->R D}(ho:OpR X (xE op) (lR2 X.K E f))(ho':OpR X (xE op') (lR2 X.K E g))(ha:QE X E a ta)(hb:QE X E b tb)(hc:QE X E c tc)
  (hm:lastMarks [op,op'] [b,c]=vE:=by with_unfolding_all rfl):QT X E (.Compare a [op,op'] [b,c] pos) (Bl (V5 f g ta tb tc)):=
 (ZOs ho ho' ha hb hc hm).mono λσ H Q h=>ZEH (λ_ _ _ z=>chain z) σ H Q (Zg h)
theorem ZBr(ha:QE X E a ta)(he:∀whole,isTrue a X.env whole=(do let v<-whole;standAt a.pos;holding [v] (truthy v)):=by intro _;rfl):QT X E a (Bl ta):=
 (ZOI ha he).mono λσ H Q h=>Zg h
theorem Ef(ha:QE X E a ta):QE X E a (Di ta):=_L.PE.mono ha λσ H Q h=>by obtain⟨w,S,G,hk,rfl,s,r,h⟩:=h;exact⟨w,S,G,hk,rfl,s,r,Vb s h⟩
def QW(X:Cx)(E:XK)(e:xQ)(t:DB):Prop:=PW X e (lB X.K E t)
theorem _root_._L.PW.mono{t t':TT}(h:PW X e t)(w:∀σ H Q,t' σ H Q->t σ H Q):PW X e t':=λwh vA s σ H Q I q=>h wh vA s σ H Q I (w σ H Q q)
variable{u t:DB}{rest:List xQ}
theorem ZGq{K:PySem.W.Frag}{Q:Bool->Hp->Prop}(h:lB K E (dOr t u) σ H Q):tOr (lB K E t) (lB K E u) σ H Q:=by
 obtain⟨a,S,G,hk,rfl,s,r,h⟩:=h;refine⟨a,S,G,hk,rfl,s,r,(ZE6 h).imp ?_⟩;rintro k _ ⟨b,G1,rfl,x,s1,_,h1⟩;cases k with
 |true=>exact h1 b (Ext.refl b) s1
 |false=>exact⟨b,S,G1,x.k.trans hk,rfl,s1,r.mono x,h1⟩
theorem Tj(ha:QT X E a t):QW X E (.BoolOp .Or [a] pos) t:=pw_or1 ha
theorem R8(ha:QT X E a t)(hb:QW X E (.BoolOp .Or (b::rest) pos) u):QW X E (.BoolOp .Or (a::b::rest) pos) (dOr t u):=(pw_or ha hb).mono λ_ _ _ h=>ZGq h
theorem Rm(h:QW X E a t):QT X E a t:=_L.PW.pt h
theorem ZHt(ha:QT X E a t):QT X E (.UnaryOp .Not a pos) (ZBO t):=(ZOv ha).mono λσ H Q h=>by obtain⟨a,S,G,hk,rfl,s,r,h⟩:=h;refine⟨a,S,G,hk,rfl,s,r,(ZE6 h).imp ?_⟩;rintro k _ ⟨b,G1,rfl,x,s1,_,h1⟩;exact h1 b (Ext.refl b) s1
theorem ZAu{op}(h:QE X E a ta):QE X E (.BoolOp op [a] pos) ta:=ZMi h
theorem ZBi(ha:QE X E a ta)(hb:QE X E (.BoolOp .And (b::rest) pos) tb):QE X E (.BoolOp .And (a::b::rest) pos) (Qc ta tb):=(ZH1 ha hb).mono λσ H Q h=>by
 obtain⟨a,S,G,hk,rfl,s,r,h⟩:=h;refine⟨a,S,G,hk,rfl,s,r,(Ei h).imp ?_⟩;rintro v _ ⟨b,d,G1,rfl,x,s1,q,_,h1⟩;cases d with
 |bl k=>
  refine⟨k,q,?_⟩;cases k with
  |true=>exact⟨b,S,G1,x.k.trans hk,rfl,s1,r.mono x,h1⟩
  |false=>exact h1 b _ (Ext.refl b) s1 rfl
 |_=>exact h1.elim
theorem ZG8(ha:QE X E a ta)(hb:QE X E (.BoolOp .Or (b::rest) pos) tb):QE X E (.BoolOp .Or (a::b::rest) pos) (Xr ta tb):=(ZOR ha hb).mono λσ H Q h=>by
 obtain⟨a,S,G,hk,rfl,s,r,h⟩:=h;refine⟨a,S,G,hk,rfl,s,r,(Ei h).imp ?_⟩;rintro v _ ⟨b,d,G1,rfl,x,s1,q,_,h1⟩;cases d with
 |bl k=>
  refine⟨k,q,?_⟩;cases k with
  |false=>exact⟨b,S,G1,x.k.trans hk,rfl,s1,r.mono x,h1⟩
  |true=>exact h1 b _ (Ext.refl b) s1 rfl
 |_=>exact h1.elim
theorem ZH5(ha:QE X E a ta):QE X E (.UnaryOp .Not a pos) (Zw ta):=(ZI5 ha).mono λσ H Q h=>by
 obtain⟨a,S,G,hk,rfl,s,r,h⟩:=h;refine⟨a,S,G,hk,rfl,s,r,(Ei h).imp ?_⟩;rintro v _ ⟨b,d,G1,rfl,x,s1,q,_,h1⟩;cases d with
 |bl k=>exact⟨k,q,h1 b _ (Ext.refl b) s1 rfl⟩
 |_=>exact h1.elim
theorem ZNP(hc:QT X E c t)(ha:QE X E a ta)(hb:QE X E b tb):QE X E (.IfExp c a b pos) (dIf t ta tb):=(ZKU hc ha hb).mono λσ H Q h=>by
 obtain⟨a,S,G,hk,rfl,s,r,h⟩:=h;refine⟨a,S,G,hk,rfl,s,r,(ZFb h).imp ?_⟩;rintro k _ ⟨b,G1,rfl,x,s1,_,h1⟩;cases k with
 |true=>exact⟨b,S,G1,x.k.trans hk,rfl,s1,r.mono x,h1⟩
 |false=>exact⟨b,S,G1,x.k.trans hk,rfl,s1,r.mono x,h1⟩
variable{es:List xQ}{tr:DA}
theorem Ae:QA X E [] Ad:=ZDE.mono λσ H Q h=>by obtain⟨a,S,G,hk,rfl,s,r,h⟩:=h;exact h a [] (Ext.refl a) s rfl
noncomputable def notStar:xQ->Bool
 |.Starred _ _=>vE
 |_=>vD
theorem Hw(a:xQ)(es:List xQ)(env:Env)(h:notStar a=vD):vZ (a::es) env=(vE,eval a env)::vZ es env:=by
 cases a<;>first
  |exact absurd h z9
  |rfl
theorem Jv(pos:Pos)(env:Env):∀es:List xQ,es.all notStar=vD->(xk pos (vZ es env)).any (·.1)=vE
 |[],_=>rfl
 |a::es,h=>by
  rw[j2,zB]at h;rw[Hw a es env h.1];have ih:=Jv pos env es h.2;unfold xk at ih⊢;rw[zG,List.any_cons,ih]
  rfl
theorem Ac(ha:QE X E a ta)(hr:QA X E es tr)(hs:notStar a=vD:=by rfl):QA X E (a::es) (Ab ta tr):=(ZBD ha hr (Hw a es X.env hs)).mono λσ H Q h=>by obtain⟨a,S,G,hk,rfl,s,r,h⟩:=h;refine⟨a,S,G,hk,rfl,s,r,(ZIi h).imp ?_⟩;rintro v _ ⟨b,d,G1,rfl,x,s1,q,_,h1⟩;refine⟨b,S,G1,x.k.trans hk,rfl,s1,r.mono x,(ZJC h1).imp ?_⟩;rintro vs _ ⟨c,ds,G2,rfl,y,s2,q2,_,h2⟩;exact h2 c _ (Ext.refl c) s2 (Reps.cons (q.mono y) q2)
theorem Cz{x1}(h:QA X E es tr):QE X E (.Tuple es x1 pos) (dFn Bj tr):=(ZKr h).mono λσ H Q h=>by
 obtain⟨a,S,G,hk,rfl,s,r,h⟩:=h;refine⟨a,S,G,hk,rfl,s,r,(La h).imp ?_⟩;rintro vs _ ⟨b,ds,G1,rfl,x,s1,q,_,h1⟩;unfold Bj at h1;split at h1
 ·rename_i hl;refine⟨by rw[<-q.length];exact zC hl size6,λp hp=>?_⟩;exact h1 (b.put p (.tup vs)) (.ref p) (Ext.put hp) (s1.put hp) ⟨p,vs,rfl,.of Eo,q.mono (Ext.put hp)⟩
 ·exact h1.elim
theorem Eh(h:QA X E es tr):QE X E (.List es pos) (dFn Aw tr):=(ZLU h).mono λσ H Q h=>by
 obtain⟨a,S,G,hk,rfl,s,r,h⟩:=h;refine⟨a,S,G,hk,rfl,s,r,(La h).imp ?_⟩;rintro vs _ ⟨b,ds,G1,rfl,x,s1,q,_,h1⟩;unfold Aw at h1;split at h1
 ·rename_i hl;refine⟨by rw[<-q.length];exact zC hl size6,λp hp=>?_⟩;refine h1 (b.push p (.lst vs)) (.ref p) (Ext.push hp) (s1.push hp ⟨vs,rfl,q.mono (Ext.push hp)⟩) ⟨?_,?_⟩
  ·rw[s1.len];exact qX _
  ·rw[s1.len];show V.ref p=.ref (if b.n=b.n then p else b.m b.n);rw[if_pos rfl]
 ·exact h1.elim
variable{e:xQ}{x:Str}{p:Pos}
theorem Og{K:PySem.W.Frag}{f:List D->DH->R D}(h:lE K E (dFn f tr) σ H Q):lA K E tr σ H (λvs H1=>lRn K E f vs H1 Q):=by obtain⟨a,S,G,hk,rfl,s,r,h⟩:=h;refine⟨a,S,G,hk,rfl,s,r,(La h).imp ?_⟩;rintro vs _ ⟨b,ds,G1,rfl,x,s1,q,_,h1⟩;exact⟨b,G1,ds,x.k.trans hk,rfl,s1,q,h1⟩
theorem Dl{id:String}{f:List D->DH->R D}(hc:CallR X (.builtin id) (lRn X.K E f))(hg:Gl X x)(hm:X.mg x=vC)(hv:xA x=vB (.builtin id))(ha:QA X E (e::es) tr)(hn:x≠"__name__":=by decide)(hdb:(x==("__debug__":Str))=vE:=by decide)
  (he:notStar e=vD:=by rfl) (hpl:es.all notStar=vD:=by rfl):QE X E (.Call (.Name x p) (e::es) [] pos) (dFn f tr):=
 (ZKF hc hg hm hv ha hn hdb (Hw e es X.env he) (Jv pos X.env es hpl)).mono λσ H Q h=>Og h
theorem Ik{id:String}{f:List D->DH->R D}(hc:CallR X (.type id) (lRn X.K E f))(hg:Gl X x)(hm:X.mg x=vC)(hv:xA x=vB (.type id))(ha:QA X E (e::es) tr)(hn:x≠"__name__":=by decide)(hdb:(x==("__debug__":Str))=vE:=by decide)
  (he:notStar e=vD:=by rfl) (hpl:es.all notStar=vD:=by rfl):QE X E (.Call (.Name x p) (e::es) [] pos) (dFn f tr):=
 (ZLP hc hg hm hv ha hn hdb (Hw e es X.env he) (Jv pos X.env es hpl)).mono λσ H Q h=>Og h
theorem ZMb{CX:CXT}{f:jT}{fd:xZ}{ps:List Str}{F:List D->DH->R D}(FF:FnOk X.prog X.w X.K X.mg X.base CX k f fd ps (lF X.K F))(hr:Room k X.A)(hg:Gl X x)(hm:X.mg x=vB (.ref f))(hk:PySem.W.keepIn X.K (.ref f)=vD)(hb:Binds X.K fd ps [])
  (hx:Passes CX X E0) (ha:QA X E0 (e::es) tr) (hdb:(x==("__debug__":Str))=vE:=by decide) (he:notStar e=vD:=by rfl) (hpl:es.all notStar=vD:=by rfl):
  QE X E0 (.Call (.Name x p) (e::es) [] pos) (dFn F tr):=
 (X7 FF hr hg hm hk hb .nil hx ha hdb (Hw e es X.env he) (Jv pos X.env es hpl)).mono λσ H Q h=>by obtain⟨a,S,G,hk,rfl,s,r,h⟩:=Og h;refine⟨a,S,G,hk,rfl,s,r,h.imp ?_⟩;rintro vs _ ⟨b,G1,ds,hk,rfl,s1,q,h1⟩;exact⟨b,G1,ds,hk,rfl,s1,by rw[q8];exact q,h1⟩
theorem Am(hr:IxR X (lR2 X.K E f))(ha:QE X E a ta)(hb:QE X E b tb)(hs:PlainIx b:=by intro _ _;rfl):QE X E (.Subscript a b pos) (dOp f ta tb):=
 (ZOj hr ha hb hs).mono λ_ _ _ h=>two h
end
noncomputable instance (i j:Int):Decidable (CMul i j):=by unfold CMul;infer_instance
noncomputable instance (i j:Int):Decidable (CPow i j):=by unfold CPow;infer_instance
def CDivL(j:Int):Prop:=0<j/\j.natAbs.log2<9000
noncomputable instance (j:Int):Decidable (CDivL j):=by unfold CDivL;infer_instance
def Dy:D->D->DH->R D
 |.int i,.int j,G=>.ok (.int (i-j)) G
 |_,_,_=>.bad
def Hh:D->D->DH->R D
 |.int i,.int j,G=>if CDivL j then .ok (.int (i/j)) G else .bad
 |_,_,_=>.bad
def Dj:D->D->DH->R D
 |.int i,.int j,G=>if 0<j then .ok (.int (i%j)) G else .bad
 |_,_,_=>.bad
def K7:D->D->DH->R D
 |.int i,.int j,G=>if CPow i j then .ok (.int (i^j.toNat)) G else .bad
 |_,_,_=>.bad
def Ny:D->D->DH->R D
 |.int i,.int j,G=>.ok (.bl (decide (i<j))) G
 |.str i,.str j,G=>.ok (.bl (decide (i.cps.toList<j.cps.toList))) G
 |_,_,_=>.bad
def Qd:D->D->DH->R D
 |.int i,.int j,G=>.ok (.bl (decide (i<=j))) G
 |.str i,.str j,G=>.ok (.bl (!decide (j.cps.toList<i.cps.toList))) G
 |_,_,_=>.bad
def Mw:D->D->DH->R D
 |.int i,.int j,G=>.ok (.bl (decide (j<i))) G
 |.str i,.str j,G=>.ok (.bl (decide (j.cps.toList<i.cps.toList))) G
 |_,_,_=>.bad
def ZBh:D->D->DH->R D
 |.int i,.int j,G=>.ok (.bl (decide (j<=i))) G
 |.str i,.str j,G=>.ok (.bl (!decide (i.cps.toList<j.cps.toList))) G
 |_,_,_=>.bad
noncomputable def G9(d:D)(G:DH):Option (List D):=match d with
 |.fl xs=>vB xs
 |.ref i=>match G[i]? with
  |some (.lst xs)=>vB xs
  |_=>vC
 |_=>vC
def By:D->D->DH->R D
 |.int i,.int j,G=>.ok (.int (i+j)) G
 |.str i,.str j,G=>if i.length+j.length<=1000000 then .ok (.str (i++j)) G else .bad
 |.tup xs,.tup ys,G=>if xs≠[]/\xs.length+ys.length<=1000000 then .ok (.tup (xs++ys)) G else .bad
 |d,e,G=>match G9 d G,G9 e G with
  |some xs,vB ys=>if xs.length+ys.length<=1000000 then .ok (.ref G.length) (G++[.lst (xs++ys)])else .bad
  |_,_=>.bad
section
variable{X:Cx}{E:XK}
theorem G7{f:xY->xY->Sem xY}{r:R2}{F:D->D->DH->R D}(ho:OpR X f r)
  (h:∀(a:Wd)(G:DH)(d e:D)(x y:V)(Q:VK),a.K=X.K->Sim a G->Rep a d x->Rep a e y->out E a (F d e G) Q->r x y a.H Q):OpR X f (lR2 X.K E F):=
 ho.mono λx y H Q ⟨a,G,d,e,hk,hH,s,rd,re,q⟩=>by subst hH;exact h a G d e x y Q hk s rd re q
theorem Fx:OpR X (x9 .Sub) (lR2 X.K E Dy):=G7 ZLw λa G d e x y Q hk s rd re q=>by
 cases d<;>cases e<;>first
  |exact q.elim
  |exact⟨_,_,rd,re,q a _ (Ext.refl a) s rfl⟩
theorem ZHS:OpR X (x9 .FloorDiv) (rI (λ_ j=>CDivL j) λi j=>.int (i/j)):=opI λi j _ _ _ _ _ hc q=>by have e:i.fdiv j=i/j:=Int.fdiv_eq_ediv_of_nonneg _ (Int.le_of_lt hc.1);refine floordiv_int (by have:=hc.1;lia) (by rw[e];exact q) (.inl (PyProof.noPylong_of_log2 hc.2))
theorem Nj:OpR X (x9 .FloorDiv) (lR2 X.K E Hh):=G7 ZHS λa G d e x y Q hk s rd re q=>by
 cases d<;>cases e<;>first
  |exact q.elim
  | (
    rename_i i j;unfold Hh at q;dsimp only at q;split at q
    ·exact⟨_,_,rd,re,by assumption,q a _ (Ext.refl a) s rfl⟩
    ·exact q.elim)
theorem Dz:OpR X (x9 .Mod) (lR2 X.K E Dj):=G7 ZO4 λa G d e x y Q hk s rd re q=>by
 cases d<;>cases e<;>first
  |exact q.elim
  | (
    rename_i i j;unfold Dj at q;dsimp only at q;split at q
    ·exact⟨_,_,rd,re,by assumption,q a _ (Ext.refl a) s rfl⟩
    ·exact q.elim)
theorem Qm:OpR X (x9 .Pow) (lR2 X.K E K7):=G7 ZO1 λa G d e x y Q hk s rd re q=>by
 cases d<;>cases e<;>first
  |exact q.elim
  | (
    rename_i i j;unfold K7 at q;dsimp only at q;split at q
    ·exact⟨_,_,rd,re,by assumption,q a _ (Ext.refl a) s rfl⟩
    ·exact q.elim)
theorem Uo:OpR X (xE .Lt) (lR2 X.K E Ny):=G7 (ZJ4.or ZLB) λa G d e x y Q hk s rd re q=>by
 cases d<;>cases e<;>first
  |exact q.elim
  |exact .inl ⟨_,_,rd,re,q a _ (Ext.refl a) s rfl⟩
  |exact .inr ⟨_,_,rd,re,q a _ (Ext.refl a) s rfl⟩
theorem ZOk:OpR X (xE .LtE) (λx y H Q=>∃i j,x=.str i/\y=.str j/\Q (.bl (!decide (j.cps.toList<i.cps.toList))) H):=by intro vA s σ H x y v u Q I rx ry h;obtain⟨i,j,rfl,rfl,q⟩:=h;obtain⟨t,rfl⟩:=rx;obtain⟨t',rfl⟩:=ry;exact PySem.P.le_str ⟨.bl _,H,I,rfl,q⟩
theorem ZLL:OpR X (xE .Gt) (λx y H Q=>∃i j,x=.str i/\y=.str j/\Q (.bl (decide (j.cps.toList<i.cps.toList))) H):=by intro vA s σ H x y v u Q I rx ry h;obtain⟨i,j,rfl,rfl,q⟩:=h;obtain⟨t,rfl⟩:=rx;obtain⟨t',rfl⟩:=ry;exact PySem.P.gt_str ⟨.bl _,H,I,rfl,q⟩
theorem ZKY:OpR X (xE .GtE) (λx y H Q=>∃i j,x=.str i/\y=.str j/\Q (.bl (!decide (i.cps.toList<j.cps.toList))) H):=by intro vA s σ H x y v u Q I rx ry h;obtain⟨i,j,rfl,rfl,q⟩:=h;obtain⟨t,rfl⟩:=rx;obtain⟨t',rfl⟩:=ry;exact PySem.P.ge_str ⟨.bl _,H,I,rfl,q⟩
theorem ZBV:OpR X (xE .LtE) (lR2 X.K E Qd):=G7 (ZL5.or ZOk) λa G d e x y Q hk s rd re q=>by
 cases d<;>cases e<;>first
  |exact q.elim
  |exact .inl ⟨_,_,rd,re,q a _ (Ext.refl a) s rfl⟩
  |exact .inr ⟨_,_,rd,re,q a _ (Ext.refl a) s rfl⟩
theorem Va:OpR X (xE .Gt) (lR2 X.K E Mw):=G7 (ZMv.or ZLL) λa G d e x y Q hk s rd re q=>by
 cases d<;>cases e<;>first
  |exact q.elim
  |exact .inl ⟨_,_,rd,re,q a _ (Ext.refl a) s rfl⟩
  |exact .inr ⟨_,_,rd,re,q a _ (Ext.refl a) s rfl⟩
theorem o_ge:OpR X (xE .GtE) (lR2 X.K E ZBh):=G7 (ZJz.or ZKY) λa G d e x y Q hk s rd re q=>by
 cases d<;>cases e<;>first
  |exact q.elim
  |exact .inl ⟨_,_,rd,re,q a _ (Ext.refl a) s rfl⟩
  |exact .inr ⟨_,_,rd,re,q a _ (Ext.refl a) s rfl⟩
theorem Sim.lst(s:Sim a G)(h:G[i]?=vB (.lst xs)):∃vs,a.H (a.m i)=vB (.lst vs)/\Reps a xs vs:=s.obj i _ h
theorem K5(s:Sim a G)(r:Reps a ds vs)(h:out E a (.ok (.ref G.length) (G++[.lst ds])) Q)(p:jT)(hp:a.H p=vC):Q (.ref p) (upd a.H p (.lst vs)):=by
 refine h (a.push p (.lst vs)) (.ref p) (Ext.push hp) (s.push hp ⟨vs,rfl,r.mono (Ext.push hp)⟩) ⟨?_,?_⟩
 ·rw[s.len];exact qX _
 ·rw[s.len];show V.ref p=.ref (if a.n=a.n then p else a.m a.n);rw[if_pos rfl]
theorem Yc(s:Sim a G)(r:Reps a ds vs)(h:out E a (.ok (.tup ds) G) Q)(p:jT)(hp:a.H p=vC):Q (.ref p) (upd a.H p (.tup vs)):=
 h (a.put p (.tup vs)) (.ref p) (Ext.put hp) (s.put hp) ⟨p,vs,rfl,.of Eo,r.mono (Ext.put hp)⟩
theorem Pb{x:V}(s:Sim a G)(r:Rep a d x)(h:G9 d G=vB xs):∃p vs,x=.ref p/\SqL a.K a.H p vs/\Reps a xs vs:=by
 cases d with
 |fl ys=>
  have e:ys=xs:=Option.some.inj h;subst e;obtain⟨p,vs,e,q,rr⟩:=r;exact⟨p,vs,e,q.sq,rr⟩
 |ref i=>
  unfold G9 at h;dsimp only at h;split at h
  ·rename_i ys hi;have e:ys=xs:=Option.some.inj h;subst e;obtain⟨vs,e1,r1⟩:=s.lst hi;exact⟨a.m i,vs,r.2,.of e1,r1⟩
  ·cases h
 |_=>cases h
def ZET(K:PySem.W.Frag):R2:=λx y H Q=>∃l b xs zs,x=.ref l/\y=.ref b/\SqL K H l xs/\SqL K H b zs/\xs.length+zs.length<=sizeLine/\∀p,H p=vC->Q (.ref p) (upd H p (.lst (xs++zs)))
theorem ZNW:OpR X (x9 .Add) (ZET X.K):=by
 intro vA s σ H x y v u Q I rx ry h;obtain⟨l,b,xs,zs,rfl,rfl,hH,hB,hz,q⟩:=h;cases rx;cases ry;obtain⟨its,r,p1,_⟩:=I.list hH;obtain⟨its2,r2,p2,_⟩:=I.list hB;obtain⟨⟨cls,dd,data,sl⟩,n,ho,hc,_,hd⟩:=p1;obtain⟨⟨cls2,dd2,data2,sl2⟩,n2,ho2,hc2,_,hd2⟩:=p2;cases hc;cases hd;cases hc2;cases hd2;have hl:=r.length;have hl2:=r2.length;refine concat_meets ⟨_,ho,rfl⟩ ⟨_,ho2,rfl⟩ noFill_list_add seq_list_add PySem.F.slot_list_add PySem.F.entry_list_add (PySem.F.args_list_add_2 _ _) (list_addW l b its.toArray its2.toArray n n2 dd dd2 sl sl2 (by rw[zK,zK];lia)) ⟨ho,ho2,?_⟩
 have ea:its.toArray++its2.toArray=(its++its2).toArray:=by simp
 rw[ea];exact⟨.ref _,_,I.lnew (t':=s.toks) (r.append r2) (by rw[zT];lia),rfl,q _ I.fresh⟩
theorem Cu:OpR X (x9 .Add) (lR2 X.K E By):=G7 (ZKq.or (ZNv.or (ZNW.or ZN2))) λa G d e x y Q hk s rd re q=>by
 have lst:out E a (match G9 d G,G9 e G with
  |some xs,vB ys=>if xs.length+ys.length<=1000000 then .ok (.ref G.length) (G++[.lst (xs++ys)])else .bad
  |_,_=>.bad) Q->ZET X.K x y a.H Q:=λq=>by
  split at q
  ·rename_i xs ys h1 h2;split at q
   ·rename_i hl;obtain⟨p,vs,e1,q1,r1⟩:=Pb s rd h1;obtain⟨p',vs',e2,q2,r2⟩:=Pb s re h2;rw[hk]at q1 q2;exact⟨p,p',vs,vs',e1,e2,q1,q2,by rw[<-r1.length,<-r2.length];exact zC hl size6,λp hp=>K5 s (r1.append r2) q p hp⟩
   ·exact q.elim
  ·exact q.elim
 have L:=λq=>Or.inr (a:=rI0 (λi j=>V.int (i+j)) x y a.H Q) (Or.inr (a:=∃i j,x=.str i/\y=.str j/\i.length+j.length<=sizeLine/\Q (.str (i++j)) a.H) (Or.inl (b:=ZF1 X.K x y a.H Q) (lst q)))
 cases d<;>cases e<;>first
  |exact .inl ⟨_,_,rd,re,q a _ (Ext.refl a) s rfl⟩
  |exact L q
  |skip
 ·rename_i i j;unfold By at q;dsimp only at q;split at q
  ·rename_i hl;exact .inr (.inl ⟨_,_,rd,re,zC hl size6,q a _ (Ext.refl a) s rfl⟩)
  ·exact q.elim
 ·rename_i xs ys;unfold By at q;dsimp only at q;split at q
  ·rename_i hl;obtain⟨p,vs,e1,h1,r1⟩:=rd;obtain⟨p',vs',e2,h2,r2⟩:=re;rw[hk]at h1 h2;refine .inr (.inr (.inr ⟨p,p',vs,vs',e1,e2,h1,h2,λz=>hl.1 (jx (by rw[r1.length,z];rfl)),by rw[<-r1.length,<-r2.length];exact zC hl.2 size6,λz=>?_,λ_ p0 hp=>?_⟩))
   ·refine q a (.ref p) (Ext.refl a) s ⟨p,vs,rfl,by rw[hk];exact h1,?_⟩;have e3:ys=[]:=jx (by rw[r2.length,z];rfl);rw[e3,q8];exact r1
   ·exact Yc s (r1.append r2) q p0 hp
  ·exact q.elim
inductive VD where
 |flat (v:V)
 |lst (xs:List D)
 |tup (xs:List D)
 |bad
def view(G:DH):D->VD
 |.non=>.flat .non
 |.bl b=>.flat (.bl b)
 |.int i=>.flat (.int i)
 |.str x=>.flat (.str x)
 |.ty _=>.bad
 |.tup xs=>.tup xs
 |.fl xs=>.lst xs
 |.ref i=>match G[i]? with
  |some (.lst xs)=>.lst xs
  |_=>.bad
noncomputable def eqZ(f:D->D->Option Bool):List D->List D->Option Bool
 |x::xs,y::ys=>match f x y,eqZ f xs ys with
  |some a,vB b=>vB (a&&b)
  |_,_=>vC
 |_,_=>vB vD
def eqD:Nat->DH->D->D->Option Bool
 |0=>λ_ _ _=>vC
 | n+1=>λG d e=>match view G d,view G e with
  |.flat a,.flat b=>vB (eqV a b)
  |.lst xs,.lst ys=>if xs.length=ys.length then eqZ (eqD n G) xs ys else vB vE
  |.tup xs,.tup ys=>match eqZ (eqD n G) xs ys with
   |some b=>vB (b&&xs.length==ys.length)
   |none=>vC
  |.bad,_=>vC
  |_,.bad=>vC
  |_,_=>vB vE
theorem Vt{f:D->D->Option Bool}:∀{xs ys:List D}{k:Bool},eqZ f xs ys=vB k->∃e:Nat->Bool,(∀(j:Nat)(x y:D),xs[j]?=vB x->ys[j]?=vB y->f x y=vB (e j))/\k=(zk (min xs.length ys.length)).all e
 | [],ys,k,h=>⟨λ_=>vD,λj x y e1 _=>by simp at e1,by
   have h':vB vD=vB k:=by cases ys<;>exact h
   cases h';simp⟩
 |x::xs,[],k,h=>⟨λ_=>vD,λj x y _ e1=>by simp at e1,by have h':vB vD=vB k:=h;cases h';simp⟩
 | x::xs,y::ys,k,h=>by
  unfold eqZ at h;split at h
  ·rename_i a b h1 h2;obtain⟨e,he,hk⟩:=Vt h2;have h':(a&&b)=k:=Option.some.inj h
   refine⟨λj=>match j with |0=>a|j+1=>e j,λj x' y' e1 e2=>?_,?_⟩
   ·cases j with
    |zero=>simp at e1 e2;subst e1;subst e2;exact h1
    |succ j=>exact he j x' y' (by simpa using e1) (by simpa using e2)
   ·rw[<-h',hk];have:min (x::xs).length (y::ys).length=min xs.length ys.length+1:=by simp only[qZ];lia
    rw[this,qO,j2,List.all_map]
    rfl
  ·cases h
theorem Ru(s:Sim a G){x:V}(r:Rep a d x):match view G d with
  |.flat v=>x=v/\Iv v=vD
  |.lst xs=>∃p vs,x=.ref p/\SqL a.K a.H p vs/\Reps a xs vs
  |.tup xs=>∃p vs,x=.ref p/\SqT a.K a.H p vs/\Reps a xs vs
  |.bad=>True:=by
 cases d with
 |non=>exact⟨r,rfl⟩
 |bl b=>exact⟨r,rfl⟩
 |int b=>exact⟨r,rfl⟩
 |str b=>exact⟨r,rfl⟩
 |ty n=>trivial
 |tup xs=>
  obtain⟨p,vs,e,h,q⟩:=r;exact⟨p,vs,e,h,q⟩
 |fl xs=>
  obtain⟨p,vs,e,h,q⟩:=r;exact⟨p,vs,e,h.sq,q⟩
 | ref i=>
  unfold view;dsimp only;split
  ·rename_i v hv
   split at hv<;>cases hv
  ·rename_i xs hv;split at hv
   ·rename_i ys hi;cases hv;obtain⟨vs,e1,r1⟩:=s.lst hi;exact⟨a.m i,vs,r.2,.of e1,r1⟩
   ·cases hv
  ·rename_i xs hv
   split at hv<;>cases hv
  ·trivial
theorem ZGr{y x:V}{u v:xY}(ry:RelV y u)(rx:RelV x v)(fy:Iv y=vD)(fx:Iv x=vD):SeqAt.RcAt A s u v (eqV y x):=by
 cases y with
 |non=>
  cases ry;cases x with
  |non=>cases rx;exact SeqAt.RcAt.none_none
  |bl b=>cases rx;exact SeqAt.RcAt.none_bool b
  |int b=>obtain⟨t,rfl⟩:=rx;exact SeqAt.RcAt.none_int b t
  |str b=>obtain⟨t,rfl⟩:=rx;exact SeqAt.RcAt.none_str b t
  |_=>exact absurd (show vE=vD from fx) z9
 |bl a=>
  cases ry;cases x with
  |non=>cases rx;exact SeqAt.RcAt.bool_none a
  |bl b=>cases rx;exact SeqAt.RcAt.bool_bool a b
  |int b=>obtain⟨t,rfl⟩:=rx;exact SeqAt.RcAt.bool_int a b t
  |str b=>obtain⟨t,rfl⟩:=rx;exact SeqAt.RcAt.bool_str a b t
  |_=>exact absurd (show vE=vD from fx) z9
 |int a=>
  obtain⟨t',rfl⟩:=ry;cases x with
  |non=>cases rx;exact SeqAt.RcAt.int_none a t'
  |bl b=>cases rx;exact SeqAt.RcAt.int_bool a t' b
  |int b=>obtain⟨t,rfl⟩:=rx;exact SeqAt.RcAt.int_int a t' b t
  |str b=>obtain⟨t,rfl⟩:=rx;exact SeqAt.RcAt.int_str a t' b t
  |_=>exact absurd (show vE=vD from fx) z9
 |str a=>
  obtain⟨t',rfl⟩:=ry;cases x with
  |non=>cases rx;exact SeqAt.RcAt.str_none a t'
  |bl b=>cases rx;exact SeqAt.RcAt.str_bool a t' b
  |int b=>obtain⟨t,rfl⟩:=rx;exact SeqAt.RcAt.str_int a t' b t
  |str b=>obtain⟨t,rfl⟩:=rx;exact SeqAt.RcAt.str_str a t' b t
  |_=>exact absurd (show vE=vD from fx) z9
 |_=>exact absurd (show vE=vD from fy) z9
theorem ZIL{y x:V}{u v:xY}(ry:RelV y u)(rx:RelV x v)(fy:Iv y=vD)(fx:Iv x=vD):SeqAt.RcNeAt A s u v (!eqV y x):=by
 cases y with
 |non=>
  cases ry;cases x with
  |non=>cases rx;exact SeqAt.RcNeAt.none_none
  |bl b=>cases rx;exact SeqAt.RcNeAt.none_bool b
  |int b=>obtain⟨t,rfl⟩:=rx;exact SeqAt.RcNeAt.none_int b t
  |str b=>obtain⟨t,rfl⟩:=rx;exact SeqAt.RcNeAt.none_str b t
  |_=>exact absurd (show vE=vD from fx) z9
 |bl a=>
  cases ry;cases x with
  |non=>cases rx;exact SeqAt.RcNeAt.bool_none a
  |bl b=>cases rx;exact SeqAt.RcNeAt.bool_bool a b
  |int b=>obtain⟨t,rfl⟩:=rx;exact SeqAt.RcNeAt.bool_int a b t
  |str b=>obtain⟨t,rfl⟩:=rx;exact SeqAt.RcNeAt.bool_str a b t
  |_=>exact absurd (show vE=vD from fx) z9
 |int a=>
  obtain⟨t',rfl⟩:=ry;cases x with
  |non=>cases rx;exact SeqAt.RcNeAt.int_none a t'
  |bl b=>cases rx;exact SeqAt.RcNeAt.int_bool a t' b
  |int b=>obtain⟨t,rfl⟩:=rx;exact SeqAt.RcNeAt.int_int a t' b t
  |str b=>obtain⟨t,rfl⟩:=rx;exact SeqAt.RcNeAt.int_str a t' b t
  |_=>exact absurd (show vE=vD from fx) z9
 |str a=>
  obtain⟨t',rfl⟩:=ry;cases x with
  |non=>cases rx;exact SeqAt.RcNeAt.str_none a t'
  |bl b=>cases rx;exact SeqAt.RcNeAt.str_bool a t' b
  |int b=>obtain⟨t,rfl⟩:=rx;exact SeqAt.RcNeAt.str_int a t' b t
  |str b=>obtain⟨t,rfl⟩:=rx;exact SeqAt.RcNeAt.str_str a t' b t
  |_=>exact absurd (show vE=vD from fx) z9
 |_=>exact absurd (show vE=vD from fy) z9
end
section
variable{X:Cx}{E:XK}{vA:List (jT×Obj)}{σ:St}{s:xW}
theorem ZN1(v:V)(h:Iv v=vD):eqV v v=vD:=by cases v<;>first|rfl|exact absurd (show vE=vD from h) z9|(simp[eqV])
theorem ZCA(I:Inv X vA σ a.H s)(hk:a.K=X.K)(sm:Sim a G):∀(n:Nat){d e:D}{x:V}{k:Bool},Rep a d x->Rep a e x->eqD n G d e=vB k->k=vD
 |0,_,_,_,_,_,_,h=>by cases h
 | n+1,d,e,x,k,rd,re,h=>by
  have vd:=Ru sm rd;have ve:=Ru sm re;have items:∀{xs ys:List D}{vs:List V}{b:Bool},Reps a xs vs->Reps a ys vs->eqZ (eqD n G) xs ys=vB b->b=vD:=λ{xs ys vs b}r1 r2 hz=>by obtain⟨f,hf,hb⟩:=Vt hz;rw[hb,qA];intro j hj;have hj':j<min xs.length ys.length:=qY.mp hj;have h1:xs[j]?=vB (xs[j]'(by lia)):=zZ (by lia);have h2:ys[j]?=vB (ys[j]'(by lia)):=zZ (by lia);obtain⟨v1,e1,q1⟩:=r1.get h1;obtain⟨v2,e2,q2⟩:=r2.get h2;rw[e1]at e2;cases e2;exact ZCA I hk sm n q1 q2 (hf j _ _ h1 h2)
  unfold eqD at h
  try dsimp only at h
  revert h vd ve
  cases view G d<;>cases view G e<;>intro vd ve h<;>dsimp only at h vd ve<;>first
   |cases h
   |skip
  ·
   rename_i v w;obtain⟨rfl,f1⟩:=vd;obtain⟨rfl,f2⟩:=ve;exact ZN1 _ f1
  ·obtain⟨rfl,f1⟩:=vd;obtain⟨p,vs,e1,_⟩:=ve;subst e1;cases f1
  ·obtain⟨rfl,f1⟩:=vd;obtain⟨p,vs,e1,_⟩:=ve;subst e1;cases f1
  ·obtain⟨rfl,f1⟩:=ve;obtain⟨p,vs,e1,_⟩:=vd;subst e1;cases f1
  ·obtain⟨p,vs,e1,h1,r1⟩:=vd;obtain⟨p',vs',e2,h2,r2⟩:=ve;rw[e1]at e2;cases e2;rw[hk]at h1 h2;cases I.Zq h1 h2;split at h
   ·exact items r1 r2 h
   ·rename_i hl;exact absurd (r1.length.trans r2.length.symm) hl
  ·obtain⟨p,vs,e1,h1,r1⟩:=vd;obtain⟨p',vs',e2,h2,r2⟩:=ve;rw[e1]at e2;cases e2;rw[hk]at h1 h2;obtain⟨_,_,pl,_⟩:=I.list h1;obtain⟨_,_,pt,_⟩:=I.tuple h2;exact absurd rfl (SeqAt.ne_of_list_tuple pl.isList pt)
  ·obtain⟨rfl,f1⟩:=ve;obtain⟨p,vs,e1,_⟩:=vd;subst e1;cases f1
  ·obtain⟨p,vs,e1,h1,r1⟩:=vd;obtain⟨p',vs',e2,h2,r2⟩:=ve;rw[e1]at e2;cases e2;rw[hk]at h1 h2;obtain⟨_,_,pl,_⟩:=I.list h2;obtain⟨_,_,pt,_⟩:=I.tuple h1;exact absurd rfl (SeqAt.ne_of_list_tuple pl.isList pt)
  ·obtain⟨p,vs,e1,h1,r1⟩:=vd;obtain⟨p',vs',e2,h2,r2⟩:=ve;rw[e1]at e2;cases e2;rw[hk]at h1 h2;cases I.Xx h1 h2;split at h
   ·rename_i b hz;have h':(b&&_)=k:=Option.some.inj h;rw[<-h',items r1 r2 hz,r1.length,r2.length];simp
   ·cases h
theorem S6{its:List xY}(r:Reps a xs vs)(q:Vals vs its)(h:j<its.toArray.size):∃d v,xs[j]?=vB d/\Rep a d v/\RelV v its.toArray[j]:=by
 have hl:j<its.length:=by simpa using h
 have h2:j<vs.length:=by rw[q.length];exact hl
 obtain⟨v,e1⟩:∃v,vs[j]?=vB v:=⟨vs[j],zZ h2⟩;obtain⟨d,e2,rd⟩:=r.get' e1;obtain⟨u,e3,ru⟩:=q.get e1;have e4:u=its.toArray[j]:=by have:its[j]?=vB its[j]:=zZ hl;rw[this]at e3;simpa using(Option.some.inj e3).symm
 exact⟨d,v,e2,rd,by rw[<-e4];exact ru⟩
theorem Rh(I:Inv X vA σ a.H s)(hk:a.K=X.K)(sm:Sim a G):∀(n:Nat){A:jU}{d e:D}{x y:V}{u w:xY}{k:Bool},A.units+n<cLine->Rep a d x->Rep a e y->RelV x u->RelV y w->eqD n G d e=vB k->
  SeqAt.EqAt A s u w k/\SeqAt.RcAt A s u w k/\SeqAt.RcNeAt A s u w (!k)
 |0,_,_,_,_,_,_,_,_,_,_,_,_,_,h=>by cases h
 | n + 1,A,d,e,x,y,u,w,k,hu,rd,re,ru,rw',h=>by
  have vd:=Ru sm rd;have ve:=Ru sm re;have hu1:A.units<cLine:=by lia
  have hu2:A.in1.units+n<cLine:=by show A.units+1+n<cLine;lia
  have same:∀{z:V},Rep a d z->Rep a e z->eqD (n+1) G d e=vB k->k=vD:=λr1 r2 r3=>ZCA I hk sm (n+1) r1 r2 r3
  have h0:=h;unfold eqD at h
  try dsimp only at h
  have refs:∀{p q:jT}{k:Bool},(p=q->k=vD)->SeqAt.RcAt A s (.ref p) (.ref q) k->SeqAt.EqAt A s (.ref p) (.ref q) k:=λ{p q k}hs hr=>by
   by_cases e:p=q
   ·rw[hs e,e];exact SeqAt.EqAt.same _
   ·exact SeqAt.EqAt.of_refs e hr
  revert h vd ve
  cases hvd:view G d<;>cases hve:view G e<;>intro vd ve h<;>dsimp only at h vd ve<;>first
   |cases h
   |skip
  ·
   obtain⟨rfl,f1⟩:=vd;obtain⟨rfl,f2⟩:=ve;exact⟨ZK0 ru rw' f1 f2,ZGr ru rw' f1 f2,ZIL ru rw' f1 f2⟩
  ·
   obtain⟨rfl,f1⟩:=vd;obtain⟨q,vs,rfl,h2,r2⟩:=ve;cases rw';rw[hk]at h2;obtain⟨its,qv,pl,_⟩:=I.list h2;cases x with
   |non=>cases ru;exact⟨SeqAt.EqAt.none_list pl.isList hu1,SeqAt.RcAt.none_list pl.isList hu1,SeqAt.RcNeAt.none_list pl.isList hu1⟩
   |bl b=>cases ru;exact⟨SeqAt.EqAt.bool_list b pl.isList hu1,SeqAt.RcAt.bool_list b pl.isList hu1,SeqAt.RcNeAt.bool_list b pl.isList hu1⟩
   |int b=>obtain⟨t,rfl⟩:=ru;exact⟨SeqAt.EqAt.int_list b t pl.isList hu1,SeqAt.RcAt.int_list b t pl.isList hu1,SeqAt.RcNeAt.int_list b t pl.isList hu1⟩
   |str b=>obtain⟨t,rfl⟩:=ru;exact⟨SeqAt.EqAt.str_list b t pl.isList hu1,SeqAt.RcAt.str_list b t pl.isList hu1,SeqAt.RcNeAt.str_list b t pl.isList hu1⟩
   |_=>exact absurd (show vE=vD from f1) z9
  ·
   obtain⟨rfl,f1⟩:=vd;obtain⟨q,vs,rfl,h2,r2⟩:=ve;cases rw';rw[hk]at h2;obtain⟨its,qv,pl,_⟩:=I.tuple h2;cases x with
   |non=>cases ru;exact⟨SeqAt.EqAt.none_tuple pl hu1,SeqAt.RcAt.none_tuple pl hu1,SeqAt.RcNeAt.none_tuple pl hu1⟩
   |bl b=>cases ru;exact⟨SeqAt.EqAt.bool_tuple b pl hu1,SeqAt.RcAt.bool_tuple b pl hu1,SeqAt.RcNeAt.bool_tuple b pl hu1⟩
   |int b=>obtain⟨t,rfl⟩:=ru;exact⟨SeqAt.EqAt.int_tuple b t pl hu1,SeqAt.RcAt.int_tuple b t pl hu1,SeqAt.RcNeAt.int_tuple b t pl hu1⟩
   |str b=>obtain⟨t,rfl⟩:=ru;exact⟨SeqAt.EqAt.str_tuple b t pl hu1,SeqAt.RcAt.str_tuple b t pl hu1,SeqAt.RcNeAt.str_tuple b t pl hu1⟩
   |_=>exact absurd (show vE=vD from f1) z9
  ·
   obtain⟨rfl,f1⟩:=ve;obtain⟨q,vs,rfl,h2,r2⟩:=vd;cases ru;rw[hk]at h2;obtain⟨its,qv,pl,_⟩:=I.list h2;cases y with
   |non=>cases rw';exact⟨SeqAt.EqAt.list_none pl.isList hu1,SeqAt.RcAt.list_none pl.isList hu1,SeqAt.RcNeAt.list_none pl.isList hu1⟩
   |bl b=>cases rw';exact⟨SeqAt.EqAt.list_bool b pl.isList hu1,SeqAt.RcAt.list_bool b pl.isList hu1,SeqAt.RcNeAt.list_bool b pl.isList hu1⟩
   |int b=>obtain⟨t,rfl⟩:=rw';exact⟨SeqAt.EqAt.list_int b t pl.isList hu1,SeqAt.RcAt.list_int b t pl.isList hu1,SeqAt.RcNeAt.list_int b t pl.isList hu1⟩
   |str b=>obtain⟨t,rfl⟩:=rw';exact⟨SeqAt.EqAt.list_str b t pl.isList hu1,SeqAt.RcAt.list_str b t pl.isList hu1,SeqAt.RcNeAt.list_str b t pl.isList hu1⟩
   |_=>exact absurd (show vE=vD from f1) z9
  ·
   obtain⟨p,vs,rfl,h1,r1⟩:=vd;obtain⟨q,vs',rfl,h2,r2⟩:=ve;cases ru;cases rw';rw[hk]at h1 h2;obtain⟨its,q1,p1,_⟩:=I.list h1;obtain⟨its',q2,p2,_⟩:=I.list h2;have sz1:its.toArray.size=vs.length:=by rw[zK];exact q1.length.symm
   have sz2:its'.toArray.size=vs'.length:=by rw[zK];exact q2.length.symm
   split at h
   ·rename_i hl;obtain⟨f,hf,hb⟩:=Vt h;have hsz:its.toArray.size=its'.toArray.size:=by rw[sz1,sz2,<-r1.length,<-r2.length];exact hl
    have he:∀j(g1:j<its.toArray.size)(g2:j<its'.toArray.size),SeqAt.EqAt A.in1 s its.toArray[j] its'.toArray[j] (f j):=λj g1 g2=>by obtain⟨d1,v1,e1,rd1,rv1⟩:=S6 r1 q1 g1;obtain⟨d2,v2,e2,rd2,rv2⟩:=S6 r2 q2 g2;exact(Rh I hk sm n hu2 rd1 rd2 rv1 rv2 (hf j d1 d2 e1 e2)).1
    have hk':k=(zk its.toArray.size).all f:=by
     rw[hb]
     congr 2
     rw[sz1,<-r1.length,hl];lia
    have rc:SeqAt.RcAt A s (.ref p) (.ref q) k:=by rw[hk'];exact SeqAt.RcAt.lists p1.isList p2.isList hsz hu1 he
    refine⟨refs (λe=>?_) rc,rc,by rw[hk'];exact SeqAt.RcNeAt.lists p1.isList p2.isList hsz hu1 he⟩;subst e;exact same rd re h0
   ·rename_i hl;have h':vE=k:=Option.some.inj h;subst h';have hsz:(its.toArray.size != its'.toArray.size)=vD:=by rw[bne_iff_ne,sz1,sz2,<-r1.length,<-r2.length];exact hl
    refine⟨refs (λe=>?_) (SeqAt.RcAt.lists_lengths p1.isList p2.isList hsz hu1),SeqAt.RcAt.lists_lengths p1.isList p2.isList hsz hu1,SeqAt.RcNeAt.lists_lengths p1.isList p2.isList hsz hu1⟩;subst e;exact same rd re h0
  ·
   obtain⟨p,vs,rfl,h1,r1⟩:=vd;obtain⟨q,vs',rfl,h2,r2⟩:=ve;cases ru;cases rw';rw[hk]at h1 h2;obtain⟨its,q1,p1,_⟩:=I.list h1;obtain⟨its',q2,p2,_⟩:=I.tuple h2;exact⟨SeqAt.EqAt.list_tuple p1.isList p2 hu1,SeqAt.RcAt.list_tuple p1.isList p2 hu1,SeqAt.RcNeAt.list_tuple p1.isList p2 hu1⟩
  ·
   obtain⟨rfl,f1⟩:=ve;obtain⟨q,vs,rfl,h2,r2⟩:=vd;cases ru;rw[hk]at h2;obtain⟨its,qv,pl,_⟩:=I.tuple h2;cases y with
   |non=>cases rw';exact⟨SeqAt.EqAt.tuple_none pl hu1,SeqAt.RcAt.tuple_none pl hu1,SeqAt.RcNeAt.tuple_none pl hu1⟩
   |bl b=>cases rw';exact⟨SeqAt.EqAt.tuple_bool b pl hu1,SeqAt.RcAt.tuple_bool b pl hu1,SeqAt.RcNeAt.tuple_bool b pl hu1⟩
   |int b=>obtain⟨t,rfl⟩:=rw';exact⟨SeqAt.EqAt.tuple_int b t pl hu1,SeqAt.RcAt.tuple_int b t pl hu1,SeqAt.RcNeAt.tuple_int b t pl hu1⟩
   |str b=>obtain⟨t,rfl⟩:=rw';exact⟨SeqAt.EqAt.tuple_str b t pl hu1,SeqAt.RcAt.tuple_str b t pl hu1,SeqAt.RcNeAt.tuple_str b t pl hu1⟩
   |_=>exact absurd (show vE=vD from f1) z9
  ·
   obtain⟨p,vs,rfl,h1,r1⟩:=vd;obtain⟨q,vs',rfl,h2,r2⟩:=ve;cases ru;cases rw';rw[hk]at h1 h2;obtain⟨its,q1,p1,_⟩:=I.tuple h1;obtain⟨its',q2,p2,_⟩:=I.list h2;exact⟨SeqAt.EqAt.tuple_list p1 p2.isList hu1,SeqAt.RcAt.tuple_list p1 p2.isList hu1,SeqAt.RcNeAt.tuple_list p1 p2.isList hu1⟩
  ·
   rename_i xs ys;obtain⟨p,vs,rfl,h1,r1⟩:=vd;obtain⟨q,vs',rfl,h2,r2⟩:=ve;cases ru;cases rw';rw[hk]at h1 h2;obtain⟨its,q1,p1,_⟩:=I.tuple h1;obtain⟨its',q2,p2,_⟩:=I.tuple h2;have sz1:its.toArray.size=xs.length:=by rw[zK,r1.length];exact q1.length.symm
   have sz2:its'.toArray.size=ys.length:=by rw[zK,r2.length];exact q2.length.symm
   split at h
   ·rename_i b hz;have h':(b&&xs.length==ys.length)=k:=Option.some.inj h;obtain⟨f,hf,hb⟩:=Vt hz;have he:∀j(g1:j<its.toArray.size)(g2:j<its'.toArray.size),SeqAt.EqAt A.in1 s its.toArray[j] its'.toArray[j] (f j):=λj g1 g2=>by obtain⟨d1,v1,e1,rd1,rv1⟩:=S6 r1 q1 g1;obtain⟨d2,v2,e2,rd2,rv2⟩:=S6 r2 q2 g2;exact(Rh I hk sm n hu2 rd1 rd2 rv1 rv2 (hf j d1 d2 e1 e2)).1
    have hk':k=((zk (min its.toArray.size its'.toArray.size)).all f&&its.toArray.size==its'.toArray.size):=by rw[<-h',hb,sz1,sz2]
    have rc:SeqAt.RcAt A s (.ref p) (.ref q) k:=by rw[hk'];exact SeqAt.RcAt.tuples p1 p2 hu1 he
    refine⟨refs (λe=>?_) rc,rc,by rw[hk'];exact SeqAt.RcNeAt.tuples p1 p2 hu1 he⟩;subst e;exact same rd re h0
   ·cases h
def Ej(d e:D)(G:DH):R D:=match eqD 30 G d e with
 |some k=>.ok (.bl k) G
 |none=>.bad
def Gx(d e:D)(G:DH):R D:=match eqD 30 G d e with
 |some k=>.ok (.bl (!k)) G
 |none=>.bad
theorem Gi(hu:X.A.units+64<cLine):OpR X (xE .Eq) (lR2 X.K E Ej):=by
 intro vA s σ H x y v u Q I rx ry ⟨a,G,d,e,hk,hH,sm,rd,re,q⟩;subst hH;unfold Ej at q;split at q
 ·rename_i k hd;exact(Rh I hk sm 30 (by lia) rd re rx ry hd).2.1 _ _ _ _ ⟨.bl k,a.H,I,rfl,q a _ (Ext.refl a) sm rfl⟩
 ·exact q.elim
theorem Qp(hu:X.A.units+64<cLine):OpR X (xE .NotEq) (lR2 X.K E Gx):=by
 intro vA s σ H x y v u Q I rx ry ⟨a,G,d,e,hk,hH,sm,rd,re,q⟩;subst hH;unfold Gx at q;split at q
 ·rename_i k hd;exact(Rh I hk sm 30 (by lia) rd re rx ry hd).2.2 _ _ _ _ ⟨.bl (!k),a.H,I,rfl,q a _ (Ext.refl a) sm rfl⟩
 ·exact q.elim
end
noncomputable abbrev DG:=D->DSt->DH->R DSt
variable{g:DG}
def Em(E:XK)(a:Wd)(r:R DSt)(Q:St->Hp->Prop):Prop:=match r with
 |.ok S G=>∀(b:Wd)(σ:St),Ext a b->Sim b G->RepS b S σ->Q σ b.H
 |.err x G=>XOk E a x G
 |.bad=>False
def lG(K:PySem.W.Frag)(E:XK)(t:DG):TG:=λv σ H Q=>∃(a:Wd)(S:DSt)(G:DH)(d:D),a.K=K/\a.H=H/\Sim a G/\RepS a S σ/\Rep a d v/\Em E a (t d S G) Q
def QG(X:Cx)(E:XK)(tg:xQ)(t:DG):Prop:=PG X tg (lG X.K E t)
noncomputable abbrev DGs:=List D->DSt->DH->R DSt
def lGs(K:PySem.W.Frag)(E:XK)(t:DGs):TGs:=λvs σ H Q=>∃(a:Wd)(S:DSt)(G:DH)(ds:List D),a.K=K/\a.H=H/\Sim a G/\RepS a S σ/\Reps a ds vs/\Em E a (t ds S G) Q
def QGs(X:Cx)(E:XK)(tg:List xQ)(t:DGs):Prop:=PGs X tg (lGs X.K E t)
noncomputable def gV(i:Nat):DG:=λd S G=>.ok (S.set i (vB d)) G
noncomputable def Bf:DGs:=λds S G=>match ds with
 |[]=>.ok S G
 |_=>.bad
def Al(t:DG)(u:DGs):DGs:=λds S G=>match ds with
 |d::r=>(t d S G).bind λS1 G1=>u r S1 G1
 |[]=>.bad
noncomputable def Bd(n:Nat)(t:DGs):DG:=λd S G=>match d with
 |.tup ds=>if ds.length=n then t ds S G else .bad
 |_=>.bad
theorem Em.imp{r:R DSt}{Q Q':St->Hp->Prop}(h:Em E a r Q)(w:∀v H,Q v H->Q' v H):Em E a r Q':=by
 cases r with
 |ok d G=>exact λb v x s q=>w _ _ (h b v x s q)
 |err e G=>exact h
 |bad=>exact h
theorem Em.mono(x:Ext a b){r:R DSt}{Q:St->Hp->Prop}(h:Em E a r Q):Em E b r Q:=by
 cases r with
 |ok d G=>exact λc v y s q=>h c v (x.trans y) s q
 |err e G=>exact XOk.mono (E:=E) (e:=e) (G:=G) x h
 |bad=>exact h
theorem ZNN{r:R DSt}{f:DSt->DH->R DSt}{Q:St->Hp->Prop}(h:Em E a (r.bind f) Q):
  Em E a r (λσ H=>∃(b:Wd)(S:DSt)(G:DH),b.H=H/\Ext a b/\Sim b G/\RepS b S σ/\r=.ok S G/\Em E b (f S G) Q):=by
 cases r with
 |ok d G=>exact λb v x s q=>⟨b,d,G,rfl,x,s,q,rfl,Em.mono x h⟩
 |err e G=>exact h
 |bad=>exact h
theorem ZEu{f:D->DH->R DSt}{Q:St->Hp->Prop}(h:Em E a (r.bind f) Q):
  out E a r (λv H=>∃(b:Wd)(d:D)(G:DH),b.H=H/\Ext a b/\Sim b G/\Rep b d v/\r=.ok d G/\Em E b (f d G) Q):=by
 cases r with
 |ok d G=>exact λb v x s q=>⟨b,d,G,rfl,x,s,q,rfl,Em.mono x h⟩
 |err e G=>exact h
 |bad=>exact h
theorem ZDI{r:R DSt}{f:DSt->DH->SR}(h:Br E a (r.toS f) W):
  Em E a r (λσ H=>∃(b:Wd)(S:DSt)(G:DH),b.H=H/\Ext a b/\Sim b G/\RepS b S σ/\r=.ok S G/\Br E b (f S G) W):=by
 cases r with
 |ok d G=>exact λb v x s q=>⟨b,d,G,rfl,x,s,q,rfl,Br.mono x h⟩
 |err e G=>exact h
 |bad=>exact h
section
variable{X:Cx}{E:XK}
theorem _root_._L.PG.mono{t t':TG}(h:PG X e t)(w:∀v σ H Q,t' v σ H Q->t v σ H Q):PG X e t':=λvA s σ H v u Q I r q=>h vA s σ H v u Q I r (w v σ H Q q)
theorem _root_._L.PGs.mono{e:List xQ}{t t':TGs}(h:PGs X e t)(w:∀v σ H Q,t' v σ H Q->t v σ H Q):PGs X e t':=λvA s σ H v u Q I r q=>h vA s σ H v u Q I r (w v σ H Q q)
theorem Ba(i:Nat){pos:Pos}(hN:X.N.Nodup)(hi:X.N[i]?=vB x:=by rfl)(hx:Loc X.env.scope x:=by first|exact Or.inl rfl|exact Or.inr rfl)
  (hf:X.fn x=vD∨X.env.scope.names.lookup x=vB .local:=by first|exact .inl rfl|exact .inr rfl|assumption):QG X E (.Name x pos) (gV i):=
 (ZLn hN hi hx hf).mono λv σ H Q h=>by obtain⟨a,S,G,d,hk,rfl,s,r,q,h⟩:=h;exact h a _ (Ext.refl a) s (r.set i q)
theorem Dp:QGs X E [] Bf:=ZJi.mono λvs σ H Q h=>by
 obtain⟨a,S,G,ds,hk,rfl,s,r,q,h⟩:=h;cases ds with
 |nil=>exact⟨q,h a σ (Ext.refl a) s r⟩
 |cons d ds=>exact h.elim
theorem Bg{es:List xQ}{t:DG}{u:DGs}(h1:QG X E e t)(h2:QGs X E es u)
  (hs:(xz (e::es) X.env).map (·.2)=assign e X.env::(xz es X.env).map (·.2):=by rfl):QGs X E (e::es) (Al t u):=(ZLm h1 h2 hs).mono λvs σ H Q h=>by
 obtain⟨a,S,G,ds,hk,rfl,s,r,q,h⟩:=h;cases ds with
 |nil=>exact h.elim
 |cons d ds=>
  obtain⟨v,rest,e1,q1,q2⟩:=q;refine⟨v,rest,e1,a,S,G,d,hk,rfl,s,r,q1,(ZNN h).imp ?_⟩;rintro σ' _ ⟨b,S1,G1,rfl,x,s1,r1,_,h1⟩;exact⟨b,S1,G1,ds,x.k.trans hk,rfl,s1,r1,q2.mono x,h1⟩
theorem Dq{es:List xQ}{k:Nat}{t:DGs}{n:Nat}{pos:Pos}(hc:X.calm=vD)(h:QGs X E es t)
  (hn:(xz es X.env).length=n:=by rfl) (hst:(xz es X.env).findIdx? (·.1)=vC:=by rfl):QG X E (.Tuple es k pos) (Bd n t):=(ZHj hc h hn hst).mono λv σ H Q h=>by
 obtain⟨a,S,G,d,hk,rfl,s,r,q,h⟩:=h;cases d with
 |tup ds=>
  obtain⟨p,vs,e,h1,r1⟩:=q;unfold Bd at h;dsimp only at h;split at h
  ·rename_i hl;exact⟨p,vs,e,by rw[<-hk];exact h1,by rw[<-r1.length];exact hl,a,S,G,ds,hk,rfl,s,r,r1,h⟩
  ·exact h.elim
 |_=>exact h.elim
def Jt(o i v:D)(G:DH):R D:=match o,i with
 | .ref p,.int k=>match G[p]? with
  |some (.lst xs)=>match ixN xs.length k with
   |some j=>.ok .non (G.set p (.lst (xs.set j v)))
   |none=>.bad
  |_=>.bad
 |_,_=>.bad
def gIx(to ti:DE):DG:=λv S G=>(to S G).bind λo G1=>(ti S G1).bind λi G2=>(Jt o i v G2).bind λ_ G3=>.ok S G3
theorem Vg{vs':List V}{ds':List D}(s:Sim a G)(hi:i<a.n)(h:a.H (a.m i)=vB (.lst vs))(r:Reps a ds' vs'):
  Ext a (a.put (a.m i) (.lst vs'))/\Sim (a.put (a.m i) (.lst vs')) (G.set i (.lst ds')):=⟨Ext.wr h,s.wr hi h (r.mono (Ext.wr h))⟩
theorem Ja{o i:xQ}{to ti:DE}{pos:Pos}(ho:QE X E o to)(hi:QE X E i ti)
  (ha:∀v,assign (.Subscript o i pos) X.env v=(do
   let ov<-holding [v] (eval o X.env);let iv<-holding [v,ov] (eval i X.env)
   standAt pos
   holding [v,ov,iv] (setItem ov iv v)
   release [v,ov,iv] []):=by intro _;rfl):QG X E (.Subscript o i pos) (gIx to ti):=(ZJy ho hi set_list ha).mono λv σ H Q h=>by
 obtain⟨a,S,G,d,hk,rfl,s,r,q,h⟩:=h;refine⟨a,S,G,hk,rfl,s,r,(ZEu h).imp ?_⟩;rintro ov _ ⟨b,e,G1,rfl,x,s1,q1,_,h1⟩;refine⟨b,S,G1,x.k.trans hk,rfl,s1,r.mono x,(ZEu h1).imp ?_⟩;rintro iv _ ⟨c,f,G2,rfl,y,s2,q2,_,h2⟩;cases e with
 | ref p=>
  cases f with
  | int k=>
   unfold Jt at h2;dsimp only at h2;split at h2
   ·rename_i xs hx;split at h2
    ·rename_i j hj;obtain⟨vs,e1,r1⟩:=s2.lst hx;have q1':=q1.mono y;have rv:=(q.mono x).mono y;obtain⟨x3,s3⟩:=Vg s2 q1'.1 e1 (r1.set rv j);refine⟨c.m p,vs,k,j,q1'.2,q2,e1,by rw[<-r1.length];exact hj,?_⟩;exact h2 _ σ x3 s3 (((r.mono x).mono y).mono x3)
    ·exact h2.elim
   ·exact h2.elim
  |_=>exact h2.elim
 |_=>exact h2.elim
variable{st:xK}{rest:List xK}{t u:DS}{e:xQ}{te:DE}{pos:Pos}
noncomputable def sNx:DS:=λS G=>.nx S G
noncomputable def Ai(t u:DS):DS:=λS G=>match t S G with
 |.nx S1 G1=>u S1 G1
 |r=>r
def sEx(te:DE):DS:=λS G=>(te S G).toS λ_ G1=>.nx S G1
def sRt(te:DE):DS:=λS G=>(te S G).toS λd G1=>.rt d G1
def sIf(c:DB)(t u:DS):DS:=λS G=>(c S G).toS λk G1=>if k=vD then t S G1 else u S G1
def sAs(te:DE)(g:DG):DS:=λS G=>(te S G).toS λd G1=>(g d S G1).toS λS2 G2=>.nx S2 G2
def sAu(i:Nat)(te:DE)(f:D->D->DH->R D):DS:=λS G=>match S[i]? with
 |some (vB x)=>(te S G).toS λy G1=>(f x y G1).toS λz G2=>.nx (S.set i (vB z)) G2
 |_=>.bad
theorem Dw:QSs X E [] sNx:=ZH9.mono λW σ H h=>by obtain⟨a,S,G,hk,rfl,s,r,h⟩:=h;exact h a σ (Ext.refl a) s r
theorem Br.nxOf{t:DS}{K:PySem.W.Frag}(hk:a.K=K)(h:Br E a (Ai t u S G) W):Br E a (t S G) {W with nx:=lS K E u W}:=by
 unfold Ai at h
 revert h
 cases t S G<;>intro h
 ·exact λb σ x s r=>⟨b,_,_,x.k.trans hk,rfl,s,r,Br.mono x h⟩
 all_goals exact h
theorem Aj(h1:QS X E st t)(h2:QSs X E rest u):QSs X E (st::rest) (Ai t u):=(ZGR h1 h2).mono λW σ H h=>by obtain⟨a,S,G,hk,rfl,s,r,h⟩:=h;exact⟨a,S,G,hk,rfl,s,r,h.nxOf hk⟩
theorem Ao(h1:QS X E st t):QSs X E [st] t:=ZCI h1
theorem Fd(he:QE X E e te)(hs:swapsWith e vC pos.line X.env=pure vE:=by rfl):QS X E (.Expr e pos) (sEx te):=(ZE7 he hs).mono λW σ H h=>by obtain⟨a,S,G,hk,rfl,s,r,h⟩:=h;refine⟨a,S,G,hk,rfl,s,r,(Ge h).imp ?_⟩;rintro v _ ⟨b,d,G1,rfl,x,s1,q,_,h1⟩;exact h1 b σ (Ext.refl b) s1 (r.mono x)
theorem Bs(he:QE X E e te):QS X E (.Return (vB e) pos) (sRt te):=(ZOu he).mono λW σ H h=>by obtain⟨a,S,G,hk,rfl,s,r,h⟩:=h;refine⟨a,S,G,hk,rfl,s,r,(Ge h).imp ?_⟩;rintro v _ ⟨b,d,G1,rfl,x,s1,q,_,h1⟩;exact h1 b v (Ext.refl b) s1 q
theorem Cy{c:xQ}{tc:DB}{a b:List xK}(hc:QT X E c tc)(ha:QSs X E a t)(hb:QSs X E b u):QS X E (.If c a b pos) (sIf tc t u):=(ZII hc ha hb).mono λW σ H h=>by
 obtain⟨a,S,G,hk,rfl,s,r,h⟩:=h;refine⟨a,S,G,hk,rfl,s,r,(ZDp h).imp ?_⟩;rintro k _ ⟨b,G1,rfl,x,s1,_,h1⟩;cases k with
 |true=>exact⟨b,S,G1,x.k.trans hk,rfl,s1,r.mono x,h1⟩
 |false=>exact⟨b,S,G1,x.k.trans hk,rfl,s1,r.mono x,h1⟩
theorem ZIV{K:PySem.W.Frag}(h:lS K E (sAs te g) W σ H):ZBd (lE K E te) (lG K E g) W σ H:=by obtain⟨a,S,G,hk,rfl,s,r,h⟩:=h;refine⟨a,S,G,hk,rfl,s,r,(Ge h).imp ?_⟩;rintro v _ ⟨b,d,G1,rfl,x,s1,q,_,h1⟩;refine⟨b,S,G1,d,x.k.trans hk,rfl,s1,r.mono x,q,(ZDI h1).imp ?_⟩;rintro σ' _ ⟨c,S2,G2,rfl,y,s2,r2,_,h2⟩;exact h2 c σ' (Ext.refl c) s2 r2
theorem Fl(he:QE X E e te)(hg:QG X E tg g)(hs:swapsWithSole [tg] e pos.line X.env=pure vE:=by rfl)(hw:swappedStores [tg] e X.env=pure vC:=by rfl)
  (h1:(xz [tg] X.env).map (·.2)=[assign tg X.env]:=by rfl):QS X E (.Assign [tg] e pos) (sAs te g):=(ZHp he hg hs hw h1).mono λ_ _ _ h=>ZIV h
theorem Az(i:Nat){pos':Pos}(hN:X.N.Nodup)(he:QE X E e te)(hi:X.N[i]?=vB x:=by rfl)(hx:Loc X.env.scope x:=by first|exact Or.inl rfl|exact Or.inr rfl)(hs:swapsWith e (vB (.Name x pos')) pos.line X.env=pure vE:=by rfl)
  (hf:X.fn x=vD∨X.env.scope.names.lookup x=vB .local:=by first|exact .inl rfl|exact .inr rfl|assumption):QS X E (.Assign [.Name x pos'] e pos) (sAs te (gV i)):=
 (ZLj hN hi hx he hs hf).mono λW σ H h=>by obtain⟨a,S,G,hk,rfl,s,r,h⟩:=h;refine⟨a,S,G,hk,rfl,s,r,(Ge h).imp ?_⟩;rintro v _ ⟨b,d,G1,rfl,x,s1,q,_,h1⟩;exact h1 b _ (Ext.refl b) s1 ((r.mono x).set i q)
theorem ZEn(i:Nat){op:Operator}{pos':Pos}(hN:X.N.Nodup)(he:QE X E e te)(ho:OpR X (inplaceOp op) (lR2 X.K E f))(hi:X.N[i]?=vB x:=by rfl)(hx:Loc X.env.scope x:=by first|exact Or.inl rfl|exact Or.inr rfl)
  (hf:X.fn x=vD∨X.env.scope.names.lookup x=vB .local:=by first|exact .inl rfl|exact .inr rfl|assumption):QS X E (.AugAssign (.Name x pos') op e pos) (sAu i te f):=
 (ZLZ (ti:=lR2 X.K E f) hN hi hx he ho hf).mono λW σ H h=>by
  obtain⟨a,S,G,hk,rfl,s,r,h⟩:=h;unfold sAu at h;split at h
  ·rename_i d hd;obtain⟨v,e1,q⟩:=r.get i d hd;refine⟨v,e1,a,S,G,hk,rfl,s,r,(Ge h).imp ?_⟩;rintro w _ ⟨b,d1,G1,rfl,x,s1,q1,_,h1⟩;refine⟨b,G1,d,d1,x.k.trans hk,rfl,s1,q.mono x,q1,(Ge h1).imp ?_⟩;rintro z _ ⟨c,d2,G2,rfl,y,s2,q2,_,h2⟩;exact h2 c _ (Ext.refl c) s2 (((r.mono x).mono y).set i q2)
  ·exact h.elim
def Jz:D->D->DH->R D
 |.int i,.int j,G=>.ok (.int (i+j)) G
 |.str i,.str j,G=>if i.length+j.length<=1000000 then .ok (.str (i++j)) G else .bad
 |_,_,_=>.bad
theorem Od:OpR X (inplaceOp .Add) (lR2 X.K E Jz):=G7 (OpR.or (r:=ipI λi j=>i+j) ZHL ZJb) λa G d e x y Q hk s rd re q=>by
 cases d<;>cases e<;>first
  |exact q.elim
  |exact .inl ⟨_,_,rd,re,q a _ (Ext.refl a) s rfl⟩
  | (
    unfold Jz at q;dsimp only at q;split at q
    ·rename_i hl;exact .inr ⟨_,_,rd,re,zC hl size6,q a _ (Ext.refl a) s rfl⟩
    ·exact q.elim)
theorem ZIk:OpR X (inplaceOp .Sub) (lR2 X.K E Dy):=G7 (r:=ipI λi j=>i-j) ZGz λa G d e x y Q hk s rd re q=>by
 cases d<;>cases e<;>first
  |exact q.elim
  |exact⟨_,_,rd,re,q a _ (Ext.refl a) s rfl⟩
end
noncomputable def aft(r:SR)(k:DSt->DH->SR):SR:=match r with
 |.nx S G=>k S G
 |.ct S G=>k S G
 |.bk S G=>.nx S G
 |r=>r
def Bm(g:DG)(b:DS):List D->DS
 |[],S,G=>.nx S G
 |x::xs,S,G=>(g x S G).toS λS1 G1=>aft (b S1 G1) (Bm g b xs)
def forM(i:Nat)(g:DG)(b:DS):Nat->Nat->DS
 |0,j,S,G=>match G[i]? with
  |some (.lst xs)=>if xs.length<=j then .nx S G else .bad
  |_=>.bad
 | k+1,j,S,G=>match G[i]? with
  |some (.lst xs)=>match xs[j]? with
   |some x=>(g x S G).toS λS1 G1=>aft (b S1 G1) (forM i g b k (j+1))
   |none=>.nx S G
  |_=>.bad
def Cq(f:Nat->DH->Option (Option D))(g:DG)(b:DS):Nat->Nat->DS
 |0,j,S,G=>match f j G with
  |some vC=>.nx S G
  |_=>.bad
 |k+1,j,S,G=>match f j G with
  |some (vB x)=>(g x S G).toS λS1 G1=>aft (b S1 G1) (Cq f g b k (j+1))
  |some vC=>.nx S G
  |none=>.bad
inductive ItD where
 |pure (xs:List D)
 |mt (i:Nat)
 |fn (n:Nat) (f:Nat->DH->Option (Option D))
noncomputable abbrev DI:=DSt->DH->R ItD
def El(it:DI)(g:DG)(b:DS):DS:=λS G=>(it S G).toS λJ G1=>match J with
 |.pure xs=>Bm g b xs S G1
 |.mt i=>match G1[i]? with
  |some (.lst xs)=>forM i g b xs.length 0 S G1
  |_=>.bad
 |.fn n f=>Cq f g b n 0 S G1
def RepI(a:Wd):ItD->It->Prop
 |.pure xs,J=>∃vs:List V,Reps a xs vs/\∀b:Wd,Ext a b->∀i,(∀v,vs[i]?=vB v->J.go i b.H/\∀x H',J.yld i b.H x H'->x=v/\H'=b.H)/\(vs.length<=i->J.stop i b.H)
 |.mt k,J=>k<a.n/\∀b:Wd,Ext a b->∀vs,b.H (b.m k)=vB (.lst vs)->∀i,(∀v,vs[i]?=vB v->J.go i b.H/\∀x H',J.yld i b.H x H'->x=v/\H'=b.H)/\(vs.length<=i->J.stop i b.H)
 |.fn _ f,J=>∀b:Wd,Ext a b->∀G,Sim b G->∀i,(∀d,f i G=vB (vB d)->J.go i b.H/\∀x H',J.yld i b.H x H'->∃c:Wd,c.H=H'/\Ext b c/\Sim c G/\Rep c d x)/\(f i G=vB vC->J.stop i b.H)
def outI(E:XK)(a:Wd)(r:R ItD)(Q:It->Hp->Prop):Prop:=match r with
 |.ok J G=>∀(b:Wd)(JJ:It),Ext a b->Sim b G->RepI b J JJ->Q JJ b.H
 |.err x G=>XOk E a x G
 |.bad=>False
def lI(K:PySem.W.Frag)(E:XK)(t:DI):TI:=λσ H Q=>∃(a:Wd)(S:DSt)(G:DH),a.K=K/\a.H=H/\Sim a G/\RepS a S σ/\outI E a (t S G) Q
def QI(X:Cx)(E:XK)(tg iter:xQ)(t:DI):Prop:=PI X tg iter (lI X.K E t)
theorem outI.imp{r:R ItD}{Q Q':It->Hp->Prop}(h:outI E a r Q)(w:∀v H,Q v H->Q' v H):outI E a r Q':=by
 cases r with
 |ok d G=>exact λb v x s q=>w _ _ (h b v x s q)
 |err e G=>exact h
 |bad=>exact h
theorem ZJO{r:R ItD}{f:ItD->DH->SR}(h:Br E a (r.toS f) W):
  outI E a r (λJ H=>∃(b:Wd)(d:ItD)(G:DH),b.H=H/\Ext a b/\Sim b G/\RepI b d J/\r=.ok d G/\Br E b (f d G) W):=by
 cases r with
 |ok d G=>exact λb v x s q=>⟨b,d,G,rfl,x,s,q,rfl,Br.mono x h⟩
 |err e G=>exact h
 |bad=>exact h
theorem ZGT {r:SR} {k:DSt->DH->SR} (h:Br E a (aft r k) W):
  Br E a r {W with
            nx:=λσ H=>∃(b:Wd)(S:DSt)(G:DH),b.H=H/\Ext a b/\Sim b G/\RepS b S σ/\Br E b (k S G) W,
            ct:=λσ H=>∃(b:Wd)(S:DSt)(G:DH),b.H=H/\Ext a b/\Sim b G/\RepS b S σ/\Br E b (k S G) W,bk:=W.nx}:=by
 cases r with
 |nx S G=>exact λb σ x s q=>⟨b,S,G,rfl,x,s,q,Br.mono x h⟩
 |ct S G=>exact λb σ x s q=>⟨b,S,G,rfl,x,s,q,Br.mono x h⟩
 |bk S G=>exact h
 |rt d G=>exact h
 |err x G=>exact h
 |bad=>exact h
noncomputable def mtF(i j:Nat)(G:DH):Option (Option D):=match G[i]? with
 |some (.lst xs)=>vB xs[j]?
 |_=>vC
theorem ZDX{J:It}{n:Nat}(r:RepI a (.pure xs) J):RepI a (.fn n λj _=>vB xs[j]?) J:=by
 obtain⟨vs,rv,h⟩:=r;refine λb x G sm i=>⟨λd e=>?_,λe=>?_⟩
 ·obtain⟨v,ev,q⟩:=rv.get (Option.some.inj e);obtain⟨h1,h2⟩:=(h b x i).1 v ev;refine⟨h1,λy H' hy=>?_⟩;obtain⟨rfl,rfl⟩:=h2 y H' hy;exact⟨b,rfl,Ext.refl b,sm,q.mono x⟩
 ·exact(h b x i).2 (by rw[<-rv.length];exact qP.mp (Option.some.inj e))
theorem ZFJ{J:It}{n:Nat}(r:RepI a (.mt k) J):RepI a (.fn n (mtF k)) J:=by
 obtain⟨hk,h⟩:=r;refine λb x G sm i=>?_
 unfold mtF;cases hG:G[k]? with
 |none=>exact⟨λd e=>(by cases e),λe=>(by cases e)⟩
 | some o=>
  cases o with
  |lst xs=>
   obtain⟨vs,e1,rv⟩:=sm.lst hG;refine⟨λd e=>?_,λe=>?_⟩
   ·obtain⟨v,ev,q⟩:=rv.get (Option.some.inj e);obtain⟨h1,h2⟩:=(h b x vs e1 i).1 v ev;refine⟨h1,λy H' hy=>?_⟩;obtain⟨rfl,rfl⟩:=h2 y H' hy;exact⟨b,rfl,Ext.refl b,sm,q⟩
   ·exact(h b x vs e1 i).2 (by rw[<-rv.length];exact qP.mp (Option.some.inj e))
  |_=>exact⟨λd e=>(by cases e),λe=>(by cases e)⟩
theorem ZBu{b:DS}:∀(n j:Nat),j+n=xs.length->Bm g b (xs.drop j)=Cq (λj _=>vB xs[j]?) g b n j
 |0,j,h=>by
  funext S G;rw[zO (by lia)]
  show SR.nx S G=(match vB xs[j]? with |some vC=>SR.nx S G|_=>.bad)
  rw[zD (by lia)]
 |n+1,j,h=>by
  funext S G;have hj:j<xs.length:=by lia
  rw[zM hj]
  show(g xs[j] S G).toS (λS1 G1=>aft (b S1 G1) (Bm g b (xs.drop (j+1))))=(match vB xs[j]? with |some (vB x)=>(g x S G).toS (λS1 G1=>aft (b S1 G1) (Cq (λj _=>vB xs[j]?) g b n (j+1)))|some vC=>SR.nx S G|none=>.bad)
  rw[zZ hj,ZBu n (j+1) (by lia)]
theorem ZGH{b:DS}:∀(n j:Nat),forM i g b n j=Cq (mtF i) g b n j
 | 0,j=>by
  funext S G;unfold forM Cq mtF;cases G[i]? with
  |none=>rfl
  | some o=>
   cases o with
   |lst xs=>
    dsimp only;by_cases hj:j<xs.length
    ·rw[if_neg (by lia),zZ hj]
    ·rw[if_pos (by lia),zD (by lia)]
   |_=>rfl
 | n+1,j=>by
  funext S G;unfold forM Cq;rw[ZGH n (j+1)];unfold mtF;cases G[i]? with
  |none=>rfl
  | some o=>
   cases o with
   |lst xs=>
    dsimp only
    cases xs[j]?<;>rfl
   |_=>rfl
section
variable{X:Cx}{E:XK}{tg iter:xQ}{pos:Pos}
theorem ZM5{K:PySem.W.Frag}{it:DI}{b:DS}(h:lS K E (El it g b) W σ H):tFor (lI K E it) (lG K E g) (lS K E b) W σ H:=by
 obtain⟨a,S,G,hk,rfl,s,r,h⟩:=h;refine⟨a,S,G,hk,rfl,s,r,(ZJO h).imp ?_⟩;rintro J _ ⟨a1,d,G1,rfl,x1,s1,q1,_,h1⟩;have k1:a1.K=K:=x1.k.trans hk
 suffices fnc:∃n f,RepI a1 (.fn n f) J/\Br E a1 (Cq f g b n 0 S G1) W by
  obtain⟨n,f,q1,h1⟩:=fnc;have walk:∀b:Wd,Ext a1 b->∀G,Sim b G->∀i,(∀d,f i G=vB (vB d)->J.go i b.H/\∀x H',J.yld i b.H x H'->∃c:Wd,c.H=H'/\Ext b c/\Sim c G/\Rep c d x)/\(f i G=vB vC->J.stop i b.H):=q1;refine⟨λi m σ H=>∃(c:Wd)(S:DSt)(G:DH),c.H=H/\Ext a1 c/\Sim c G/\RepS c S σ/\Br E c (Cq f g b m i S G) W,⟨_,a1,S,G1,rfl,Ext.refl _,s1,r.mono x1,h1⟩,?_⟩;rintro i m σ2 _ ⟨c,S2,G2,rfl,x2,s2,r2,h2⟩
  cases m with
  |zero=>
   unfold Cq at h2;split at h2
   ·rename_i hf;exact .inl ⟨(walk c x2 G2 s2 i).2 hf,h2 c σ2 (Ext.refl c) s2 r2⟩
   ·exact h2.elim
  | succ m=>
   unfold Cq at h2;split at h2
   ·rename_i d hf;obtain⟨go,yl⟩:=(walk c x2 G2 s2 i).1 d hf;refine .inr ⟨go,λσ' H'=>∃(c:Wd)(S:DSt)(G:DH),c.H=H'/\Ext a1 c/\Sim c G/\RepS c S σ'/\Br E c (Cq f g b m (i+1) S G) W,λσ' H' z=>⟨m,qX _,z⟩,λw H' y=>?_⟩;obtain⟨cc,rfl,xx,ss,rd⟩:=yl w H' y;refine⟨cc,S2,G2,d,xx.k.trans (x2.k.trans k1),rfl,ss,r2.mono xx,rd,(ZDI (Br.mono xx h2)).imp ?_⟩;rintro σ3 _ ⟨c3,S3,G3,rfl,x3,s3,r3,_,h3⟩
    have fin:=ZGT h3;refine⟨c3,S3,G3,x3.k.trans (xx.k.trans (x2.k.trans k1)),rfl,s3,r3,?_⟩
    revert fin
    cases b S3 G3 with
    | nx S4 G4=>
      intro fin c4 σ4 x4 s4 q4;obtain⟨c5,S5,G5,hh,x5,s5,r5,h5⟩:=fin c4 σ4 x4 s4 q4;exact⟨c5,S5,G5,hh,x2.trans (xx.trans (x3.trans x5)),s5,r5,h5⟩
    | ct S4 G4=>
      intro fin c4 σ4 x4 s4 q4;obtain⟨c5,S5,G5,hh,x5,s5,r5,h5⟩:=fin c4 σ4 x4 s4 q4;exact⟨c5,S5,G5,hh,x2.trans (xx.trans (x3.trans x5)),s5,r5,h5⟩
    |bk S4 G4=>exact λfin=>fin
    |rt S4 G4=>exact λfin=>fin
    |err S4 G4=>exact λfin=>fin
    |bad=>exact λfin=>fin
   ·rename_i hf;exact .inl ⟨(walk c x2 G2 s2 i).2 hf,h2 c σ2 (Ext.refl c) s2 r2⟩
   ·exact h2.elim
 cases d with
 |pure xs=>
  have h1':Br E a1 (Bm g b (xs.drop 0) S G1) W:=h1;rw[ZBu xs.length 0 (by lia)]at h1';exact⟨_,_,ZDX q1,h1'⟩
 |mt k=>
  dsimp only at h1;split at h1
  ·rw[ZGH]at h1;exact⟨_,_,ZFJ q1,h1⟩
  ·exact h1.elim
 |fn n f=>exact⟨n,f,q1,h1⟩
theorem Gb{body:List xK}{it:DI}{b:DS}(hp:PassesOwn (xS X.prog X.w) X.A X.env X.xe)(hc:X.calm=vD)(hi:QI X E tg iter it)(hg:QG X E tg g)(hb:QSs X E body b)
  (hs:∀x,foldedSetIterable iter X.env x=pure x:=by intro _;rfl):QS X E (.For tg iter body [] pos) (El it g b):=(ZLM hp hc hi hg hb hs).mono λ_ _ _ h=>ZM5 h
theorem _root_._L.PI.mono{t t':TI}(h:PI X tg iter t)(w:∀σ H Q,t' σ H Q->t σ H Q):PI X tg iter t':=λvA s σ H Q I q=>h vA s σ H Q I (w σ H Q q)
noncomputable def sgn(c:Nat):D:=.str ⟨#[c]⟩
def signs(x:Str):List D:=x.cps.toList.map sgn
noncomputable def Its(x:Str):It:=⟨λi _=>i<x.cps.size,λi H v H'=>H'=H/\∃c,x.cps[i]?=vB c/\v=.str ⟨#[c]⟩,λi _=>x.cps.size<=i⟩
theorem ZK8{K:PySem.W.Frag}(it:jT)(x:Str)(t:Tok):Turn P w K tg (Its x) [it] it (λi h=>h.IsStrIter it "str_ascii_iterator" x t i) where
 mem:=by simp
 obj:=λi h st b hb=>by
  have e:b=it:=by simpa using hb
  subst e;obtain⟨o,e,c,d⟩:=st;exact⟨o,e,λv z=>by rw[d]at z;cases z⟩
 keep:=λi h h' st k=>let⟨o,ho,r⟩:=st;⟨o,k it (by simp) o ho,r⟩
 item:=by
  intro X hP hw hK hc i vA s σ H E I hf st hg;subst hP hw hK;obtain⟨f0,f1,f2,f3,f4,f5⟩:=hf it (by simp);have hi:i<x.cps.size:=hg;refine wpAny_pyNext_ascii_item st (c:=x.cps[i]) (by simp[hi]) λh' st' sb=>?_
  have I1:Inv X vA σ H {s with heap:=h',toks:=s.toks+1}:=I.turned (λb o hb e=>(sb.2 b hb).trans e) f0 f1 f3 f4 f5;obtain⟨o,e,c,d⟩:=id st';exact⟨_,rfl,Nz (s:={s with heap:=h',toks:=s.toks+1}) e c d (by decide) ⟨.str ⟨#[x.cps[i]]⟩,H,I1,⟨_,rfl⟩,⟨rfl,_,by simp[hi],rfl⟩,st',λb hb=>(hf b hb).1⟩⟩
 done:=by intro X hP hw hK hc i vA s σ H E I hf st hg;subst hP hw hK;obtain⟨f0,f1,f2,f3,f4,f5⟩:=hf it (by simp);have hi:x.cps.size<=i:=hg;exact wpAny_pyNext_ascii_end (I.ok.hd hc) st (by simp[hi]) λh' eb=>⟨rfl,I.turned (t':=s.toks) (λb o hb e=>eb b o hb e) f0 f1 f3 f4 f5⟩
 self:=λ_ _ _ _ _ st h=>wpAny_pyIter_striter_ascii st h
theorem ZJS{K:PySem.W.Frag}(it:jT)(x:Str)(t:Tok):Turn P w K tg (Its x) [it] it (λi h=>h.IsStrIter it "str_iterator" x t i) where
 mem:=by simp
 obj:=λi h st b hb=>by
  have e:b=it:=by simpa using hb
  subst e;obtain⟨o,e,c,d⟩:=st;exact⟨o,e,λv z=>by rw[d]at z;cases z⟩
 keep:=λi h h' st k=>let⟨o,ho,r⟩:=st;⟨o,k it (by simp) o ho,r⟩
 item:=by
  intro X hP hw hK hc i vA s σ H E I hf st hg;subst hP hw hK;obtain⟨f0,f1,f2,f3,f4,f5⟩:=hf it (by simp);have hi:i<x.cps.size:=hg;refine wpAny_pyNext_wide_item st (c:=x.cps[i]) (by simp[hi]) λh' st' sb=>?_
  have I1:Inv X vA σ H {s with heap:=h',toks:=s.toks+1}:=I.turned (λb o hb e=>(sb.2 b hb).trans e) f0 f1 f3 f4 f5;obtain⟨o,e,c,d⟩:=id st';exact⟨_,rfl,Nz (s:={s with heap:=h',toks:=s.toks+1}) e c d (by decide) ⟨.str ⟨#[x.cps[i]]⟩,H,I1,⟨_,rfl⟩,⟨rfl,_,by simp[hi],rfl⟩,st',λb hb=>(hf b hb).1⟩⟩
 done:=by intro X hP hw hK hc i vA s σ H E I hf st hg;subst hP hw hK;obtain⟨f0,f1,f2,f3,f4,f5⟩:=hf it (by simp);have hi:x.cps.size<=i:=hg;exact wpAny_pyNext_wide_end (I.ok.hd hc) st (by simp[hi]) λh' eb=>⟨rfl,I.turned (t':=s.toks) (λb o hb e=>eb b o hb e) f0 f1 f3 f4 f5⟩
 self:=λ_ _ _ _ _ st h=>wpAny_pyIter_striter_wide st h
def iStr(tl:TE):TI:=λσ H R=>tl σ H λx H1=>∃z,x=.str z/\R (Its z) H1
theorem ZMx{l:xQ}{tl:TE}(hl:PE X l tl):PI X tg l (iStr tl):=by
 intro vA s σ H R I h;refine thn (hl vA s σ H _ I h) λv s1 ⟨x,H1,I1,r1,q1⟩=>?_
 obtain⟨z,e,q⟩:=q1;subst e;obtain⟨t,rfl⟩:=r1;have fp:∀b∈[s1.heap.objs.size],FpOk X vA H1 b:=λb hb=>by
  have e:b=s1.heap.objs.size:=by simpa using hb
  subst e;exact I1.Im (zW _) (I1.hok.fresh (zW _))
 cases ha:z.cps.all (· < 128)
 ·refine wpAny_pyIter_wide ha ?_;exact⟨s1.heap.objs.size,[s1.heap.objs.size],_,_,H1,rfl,I1.kept (t':=s1.toks) λb o e=>zQ _ e,ZJS _ z t,⟨_,zy _ rfl,rfl,rfl⟩,fp,q⟩
 ·refine wpAny_pyIter_ascii ha ?_;exact⟨s1.heap.objs.size,[s1.heap.objs.size],_,_,H1,rfl,I1.kept (t':=s1.toks) λb o e=>zQ _ e,ZK8 _ z t,⟨_,zy _ rfl,rfl,rfl⟩,fp,q⟩
theorem Reps.signs(x:Str):Reps a (signs x) (x.cps.toList.map λc=>V.str ⟨#[c]⟩):=by
 unfold _D.signs
 induction x.cps.toList with
 |nil=>exact rfl
 |cons c r ih=>exact⟨_,_,rfl,rfl,ih⟩
def Ff:D->DH->R ItD
 |.tup xs,G=>.ok (.pure xs) G
 |.str x,G=>.ok (.pure (signs x)) G
 |.fl xs,G=>.ok (.pure xs) G
 |.ref i,G=>match G[i]? with
  |some (.lst _)=>.ok (.mt i) G
  |_=>.bad
 |_,_=>.bad
def Fq(te:DE):DI:=λS G=>(te S G).bind Ff
theorem H9(he:QE X E iter te):QI X E tg iter (Fq te):=by
 intro vA s σ H R I h;obtain⟨a,S,G,hk,rfl,sm,r,h⟩:=h;cases ht:te S G with
 |bad=>
  have h':outI E a ((te S G).bind Ff) R:=h;rw[ht]at h';exact h'.elim
 |err e G1=>
  have h':outI E a ((te S G).bind Ff) R:=h;rw[ht]at h';refine ZAB (tg:=tg) he vA s σ a.H R I ⟨a,S,G,hk,rfl,sm,r,?_⟩;rw[ht];exact h'
 | ok d G1=>
  have h':outI E a ((te S G).bind Ff) R:=h;rw[ht]at h';cases d with
  |tup xs=>
   refine ZJe (tg:=tg) he vA s σ a.H R I ⟨a,S,G,hk,rfl,sm,r,?_⟩;rw[ht];rintro b v x sb ⟨p,vs,rfl,hq,rv⟩;have hq':SqT X.K b.H p vs:=by rw[<-hk,<-x.k];exact hq
   refine⟨p,rfl,⟨vs,hq'⟩,h' b _ x sb ⟨vs,rv,λc y i=>⟨λv hv=>⟨⟨vs,v,?_,hv⟩,λw H' z=>?_⟩,λhl=>⟨vs,?_,hl⟩⟩⟩⟩
   ·have:=y.sqT hq;rw[y.k,x.k,hk]at this;exact this
   ·have:=y.sqT hq;rw[y.k,x.k,hk]at this;exact⟨Option.some.inj ((z.2 vs this).symm.trans hv),z.1⟩
   ·have:=y.sqT hq;rw[y.k,x.k,hk]at this;exact this
  |fl xs=>
   refine ZAB (tg:=tg) he vA s σ a.H R I ⟨a,S,G,hk,rfl,sm,r,?_⟩;rw[ht];rintro b v x sb ⟨p,vs,rfl,hq,rv⟩;have hq':SqL X.K b.H p vs:=by rw[<-hk,<-x.k];exact hq.sq
   refine⟨p,rfl,⟨vs,hq'⟩,h' b _ x sb ⟨vs,rv,λc y i=>⟨λv hv=>⟨⟨vs,v,?_,hv⟩,λw H' z=>?_⟩,λhl=>⟨vs,?_,hl⟩⟩⟩⟩
   ·have:=(y.fzL hq).sq;rw[y.k,x.k,hk]at this;exact this
   ·have:=(y.fzL hq).sq;rw[y.k,x.k,hk]at this;exact⟨Option.some.inj ((z.2 vs this).symm.trans hv),z.1⟩
   ·have:=(y.fzL hq).sq;rw[y.k,x.k,hk]at this;exact this
  |ref k=>
   have h2:outI E a (Ff (.ref k) G1) R:=h';unfold Ff at h2;dsimp only at h2;split at h2
   ·rename_i xs hx;refine ZAB (tg:=tg) he vA s σ a.H R I ⟨a,S,G,hk,rfl,sm,r,?_⟩;rw[ht];rintro b v x sb ⟨hkn,rfl⟩;obtain⟨vs,hx,_⟩:=sb.lst hx;refine⟨b.m k,rfl,⟨vs,.of hx⟩,h2 b _ x sb ⟨hkn,λc y us hu i=>?_⟩⟩;rw[y.m k hkn]at hu;exact⟨λv hv=>⟨⟨us,v,.of hu,hv⟩,λw H' z=>⟨Option.some.inj ((z.2 us (.of hu)).symm.trans hv),z.1⟩⟩,λhl=>⟨us,.of hu,hl⟩⟩
   ·exact h2.elim
  | str z=>
   refine ZMx (tg:=tg) he vA s σ a.H R I ⟨a,S,G,hk,rfl,sm,r,?_⟩;rw[ht];intro b v x sb rv
   cases(show v=V.str z from rv)
   refine⟨z,rfl,h' b _ x sb ⟨_,Reps.signs z,λc y i=>⟨λv hv=>?_,λhl=>?_⟩⟩⟩
   ·rw[zq,zN]at hv;obtain⟨k,hk1,rfl⟩:=hv;have hk2:z.cps[i]?=vB k:=by rw[<-qR];exact hk1
    refine⟨(qV.mp hk2).1,λw H' q=>?_⟩;obtain⟨e1,k',e2,e3⟩:=q;rw[hk2]at e2;cases e2;exact⟨e3,e1⟩
   ·rw[qJ,qD]at hl;exact hl
  |_=>exact h'.elim
end
noncomputable def Do(lo:Int)(n:Nat):List D:=(zk n).map λ(k:Nat)=>D.int (lo+(k:Int))
def inR(j:Int):Prop:= -(2^62)<=j/\j<2^62
noncomputable instance (j:Int):Decidable (inR j):=by unfold inR;infer_instance
def rng1(ds:List D)(G:DH):R ItD:=match ds with
 |[.int j]=>if inR j then .ok (.pure (Do 0 j.toNat)) G else .bad
 |_=>.bad
def Dr(f:List D->DH->R ItD)(ta:DA):DI:=λS G=>(ta S G).bind f
def sWh(c:DB)(b:DS):Nat->DS
 |0,_,_=>.bad
 |n+1,S,G=>(c S G).toS λk G1=>if k=vD then aft (b S G1) (sWh c b n)else .nx S G1
def Be(np nl:Nat)(b:DS):List D->DH->R D:=λds G=>if ds.length=np then tidy G (match b (ds.map vB++zx nl vC) G with
 |.nx _ G'=>.ok .non G'
 |.rt d G'=>.ok d G'
 |.err x G'=>.err x G'
 |_=>.bad)else .bad
theorem outI.mono(x:Ext a b){r:R ItD}{Q:It->Hp->Prop}(h:outI E a r Q):outI E b r Q:=by
 cases r with
 |ok d G=>exact λc v y s q=>h c v (x.trans y) s q
 |err e G=>exact XOk.mono (E:=E) (e:=e) (G:=G) x h
 |bad=>exact h
theorem Oq{r:R (List D)}{f:List D->DH->R ItD}{Q:It->Hp->Prop}(h:outI E a (r.bind f) Q):
  Eu E a r (λvs H=>∃(b:Wd)(ds:List D)(G:DH),b.H=H/\Ext a b/\Sim b G/\Reps b ds vs/\r=.ok ds G/\outI E b (f ds G) Q):=by
 cases r with
 |ok d G=>exact λb v x s q=>⟨b,d,G,rfl,x,s,q,rfl,outI.mono x h⟩
 |err e G=>exact h
 |bad=>exact h
section
variable{X:Cx}{E:XK}{tg iter:xQ}{pos:Pos}
theorem ZOU(lo:Int)(n:Nat):RepI a (.pure (Do lo n)) (Itr lo n):=by
 refine⟨(zk n).map λ(k:Nat)=>V.int (lo+(k:Int)),?_,λb x i=>⟨λv hv=>?_,λhl=>?_⟩⟩
 ·unfold Do;generalize zk n=l
  induction l with
  |nil=>exact rfl
  |cons k l ih=>exact⟨_,_,rfl,rfl,ih⟩
 ·rw[zq]at hv;by_cases hi:i<n
  ·rw[zP hi]at hv;have hv':V.int (lo+(i:Int))=v:=by simpa using hv
   exact⟨hi,λw H' y=>⟨y.2.trans hv',y.1⟩⟩
  ·rw[zD (by simpa using hi)]at hv;cases hv
 ·show n<=i;simpa using hl
theorem ZAC{ta:DA}{p pos:Pos}(hg:Gl X "range")(hm:X.mg "range"=vC)(ha:QA X E [e] ta)(hs:vZ [e] X.env=[(vE,eval e X.env)]:=by rfl):QI X E tg (.Call (.Name "range" p) [e] [] pos) (Dr rng1 ta):=
 (ZKd hg hm ha hs).mono λσ H Q h=>by
  obtain⟨a,S,G,hk,rfl,s,r,h⟩:=h;refine⟨a,S,G,hk,rfl,s,r,(Oq h).imp ?_⟩;rintro vs _ ⟨b,ds,G1,rfl,x,s1,q,-,h1⟩;unfold rng1 at h1;split at h1
  ·rename_i j;split at h1
   ·rename_i hj;obtain⟨v,r,e1,q1,q2⟩:=q
    cases(show v=V.int j from q1)
    cases(show r=[]from q2)
    exact⟨j,e1,hj.1,hj.2,h1 b _ (Ext.refl b) s1 (ZOU 0 j.toNat)⟩
   ·exact h1.elim
  ·exact h1.elim
theorem ZBG(n:Nat){c:xQ}{body:List xK}{tc:DB}{tb:DS}(hp:PassesOwn (xS X.prog X.w) X.A X.env X.xe)(hc:QT X E c tc)(hb:QSs X E body tb):QS X E (.While c body [] pos) (sWh tc tb n):=(ZLJ hp hc hb).mono λW σ H h=>by
 obtain⟨a,S,G,hk,rfl,s,r,h⟩:=h;refine⟨λm σ H=>∃(b:Wd)(S:DSt)(G:DH),b.H=H/\Ext a b/\Sim b G/\RepS b S σ/\Br E b (sWh tc tb m S G) W,⟨n,a,S,G,rfl,Ext.refl a,s,r,h⟩,?_⟩;rintro m σ2 _ ⟨b,S2,G2,rfl,x2,s2,r2,h2⟩;cases m with
 |zero=>exact h2.elim
 | succ m=>
  refine⟨b,S2,G2,x2.k.trans hk,rfl,s2,r2,(ZDp h2).imp ?_⟩;rintro k _ ⟨c3,G3,rfl,x3,s3,_,h3⟩;cases k with
  |false=>exact h3 c3 σ2 (Ext.refl c3) s3 (r2.mono x3)
  | true=>
   refine⟨λσ' H'=>∃(b:Wd)(S:DSt)(G:DH),b.H=H'/\Ext a b/\Sim b G/\RepS b S σ'/\Br E b (sWh tc tb m S G) W,λσ' H' z=>⟨m,qX _,z⟩,c3,S2,G3,x3.k.trans (x2.k.trans hk),rfl,s3,r2.mono x3,?_⟩;have fin:=ZGT h3
   revert fin
   cases tb S2 G3 with
   |nx S4 G4=>
    intro fin c4 σ4 x4 s4 q4;obtain⟨c5,S5,G5,hh,x5,s5,r5,h5⟩:=fin c4 σ4 x4 s4 q4;exact⟨c5,S5,G5,hh,x2.trans (x3.trans x5),s5,r5,h5⟩
   |ct S4 G4=>
    intro fin c4 σ4 x4 s4 q4;obtain⟨c5,S5,G5,hh,x5,s5,r5,h5⟩:=fin c4 σ4 x4 s4 q4;exact⟨c5,S5,G5,hh,x2.trans (x3.trans x5),s5,r5,h5⟩
   |bk S4 G4=>exact λfin=>fin
   |rt S4 G4=>exact λfin=>fin
   |err S4 G4=>exact λfin=>fin
   |bad=>exact λfin=>fin
end
theorem ZAo(r:Reps a ds vs)(n m:Nat)(h:n=m):RepS a (ds.map vB++zx n vC) (vs.map vB++zx m vC):=by
 subst h;refine⟨by simp[r.length],λi d hd=>?_⟩;by_cases hi:i<ds.length
 ·rw[zL (by simpa using hi),zq]at hd;cases e:ds[i]? with
  |none=>rw[e]at hd;cases hd
  |some d'=>
   rw[e]at hd;have hd':d'=d:=by simpa using hd
   subst hd';obtain⟨v,ev,q⟩:=r.get e;exact⟨v,by rw[zL (by rw[qJ,<-r.length];exact hi),zq,ev];rfl,q⟩
 ·rw[zI (by simpa using hi),jZ]at hd
  split at hd<;>cases hd
theorem Bx{K:PySem.W.Frag}{mg:Str->Option xY}{base:Heap}{qual:Str}{st:xK}{f:jT}{fd:xZ}{N ps:List Str}{b:DS}(F:Fun K x qual st f fd)(S:FnScope N ps (Aq st))
  (hbody:∀(cdv:xY)(A:jU)(outer:List Env)(s:xW)(H:Hp)(E:XK),Room k (A.deeper (envOfC qual (Aq st) s.heap.objs.size f cdv))->QSs (Fw CX0 P w K mg base N qual (Aq st) f cdv A outer s H E).nox E0 (Dg st) b):
  FnOk P w K mg base CX0 (k+1) f fd ps (lF K (Be ps.length (N.length-ps.length) b)):=by
 have hlen:∀vs H Q E,lF K (Be ps.length (N.length-ps.length) b) vs H Q E->vs.length=ps.length:=λvs H Q E h=>by
  obtain⟨a,G,ds,hk,rfl,sm,r,h⟩:=h;unfold Be at h;split at h
  ·rename_i hl;rw[<-r.length];exact hl
  ·exact h.elim
 refine F.ok S hlen (λcdv A outer s H vs Q E hr h=>?_);refine⟨lS K E0 b,hbody cdv A outer s H E hr,?_⟩;have hl:=hlen vs H Q E h;obtain⟨a,G,ds,hk,rfl,sm,r,h⟩:=h;unfold Be at h;split at h
 ·have h2:=Vb sm h;refine⟨a,ds.map vB++zx (N.length-ps.length) vC,G,hk,rfl,sm,ZAo r _ _ (by rw[hl]),?_⟩
  revert h2
  cases b (ds.map vB++zx (N.length-ps.length) vC) G with
  |nx S1 G1=>exact λh2 c σ x s1 _=>h2 c .non x s1 rfl
  |rt d G1=>exact λh2=>h2
  |err e G1=>exact λh2=>h2
  |bk S1 G1=>exact λh2=>h2.elim
  |ct S1 G1=>exact λh2=>h2.elim
  |bad=>exact λh2=>h2
 ·exact h.elim
theorem M8{x:V}(s:Sim a G)(r:Rep a d x)(h:Bk d G=vB xs):∃p vs,x=.ref p/\(SqL a.K a.H p vs∨SqT a.K a.H p vs)/\Reps a xs vs:=by
 cases d with
 |tup ys=>
  have e:ys=xs:=Option.some.inj h;subst e;obtain⟨p,vs,e,q,rr⟩:=r;exact⟨p,vs,e,.inr q,rr⟩
 |fl ys=>
  have e:ys=xs:=Option.some.inj h;subst e;obtain⟨p,vs,e,q,rr⟩:=r;exact⟨p,vs,e,.inl q.sq,rr⟩
 |ref i=>
  unfold Bk at h;dsimp only at h;split at h
  ·rename_i ys hi;have e:ys=xs:=Option.some.inj h;subst e;obtain⟨vs,e1,r1⟩:=s.lst hi;exact⟨a.m i,vs,r.2,.inl (.of e1),r1⟩
  ·cases h
 |_=>cases h
def Ah (d e:D) (G:DH):R D:=match e with
 | .int i=>match d with
  | .str z=>if z.length<=1000000 then(match atI z.cps.toList i with
    |some c=>.ok (.str ⟨#[c]⟩) G
    |none=>.bad)else .bad
  | d=>match Bk d G with
   |some xs=>match atI xs i with
    |some v=>.ok v G
    |none=>.bad
   |none=>.bad
 |_=>.bad
theorem ZEx{i:Int}(r:Reps a xs vs)(h:atI xs i=vB d):∃v,atI vs i=vB v/\Rep a d v:=by
 unfold atI at h⊢;rw[<-r.length];cases e:ixN xs.length i with
 |none=>rw[e]at h;cases h
 |some j=>
  rw[e]at h
  obtain⟨v,ev,q⟩:=r.get (show xs[j]?=vB d from h)
  exact⟨v,ev,q⟩
section
variable{X:Cx}{E:XK}
theorem _root_._L.IxR.mono{r r':R2}(h:IxR X r)(w:∀x y H Q,r' x y H Q->r x y H Q):IxR X r':=λvalue slice vA s σ H x y v u Q I rx ry q hs=>h value slice vA s σ H x y v u Q I rx ry (w _ _ _ _ q) hs
theorem _root_._L.CallR.mono{f:xY}{r r':List V->Hp->VK->Prop}(h:CallR X f r)(w:∀xs H Q,r' xs H Q->r xs H Q):CallR X f r':=λvA s σ H xs us Q I rs q=>h vA s σ H xs us Q I rs (w _ _ _ q)
theorem _root_._L.MtM.mono{id:String}{r r':V->List V->Hp->VK->Prop}(h:MtM X id r)(w:∀x xs H Q,r' x xs H Q->r x xs H Q):MtM X id r':=λvA s σ H x xs v us Q I rx rs q=>h vA s σ H x xs v us Q I rx rs (w _ _ _ _ q)
theorem An:IxR X (lR2 X.K E Ah):=ZKI.mono λx y H Q h=>by
 obtain⟨a,G,d,e,hk,rfl,s,rd,re,q⟩:=h;cases e with
 | int i=>
  have fin:∀{xs:List D},Bk d G=vB xs->out E a (match atI xs i with |some v=>.ok v G|none=>.bad) Q->rIx X.K x y a.H Q:=λ{xs}hs q=>by
   obtain⟨p,vs,e1,h1,r1⟩:=M8 s rd hs;rw[hk]at h1;split at q
   ·rename_i v hv;obtain⟨u,hu,ru⟩:=ZEx r1 hv;have z:=q a u (Ext.refl a) s ru;rcases h1 with h1|h1
    ·exact .inl ⟨p,vs,i,u,e1,re,h1,hu,z⟩
    ·exact .inr (.inl ⟨p,vs,i,u,e1,re,h1,hu,z⟩)
   ·exact q.elim
  have fin':out E a (match Bk d G with |some xs=>(match atI xs i with |some v=>.ok v G|none=>.bad)|none=>.bad) Q->rIx X.K x y a.H Q:=λq=>by
   cases hs:Bk d G with
   |none=>rw[hs]at q;exact q.elim
   |some xs=>rw[hs]at q;exact fin hs q
  cases d with
  | str z=>
   unfold Ah at q;dsimp only at q;split at q
   ·rename_i hl;split at q
    ·rename_i c hc;exact .inr (.inr ⟨z,i,c,rd,re,zC hl size6,hc,q a _ (Ext.refl a) s rfl⟩)
    ·exact q.elim
   ·exact q.elim
  |tup ys=>exact fin' q
  |fl ys=>exact fin' q
  |ref j=>exact fin' q
  |_=>exact fin' q
 |_=>exact q.elim
def Dc(ds:List D)(G:DH):R D:=match ds with
 |[.str z]=>if z.length<=1000000 then .ok (.int z.length) G else .bad
 |[d]=>match Bk d G with
  |some xs=>.ok (.int xs.length) G
  |none=>.bad
 |_=>.bad
theorem reps1(r:Reps a [d] vs):∃v,vs=[v]/\Rep a d v:=by
 obtain⟨v,r',e,q,z⟩:=r
 cases(show r'=[]from z)
 exact⟨v,e,q⟩
theorem reps2{d':D}(r:Reps a [d,d'] vs):∃v v',vs=[v,v']/\Rep a d v/\Rep a d' v':=by obtain⟨v,r',e,q,z⟩:=r;obtain⟨v',e',q'⟩:=reps1 z;subst e';exact⟨v,v',e,q,q'⟩
theorem Gy:CallR X (.builtin "len") (lRn X.K E Dc):=(ZMk.or ZMS).mono λvs H Q h=>by
 obtain⟨a,G,ds,hk,rfl,s,r,q⟩:=h;unfold Dc at q;split at q
 ·rename_i z;split at q
  ·rename_i hl;obtain⟨v,rfl,rv⟩:=reps1 r
   cases(show v=V.str z from rv)
   exact .inr ⟨z,rfl,zC hl size6,q a _ (Ext.refl a) s rfl⟩
  ·exact q.elim
 ·rename_i d _;split at q
  ·rename_i xs hs;obtain⟨v,rfl,rv⟩:=reps1 r;obtain⟨p,us,rfl,h1,r1⟩:=M8 s rv hs;rw[hk]at h1;exact .inl ⟨p,us,rfl,h1,q a _ (Ext.refl a) s (by rw[<-r1.length];exact rfl)⟩
  ·exact q.elim
 ·exact q.elim
def Gs(ds:List D)(G:DH):R D:=match ds with
 |[d]=>match Bk d G with
  |some xs=>.ok (.tup xs) G
  |none=>.bad
 |_=>.bad
theorem Lh:CallR X (.type "tuple") (lRn X.K E Gs):=ZMc.mono λvs H Q h=>by
 obtain⟨a,G,ds,hk,rfl,s,r,q⟩:=h;unfold Gs at q;split at q
 ·rename_i d;split at q
  ·rename_i xs hs;obtain⟨v,rfl,rv⟩:=reps1 r;obtain⟨p,us,rfl,h1,r1⟩:=M8 s rv hs;refine⟨p,us,rfl,?_⟩;rcases h1 with h1|h1
   ·exact .inl ⟨by rw[<-hk];exact h1,λl hl=>Yc s r1 q l hl⟩
   ·exact .inr ⟨by rw[<-hk];exact h1,q a _ (Ext.refl a) s ⟨p,us,rfl,h1,r1⟩⟩
  ·exact q.elim
 ·exact q.elim
def Ke(ds:List D)(G:DH):R D:=match ds with
 |[.str z]=>if z.length<=1000000 then .ok (.ref G.length) (G++[.lst (signs z)])else .bad
 |[d]=>match Bk d G with
  |some xs=>.ok (.ref G.length) (G++[.lst xs])
  |none=>.bad
 |_=>.bad
theorem Xy:∀{vs:List V}{us:List xY},vs.length=us.length->(∀(i:Nat)(v:V)(u:xY),vs[i]?=vB v->us[i]?=vB u->RelV v u)->Vals vs us
 |[],[],_,_=>.nil
 |[],_::_,h,_=>by cases h
 |_::_,[],h,_=>by cases h
 |v::vs,u::us,h,f=>.cons (f 0 v u rfl rfl) (Xy (by simpa using h) λi v' u' h1 h2=>f (i+1) v' u' (by simpa using h1) (by simpa using h2))
theorem ZJH(hc:X.calm=vD):CallR X (.type "list") (λxs H Q=>∃z:Str,xs=[.str z]/\z.length<=sizeLine/\∀l,H l=vC->Q (.ref l) (upd H l (.lst (z.cps.toList.map λc=>V.str ⟨#[c]⟩)))):=by
 intro vA s σ H xs us Q I r h;obtain⟨z,rfl,hz,q⟩:=h;obtain⟨u,rfl,t,rfl⟩:=vals1 r;refine PySem.call_list_str (I.ok.hd hc) z t (λh' tk acc c hk hS hacc=>?_) hz;have hn:H s.heap.objs.size=vC:=I.hok.fresh (zW _);refine⟨.ref s.heap.objs.size,upd H s.heap.objs.size (.lst (z.cps.toList.map λc=>V.str ⟨#[c]⟩)),I.laid (t':=tk) (h':=h') hk (zW _) ?_,rfl,q _ hn⟩;refine⟨by rw[qJ,qD];exact hz,acc.toList,c,Xy ?_ λi v u h1 h2=>?_,by simpa using hS⟩
 ·rw[qJ,qD,qD];exact hacc.1.symm
 ·rw[zq,zN]at h1;obtain⟨k,e1,rfl⟩:=h1;obtain⟨k',t',e2,rfl⟩:=hacc.2 i u (by rw[<-qR];exact h2);rw[qR,e2]at e1;cases e1;exact⟨t',rfl⟩
theorem ZAa(hc:X.calm=vD):CallR X (.type "list") (lRn X.K E Ke):=(ZGs.or (ZJH hc)).mono λvs H Q h=>by
 obtain⟨a,G,ds,hk,rfl,s,r,q⟩:=h;unfold Ke at q;split at q
 ·rename_i z;split at q
  ·rename_i hl;obtain⟨v,rfl,rv⟩:=reps1 r
   cases(show v=V.str z from rv)
   exact .inr ⟨z,rfl,zC hl size6,λl hl=>K5 s (Reps.signs z) q l hl⟩
  ·exact q.elim
 ·rename_i d _;split at q
  ·rename_i xs hs;obtain⟨v,rfl,rv⟩:=reps1 r;obtain⟨p,us,rfl,h1,r1⟩:=M8 s rv hs;exact .inl ⟨p,us,rfl,by rw[<-hk];exact h1,λl hl=>K5 s r1 q l hl⟩
  ·exact q.elim
 ·exact q.elim
noncomputable def Wa(ds:List D)(G:DH):R D:=match ds with
 |[.int i,.int j]=>.ok (.int (if j>i then j else i)) G
 |_=>.bad
noncomputable def O3(ds:List D)(G:DH):R D:=match ds with
 |[.int i,.int j]=>.ok (.int (if j<i then j else i)) G
 |_=>.bad
theorem ZM3(hc:X.calm=vD):CallR X (.builtin "max") (lRn X.K E Wa):=(ZLh hc).mono λvs H Q h=>by
 obtain⟨a,G,ds,hk,rfl,s,r,q⟩:=h;unfold Wa at q;split at q
 ·obtain⟨v,v',rfl,h1,h2⟩:=reps2 r
  cases(show v=V.int _ from h1)
  cases(show v'=V.int _ from h2)
  exact⟨_,_,rfl,q a _ (Ext.refl a) s rfl⟩
 ·exact q.elim
theorem Yx(hc:X.calm=vD):CallR X (.builtin "min") (lRn X.K E O3):=(ZOz hc).mono λvs H Q h=>by
 obtain⟨a,G,ds,hk,rfl,s,r,q⟩:=h;unfold O3 at q;split at q
 ·obtain⟨v,v',rfl,h1,h2⟩:=reps2 r
  cases(show v=V.int _ from h1)
  cases(show v'=V.int _ from h2)
  exact⟨_,_,rfl,q a _ (Ext.refl a) s rfl⟩
 ·exact q.elim
noncomputable def Ih(o:D)(ds:List D)(G:DH):R D:=match o,ds with
 |.ref i,[d]=>match G[i]? with
  |some (.lst xs)=>if xs.length<1000000 then .ok .non (G.set i (.lst (xs++[d])))else .bad
  |_=>.bad
 |_,_=>.bad
def lRm(K:PySem.W.Frag)(E:XK)(f:D->List D->DH->R D):V->List V->Hp->VK->Prop:=λx xs H Q=>∃(a:Wd)(G:DH)(d:D)(ds:List D),a.K=K/\a.H=H/\Sim a G/\Rep a d x/\Reps a ds xs/\out E a (f d ds G) Q
theorem Sim.isList(s:Sim a G)(h:G[i]?=vB (.lst xs)):∃vs,SqL a.K a.H (a.m i) vs:=let⟨vs,e,_⟩:=s.lst h;⟨vs,.of e⟩
theorem Kq:MtM X "list.append" (lRm X.K E Ih):=ZMT.mono λx xs H Q h=>by
 obtain⟨a,G,d,ds,hk,rfl,s,rd,r,q⟩:=h;unfold Ih at q;split at q
 ·rename_i i d;obtain⟨v,rfl,rv⟩:=reps1 r;split at q
  ·rename_i ys hy;split at q
   ·rename_i hl;obtain⟨vs,e1,r1⟩:=s.lst hy;obtain⟨x3,s3⟩:=Vg s rd.1 e1 (r1.append (Reps.cons rv Reps.nil));refine⟨a.m i,vs,v,rd.2,rfl,e1,by rw[<-r1.length];exact zV hl size6,?_⟩;exact q _ .non x3 s3 rfl
   ·exact q.elim
  ·exact q.elim
 ·exact q.elim
variable{o e:xQ}{es:List xQ}{to:DE}{t:DA}{name:Str}{apos cpos:Pos}{T id:String}{f:D->List D->DH->R D}
noncomputable def isL(d:D)(G:DH):Bool:=match d with
 |.ref i=>match G[i]? with
  |some (.lst _)=>vD
  |_=>vE
 |.fl _=>vD
 |_=>vE
def Hj(f:D->List D->DH->R D)(o:DE)(t:DA):DE:=λS G=>(o S G).bind λx G1=>if isL x G1=vD then(t S G1).bind λxs G2=>f x xs G2 else .bad
theorem ZNh{x:V}(s:Sim a G)(r:Rep a d x)(h:isL d G=vD):tyV a.K "list" x a.H:=by
 cases d with
 |ref i=>
  unfold isL at h;dsimp only at h;split at h
  ·rename_i xs hx;cases r.2;exact .inl ⟨rfl,s.isList hx⟩
  ·cases h
 |fl xs=>
  obtain⟨p,vs,rfl,q,_⟩:=r;exact .inl ⟨rfl,vs,q.sq⟩
 |_=>cases h
theorem J6(slot:Slot "list" name id)(hty:typeOf (.builtin id)=pure (.type "method_descriptor"))(hm:MtM X id (lRm X.K E f))(ho:QE X E o to)(ha:QA X E (e::es) t)
  (hbase:xj o name X.env (eval o X.env)=eval o X.env:=by rfl)
  (hfew:((xk cpos (vZ (e::es) X.env)).all (λx=> !x.1)&&(xy cpos (xO [] X.env)).all (λx=>x.1.isSome)
   && decide ((e::es).length+([]:List Keyword).length+(if([]:List Keyword).isEmpty then 0 else 1)<30))=vD:=by rfl)
  (hline:(apos.endLine==cpos.line)=vD:=by rfl) (hs:vZ (e::es) X.env=(vE,eval e X.env)::vZ es X.env:=by rfl) (hplain:(xk cpos (vZ es X.env)).any (·.1)=vE:=by rfl):
  QE X E (.Call (.Attribute o name apos) (e::es) [] cpos) (Hj f to t):=(ZJ7 PySem.F.plainAttrs_list slot hty hm ho ha hbase hfew hline hs hplain).mono λσ H Q h=>by
 obtain⟨a,S,G,hk,rfl,s,r,h⟩:=h;refine⟨a,S,G,hk,rfl,s,r,(Ei h).imp ?_⟩;rintro v _ ⟨b,d,G1,rfl,x,s1,q,-,h1⟩;split at h1
 ·rename_i hl;have ty:=ZNh s1 q hl;rw[x.k,hk]at ty;refine⟨ty,b,S,G1,x.k.trans hk,rfl,s1,r.mono x,(La h1).imp ?_⟩;rintro vs _ ⟨c,ds,G2,rfl,y,s2,q2,-,h2⟩;exact⟨c,G2,d,ds,y.k.trans (x.k.trans hk),rfl,s2,q.mono y,q2,h2⟩
 ·exact h1.elim
end
inductive Ty where|non|bl|int|str|tup|lst
def tyD(G:DH):D->Option Ty
 |.non=>vB .non
 |.bl _=>vB .bl
 |.int _=>vB .int
 |.str _=>vB .str
 |.tup _=>vB .tup
 |.fl _=>vB .lst
 |.ref i=>match G[i]? with
  |some (.lst _)=>vB .lst
  |_=>vC
 |.ty _=>vC
noncomputable def Ty.sub(t:Ty):String->Option Bool
 |"int"=>vB (match t with | .int=>vD | .bl=>vD|_=>vE)
 |"bool"=>vB (match t with | .bl=>vD|_=>vE)
 |"str"=>vB (match t with | .str=>vD|_=>vE)
 |"tuple"=>vB (match t with | .tup=>vD|_=>vE)
 |"list"=>vB (match t with | .lst=>vD|_=>vE)
 |_=>vC
def Hn(ds:List D)(G:DH):R D:=match ds with
 | [d,.ty T]=>match tyD G d with
  |some t=>match t.sub T with
   |some k=>.ok (.bl k) G
   |none=>.bad
  |none=>.bad
 |_=>.bad
section
variable{prog:xX}{w:xq}{A:jU}{E:xY->xW->Prop}{s:xW}
theorem Li{x:xY}{Tx T:String}{Q:xY->xW->Prop}(hx:s.TypeIs x Tx)(hty:typeOf (.type T)=pure (.type "type"))(hsub:xG (.type Tx) (.type T)=pure vD)(h:Q (.bool vD) s):
  vX (xS prog w) A (call (.builtin "isinstance") [x,.type T]) Q E s:=xB (isinstance_true hty hsub) ⟨hx,h⟩
end
theorem ty_int:typeOf (.type "int")=pure (.type "type"):=by with_unfolding_all rfl
theorem ty_bool:typeOf (.type "bool")=pure (.type "type"):=by with_unfolding_all rfl
theorem ty_str:typeOf (.type "str")=pure (.type "type"):=by with_unfolding_all rfl
theorem ty_tuple:typeOf (.type "tuple")=pure (.type "type"):=by with_unfolding_all rfl
theorem ty_list:typeOf (.type "list")=pure (.type "type"):=by with_unfolding_all rfl
theorem ZNz:xG (.type "NoneType") (.type "int")=pure vE:=by with_unfolding_all rfl
theorem ZOK:xG (.type "NoneType") (.type "bool")=pure vE:=by with_unfolding_all rfl
theorem ZOm:xG (.type "NoneType") (.type "str")=pure vE:=by with_unfolding_all rfl
theorem ZLV:xG (.type "NoneType") (.type "tuple")=pure vE:=by with_unfolding_all rfl
theorem ZLf:xG (.type "NoneType") (.type "list")=pure vE:=by with_unfolding_all rfl
theorem ZOf:xG (.type "bool") (.type "int")=pure vD:=by with_unfolding_all rfl
theorem ZMy:xG (.type "bool") (.type "bool")=pure vD:=by with_unfolding_all rfl
theorem ZKw:xG (.type "bool") (.type "str")=pure vE:=by with_unfolding_all rfl
theorem ZMR:xG (.type "bool") (.type "tuple")=pure vE:=by with_unfolding_all rfl
theorem ZJ5:xG (.type "bool") (.type "list")=pure vE:=by with_unfolding_all rfl
theorem ZIu:xG (.type "int") (.type "int")=pure vD:=by with_unfolding_all rfl
theorem ZLx:xG (.type "int") (.type "bool")=pure vE:=by with_unfolding_all rfl
theorem ZGt:xG (.type "int") (.type "str")=pure vE:=by with_unfolding_all rfl
theorem ZH2:xG (.type "int") (.type "tuple")=pure vE:=by with_unfolding_all rfl
theorem ZKt:xG (.type "int") (.type "list")=pure vE:=by with_unfolding_all rfl
theorem ZKx:xG (.type "str") (.type "int")=pure vE:=by with_unfolding_all rfl
theorem ZMr:xG (.type "str") (.type "bool")=pure vE:=by with_unfolding_all rfl
theorem ZO0:xG (.type "str") (.type "str")=pure vD:=by with_unfolding_all rfl
theorem ZJ6:xG (.type "str") (.type "tuple")=pure vE:=by with_unfolding_all rfl
theorem ZJv:xG (.type "str") (.type "list")=pure vE:=by with_unfolding_all rfl
theorem ZHG:xG (.type "tuple") (.type "int")=pure vE:=by with_unfolding_all rfl
theorem ZG6:xG (.type "tuple") (.type "bool")=pure vE:=by with_unfolding_all rfl
theorem ZMK:xG (.type "tuple") (.type "str")=pure vE:=by with_unfolding_all rfl
theorem ZHf:xG (.type "tuple") (.type "tuple")=pure vD:=by with_unfolding_all rfl
theorem ZKP:xG (.type "tuple") (.type "list")=pure vE:=by with_unfolding_all rfl
theorem ZBw:xG (.type "list") (.type "int")=pure vE:=by with_unfolding_all rfl
theorem ZEZ:xG (.type "list") (.type "bool")=pure vE:=by with_unfolding_all rfl
theorem ZDZ:xG (.type "list") (.type "str")=pure vE:=by with_unfolding_all rfl
theorem ZDQ:xG (.type "list") (.type "tuple")=pure vE:=by with_unfolding_all rfl
theorem ZDt:xG (.type "list") (.type "list")=pure vD:=by with_unfolding_all rfl
section
variable{X:Cx}{E:XK}
theorem Yt:CallR X (.builtin "isinstance") (lRn X.K E Hn):=by
 intro vA s σ H vs us Q I rs h;obtain⟨a,G,ds,hk,rfl,sm,r,q⟩:=h;unfold Hn at q;split at q
 ·rename_i d T;obtain⟨v,v',rfl,h1,h2⟩:=reps2 r
  cases(show v'=V.ty T from h2)
  obtain⟨u,u',rfl,ru,ru'⟩:∃u u',us=[u,u']/\RelV v u/\RelV (.ty T) u':=by
   cases rs with
   |cons p q=>cases q with
    |cons p' q'=>cases q';exact⟨_,_,rfl,p,p'⟩
  cases(show u'=Value.type T from ru')
  split at q
  ·rename_i t ht;split at q
   ·rename_i k hk';have fin:∀{n:Nat},EP X vA σ Q (.bool k) {s with toks:=n}:=λ{n}=>⟨.bl k,a.H,I.tok _,rfl,q a _ (Ext.refl a) sm rfl⟩
    have fin0:EP X vA σ Q (.bool k) s:=⟨.bl k,a.H,I,rfl,q a _ (Ext.refl a) sm rfl⟩;unfold Ty.sub at hk';split at hk'
    ·cases d with
     |non=>
      cases ht;cases hk'
      cases(show v=_ from h1)
      cases ru;exact xB (xL (by decide) ty_int ZNz) fin
     |bl b=>
      cases ht;cases hk'
      cases(show v=_ from h1)
      cases ru;exact Li (Tx:="bool") rfl ty_int ZOf fin0
     |int b=>
      cases ht;cases hk'
      cases(show v=_ from h1)
      obtain⟨tk,rfl⟩:=ru;exact Li (Tx:="int") (typeIs_int s _ _) ty_int ZIu fin0
     |str b=>
      cases ht;cases hk'
      cases(show v=_ from h1)
      obtain⟨tk,rfl⟩:=ru;exact xB (xM (by decide) ty_int ZKx) fin
     |tup b=>
      cases ht;cases hk';obtain⟨p,ws,rfl,hq,_⟩:=h1;cases ru;rw[hk]at hq;obtain⟨its,_,pl,_⟩:=I.tuple hq;exact xB (xN (by decide) ty_int ZHG) ⟨(let⟨o,e,c,_⟩:=pl;⟨o,e,c⟩),fin⟩
     |fl b=>
      cases ht;cases hk';obtain⟨p,ws,rfl,hq,_⟩:=h1;cases ru;have hq:=hq.sq;rw[hk]at hq;obtain⟨its,_,pl,_⟩:=I.list hq;exact xB (xI (by decide) ty_int ZBw) ⟨(let⟨o,e,c,_⟩:=pl.isList;⟨o,e,c⟩),fin⟩
     |ref b=>
      unfold tyD at ht;dsimp only at ht;split at ht
      ·rename_i xs hx;cases ht;cases hk';obtain⟨ws,e1,_⟩:=sm.lst hx;cases h1.2;cases ru;obtain⟨its,_,pl,_⟩:=I.list (.of e1);exact xB (xI (by decide) ty_int ZBw) ⟨(let⟨o,e,c,_⟩:=pl.isList;⟨o,e,c⟩),fin⟩
      ·cases ht
     |ty n=>cases ht
    ·cases d with
     |non=>
      cases ht;cases hk'
      cases(show v=_ from h1)
      cases ru;exact xB (xL (by decide) ty_bool ZOK) fin
     |bl b=>
      cases ht;cases hk'
      cases(show v=_ from h1)
      cases ru;exact Li (Tx:="bool") rfl ty_bool ZMy fin0
     |int b=>
      cases ht;cases hk'
      cases(show v=_ from h1)
      obtain⟨tk,rfl⟩:=ru;exact xB (xH (by decide) ty_bool ZLx) fin
     |str b=>
      cases ht;cases hk'
      cases(show v=_ from h1)
      obtain⟨tk,rfl⟩:=ru;exact xB (xM (by decide) ty_bool ZMr) fin
     |tup b=>
      cases ht;cases hk';obtain⟨p,ws,rfl,hq,_⟩:=h1;cases ru;rw[hk]at hq;obtain⟨its,_,pl,_⟩:=I.tuple hq;exact xB (xN (by decide) ty_bool ZG6) ⟨(let⟨o,e,c,_⟩:=pl;⟨o,e,c⟩),fin⟩
     |fl b=>
      cases ht;cases hk';obtain⟨p,ws,rfl,hq,_⟩:=h1;cases ru;have hq:=hq.sq;rw[hk]at hq;obtain⟨its,_,pl,_⟩:=I.list hq;exact xB (xI (by decide) ty_bool ZEZ) ⟨(let⟨o,e,c,_⟩:=pl.isList;⟨o,e,c⟩),fin⟩
     |ref b=>
      unfold tyD at ht;dsimp only at ht;split at ht
      ·rename_i xs hx;cases ht;cases hk';obtain⟨ws,e1,_⟩:=sm.lst hx;cases h1.2;cases ru;obtain⟨its,_,pl,_⟩:=I.list (.of e1);exact xB (xI (by decide) ty_bool ZEZ) ⟨(let⟨o,e,c,_⟩:=pl.isList;⟨o,e,c⟩),fin⟩
      ·cases ht
     |ty n=>cases ht
    ·cases d with
     |non=>
      cases ht;cases hk'
      cases(show v=_ from h1)
      cases ru;exact xB (xL (by decide) ty_str ZOm) fin
     |bl b=>
      cases ht;cases hk'
      cases(show v=_ from h1)
      cases ru;exact xB (isinstance_false_bool (by decide) ty_str ZKw) fin
     |int b=>
      cases ht;cases hk'
      cases(show v=_ from h1)
      obtain⟨tk,rfl⟩:=ru;exact xB (xH (by decide) ty_str ZGt) fin
     |str b=>
      cases ht;cases hk'
      cases(show v=_ from h1)
      obtain⟨tk,rfl⟩:=ru;exact Li (Tx:="str") (typeIs_str s _ _) ty_str ZO0 fin0
     |tup b=>
      cases ht;cases hk';obtain⟨p,ws,rfl,hq,_⟩:=h1;cases ru;rw[hk]at hq;obtain⟨its,_,pl,_⟩:=I.tuple hq;exact xB (xN (by decide) ty_str ZMK) ⟨(let⟨o,e,c,_⟩:=pl;⟨o,e,c⟩),fin⟩
     |fl b=>
      cases ht;cases hk';obtain⟨p,ws,rfl,hq,_⟩:=h1;cases ru;have hq:=hq.sq;rw[hk]at hq;obtain⟨its,_,pl,_⟩:=I.list hq;exact xB (xI (by decide) ty_str ZDZ) ⟨(let⟨o,e,c,_⟩:=pl.isList;⟨o,e,c⟩),fin⟩
     |ref b=>
      unfold tyD at ht;dsimp only at ht;split at ht
      ·rename_i xs hx;cases ht;cases hk';obtain⟨ws,e1,_⟩:=sm.lst hx;cases h1.2;cases ru;obtain⟨its,_,pl,_⟩:=I.list (.of e1);exact xB (xI (by decide) ty_str ZDZ) ⟨(let⟨o,e,c,_⟩:=pl.isList;⟨o,e,c⟩),fin⟩
      ·cases ht
     |ty n=>cases ht
    ·cases d with
     |non=>
      cases ht;cases hk'
      cases(show v=_ from h1)
      cases ru;exact xB (xL (by decide) ty_tuple ZLV) fin
     |bl b=>
      cases ht;cases hk'
      cases(show v=_ from h1)
      cases ru;exact xB (isinstance_false_bool (by decide) ty_tuple ZMR) fin
     |int b=>
      cases ht;cases hk'
      cases(show v=_ from h1)
      obtain⟨tk,rfl⟩:=ru;exact xB (xH (by decide) ty_tuple ZH2) fin
     |str b=>
      cases ht;cases hk'
      cases(show v=_ from h1)
      obtain⟨tk,rfl⟩:=ru;exact xB (xM (by decide) ty_tuple ZJ6) fin
     |tup b=>
      cases ht;cases hk';obtain⟨p,ws,rfl,hq,_⟩:=h1;cases ru;rw[hk]at hq;obtain⟨its,_,pl,_⟩:=I.tuple hq;exact Li (Tx:="tuple") pl.typeIs ty_tuple ZHf fin0
     |fl b=>
      cases ht;cases hk';obtain⟨p,ws,rfl,hq,_⟩:=h1;cases ru;have hq:=hq.sq;rw[hk]at hq;obtain⟨its,_,pl,_⟩:=I.list hq;exact xB (xI (by decide) ty_tuple ZDQ) ⟨(let⟨o,e,c,_⟩:=pl.isList;⟨o,e,c⟩),fin⟩
     |ref b=>
      unfold tyD at ht;dsimp only at ht;split at ht
      ·rename_i xs hx;cases ht;cases hk';obtain⟨ws,e1,_⟩:=sm.lst hx;cases h1.2;cases ru;obtain⟨its,_,pl,_⟩:=I.list (.of e1);exact xB (xI (by decide) ty_tuple ZDQ) ⟨(let⟨o,e,c,_⟩:=pl.isList;⟨o,e,c⟩),fin⟩
      ·cases ht
     |ty n=>cases ht
    ·cases d with
     |non=>
      cases ht;cases hk'
      cases(show v=_ from h1)
      cases ru;exact xB (xL (by decide) ty_list ZLf) fin
     |bl b=>
      cases ht;cases hk'
      cases(show v=_ from h1)
      cases ru;exact xB (isinstance_false_bool (by decide) ty_list ZJ5) fin
     |int b=>
      cases ht;cases hk'
      cases(show v=_ from h1)
      obtain⟨tk,rfl⟩:=ru;exact xB (xH (by decide) ty_list ZKt) fin
     |str b=>
      cases ht;cases hk'
      cases(show v=_ from h1)
      obtain⟨tk,rfl⟩:=ru;exact xB (xM (by decide) ty_list ZJv) fin
     |tup b=>
      cases ht;cases hk';obtain⟨p,ws,rfl,hq,_⟩:=h1;cases ru;rw[hk]at hq;obtain⟨its,_,pl,_⟩:=I.tuple hq;exact xB (xN (by decide) ty_list ZKP) ⟨(let⟨o,e,c,_⟩:=pl;⟨o,e,c⟩),fin⟩
     |fl b=>
      cases ht;cases hk';obtain⟨p,ws,rfl,hq,_⟩:=h1;cases ru;have hq:=hq.sq;rw[hk]at hq;obtain⟨its,_,pl,_⟩:=I.list hq;exact Li (Tx:="list") pl.isList.typeIs ty_list ZDt fin0
     |ref b=>
      unfold tyD at ht;dsimp only at ht;split at ht
      ·rename_i xs hx;cases ht;cases hk';obtain⟨ws,e1,_⟩:=sm.lst hx;cases h1.2;cases ru;obtain⟨its,_,pl,_⟩:=I.list (.of e1);exact Li (Tx:="list") pl.isList.typeIs ty_list ZDt fin0
      ·cases ht
     |ty n=>cases ht
    ·cases hk'
   ·exact q.elim
  ·exact q.elim
 ·exact q.elim
end
noncomputable def Fy:List D->Option (List Int)
 |[]=>vB []
 |.int i::r=>(Fy r).map (i::·)
 |_=>vC
@[simp]theorem ZEb(ns:List Int):Fy (ns.map D.int)=vB ns:=by
 induction ns with
 |nil=>rfl
 |cons n ns ih=>simp[Fy,ih]
theorem ZAz:∀{xs:List D}{ns:List Int},Fy xs=vB ns->xs=ns.map D.int
 |[],ns,h=>by cases h;rfl
 |.int i::r,ns,h=>by simp only[Fy,zN]at h;obtain⟨ms,h1,rfl⟩:=h;rw[zG,ZAz h1]
 |.non::r,ns,h=>by simp[Fy]at h
 |.bl _::r,ns,h=>by simp[Fy]at h
 |.str _::r,ns,h=>by simp[Fy]at h
 |.ty _::r,ns,h=>by simp[Fy]at h
 |.tup _::r,ns,h=>by simp[Fy]at h
 |.fl _::r,ns,h=>by simp[Fy]at h
 |.ref _::r,ns,h=>by simp[Fy]at h
section
variable{X:Cx}{E:XK}{vA:List (jT×Obj)}{σ:St}{s:xW}{H:Hp}
theorem ZHn(I:Inv X vA σ H s)(hc:X.calm=vD)(h:SqL X.K H p vs∨SqT X.K H p vs){E':xY->xW->Prop}{Q:xY->xW->Prop}
  (hQ:∀(it:jT)(fp wr:List jT)(its:List xY)(St:Nat->Heap->Prop)(s₂:xW),Vals vs its->Walks X.prog X.w X.A.in1 it fp wr its.toArray.size (λi v=>its.toArray[i]?=vB v) St->St 0 s₂.heap->(∀b∈fp,b<s₂.heap.objs.size)->
   (∀h' tk,(∀b o,b∉wr->s₂.heap.get? b=vB o->h'.get? b=vB o)->Inv X vA σ H {s₂ with heap:=h',toks:=tk})->Q (.ref it) s₂):
  vX (xS X.prog X.w) X.A.in1 (pyIter (.ref p)) Q E' s:=by
 have hh:X.A.in1.handled=vC:=I.ok.hd hc;rcases h with h|h
 ·obtain⟨its,r,pl,hz⟩:=I.list h;refine wpAny_pyIter_list pl.isList ?_;have hp:p<s.heap.objs.size:=by obtain⟨o,e,_⟩:=pl.isList;exact zY e
  refine hQ _ _ _ its _ _ r (Walks.list hh _ p (zE hp) its.toArray) ⟨⟨_,zy _ rfl,rfl,rfl⟩,?_⟩ (λb hb=>?_) λh' tk kk=>?_
  ·obtain⟨o,e,c⟩:=pl.isList;exact⟨o,zQ _ e,c⟩
  ·show b<(s.heap.push _).objs.size;rw[qw];rcases zw.mp hb with rfl|hb
   ·exact qX _
   ·have e:b=p:=by simpa using hb
    subst e;exact qM hp
  ·refine I.kept λb o e=>kk b o (λhb=>?_) (zQ _ e)
   have e2:b=s.heap.objs.size:=by simpa using hb
   subst e2;exact absurd (zY e) (zS _)
 ·obtain⟨its,r,pl,hz⟩:=I.tuple h
  refine wpAny_pyIter_tuple (show s.heap.IsTuple p its.toArray from pl) ?_
  have hp:p<s.heap.objs.size:=by obtain⟨o,e,_⟩:=pl;exact zY e
  refine hQ _ _ _ its _ _ r (Walks.tuple hh _ p (zE hp) its.toArray) ⟨⟨_,zy _ rfl,rfl,rfl⟩,?_⟩ (λb hb=>?_) λh' tk kk=>?_
  ·obtain⟨o,e,c⟩:=pl;exact⟨o,zQ _ e,c⟩
  ·show b<(s.heap.push _).objs.size;rw[qw];rcases zw.mp hb with rfl|hb
   ·exact qX _
   ·have e:b=p:=by simpa using hb
    subst e;exact qM hp
  ·refine I.kept λb o e=>kk b o (λhb=>?_) (zQ _ e)
   have e2:b=s.heap.objs.size:=by simpa using hb
   subst e2;exact absurd (zY e) (zS _)
theorem ZDL:∀{ns:List Int}{vs:List V},Reps a (ns.map D.int) vs->vs=ns.map V.int
 |[],vs,h=>h
 |n::ns,vs,h=>by
  obtain⟨v,r,e,h1,h2⟩:=h
  cases(show v=V.int n from h1)
  rw[e,ZDL h2]
  rfl
end
section
variable{X:Cx}{vA:List (jT×Obj)}{σ:St}{H:Hp}{s:xW}
theorem X3{a:jT}{o:HO}(I:Inv X vA σ H s)(hn:H a=vC)(hy:X.s₀.heap.objs.size<=a)(hL:a≠X.env.locals)(hc:∀x c,X.env.cells.lookup x=vB c->c≠a)(hp:∀p∈X.pn++vA,p.1≠a)
  (new:ObjOk X.prog X.w (upd H a o) s.heap a o):Inv X vA σ (upd H a o) s:=by
 have ne:∀b u,H b=vB u->b≠a:=λb u e z=>by rw[z,hn]at e;cases e
 refine⟨I.ok,I.os,I.bare,⟨I.base.keep,I.base.slot,λb ob q n hx=>?_,I.base.there,λb xs q=>?_,λb ob u q=>?_,λb ps q=>?_⟩,I.loc,I.cell,?_,λx c e=>?_,λp hp'=>?_,λb u e=>?_,I.len⟩
 ·rw[Ay (zE (zV (zY q) hy))];exact I.base.free b ob q n hx
 ·have:=I.base.tups b xs q;rw[Ay (ne _ _ this)];exact this
 ·have:=I.base.frzs b ob u q;rw[Ay (ne _ _ this)];exact this
 ·obtain⟨more,this⟩:=I.base.tbls b ps q;exact⟨more,by rw[Ay (ne _ _ this)];exact this⟩
 ·rw[Ay (Ne.symm hL)];exact I.free
 ·rw[Ay (hc x c e)];exact I.Gd x c e
 ·obtain⟨e1,e2,e3⟩:=I.pin p hp';exact⟨e1,by rw[Ay (hp p hp')];exact e2,e3⟩
 ·by_cases hb:b=a
  ·subst hb;rw[Eo]at e;cases e;exact new
  ·rw[Ay hb]at e;exact(I.hok b u e).stay (λ_ _ _ q=>q) (λc q=>by rw[Ay (ne _ _ q)];exact q) λc xs q=>by rw[Ay (ne _ _ q)];exact q
end
noncomputable def Eg(env:Env):List (Str×xJ)->List (Str×jT)->List (Str×jT)
 |[],cs=>cs
 |(n,k)::r,cs=>if(k==NameKind.free)=vD then Eg env r ((n,(env.cells.lookup n).getD 0)::cs)else Eg env r cs
theorem ZEG(h:∀y∈scope.names,y.2=.free->∃c,env.cells.lookup y.1=vB c):closureFor scope env=pure (Eg env scope.names []):=by
 unfold closureFor;obtain⟨kind,names,g1,g2⟩:=scope;have key:∀(names:List (Str×xJ))(cs:List (Str×jT)),(∀y∈names,y.2=.free->∃c,env.cells.lookup y.1=vB c)->
   (forIn names cs (λx r=>match x with
    |(name,kind)=>if(kind==NameKind.free)=vD then(do let c<-cellOf env name;pure (ForInStep.yield ((name,c)::r)))else pure (ForInStep.yield r)):Sem (List (Str×jT)))=pure (Eg env names cs):=by
  intro names
  induction names with
  |nil=>intro cs _;rfl
  | cons y r ih=>
   intro cs hy;obtain⟨n,k⟩:=y;rw[jP];by_cases hk:(k==NameKind.free)=vD
   ·obtain⟨c,hc⟩:=hy (n,k) zX (by simpa using hk)
    have e1:cellOf env n=pure c:=by unfold cellOf;rw[show env.cells.lookup n=vB c from hc]
    have e2:Eg env ((n,k)::r) cs=Eg env r ((n,c)::cs):=by rw[Eg,if_pos hk,show env.cells.lookup n=vB c from hc];rfl
    rw[e2,<-ih ((n,c)::cs) λy' hy'=>hy y' (zJ _ hy')];simp only[hk,if_true,e1]
    rfl
   ·have e2:Eg env ((n,k)::r) cs=Eg env r cs:=by rw[Eg,if_neg hk]
    rw[e2,<-ih cs λy' hy'=>hy y' (zJ _ hy')];simp only[hk]
    rfl
 have:=key names [] h;exact congrArg (λm:Sem (List (Str×jT))=>m >>=λr=>pure r) this
theorem X6:∀{names:List (Str×xJ)}{cs:List (Str×jT)},(∀y∈names,y.2=.free->∃c,env.cells.lookup y.1=vB c)->(∀p∈cs,env.cells.lookup p.1=vB p.2)->∀p∈Eg env names cs,env.cells.lookup p.1=vB p.2
 |[],cs,_,hc,p,hp=>hc p hp
 | (n,k)::r,cs,hn,hc,p,hp=>by
  rw[Eg]at hp;split at hp
  ·rename_i hk;obtain⟨c,e⟩:=hn (n,k) zX (by simpa using hk);refine X6 (λy hy=>hn y (zJ _ hy)) (λq hq=>?_) p hp;rcases zw.mp hq with rfl|hq
   ·rw[show env.cells.lookup n=vB c from e];rfl
   ·exact hc q hq
  ·exact X6 (λy hy=>hn y (zJ _ hy)) hc p hp
theorem Wf:∀{names:List (Str×xJ)}{cs:List (Str×jT)},((x,.free)∈names∨∃c,(x,c)∈cs)->∃c,(x,c)∈Eg env names cs
 |[],cs,h=>by
  rcases h with h|h
  ·cases h
  ·exact h
 | (n,k)::r,cs,h=>by
  rw[Eg];split
  ·refine Wf ?_;rcases h with h|⟨c,h⟩
   ·rcases zw.mp h with e|h
    ·cases e;exact .inr ⟨_,zX⟩
    ·exact .inl h
   ·exact .inr ⟨c,zJ _ h⟩
  ·rename_i hk;refine Wf ?_;rcases h with h|h
   ·rcases zw.mp h with e|h
    ·cases e;exact absurd rfl hk
    ·exact .inl h
   ·exact .inr h
theorem ZA1{c:jT}:∀{l:List (Str×jT)},(x,c)∈l->∃d,l.lookup x=vB d
 |[],h=>by cases h
 | (y,d)::l,h=>by
  by_cases e:x=y
  ·subst e;exact⟨d,by simp⟩
  ·rcases zw.mp h with z|h
   ·cases z;exact absurd rfl e
   ·obtain⟨d',q⟩:=ZA1 h;exact⟨d',by rw[jJ,beq_eq_false_iff_ne.mpr e];exact q⟩
theorem ZFL(x:Str):(relabel scope env).names.lookup x=(scope.names.lookup x).map λk=>if(k==NameKind.free&&env.scope.kind == .function&&env.kindOf x==vB .cell)=vD then .cell else k:=by
 unfold relabel;generalize scope.names=l
 induction l with
 |nil=>rfl
 | cons y r ih=>
  obtain⟨n,k⟩:=y;by_cases e:x=n
  ·subst e;simp only[zG]
   cases hc:(k==NameKind.free&&env.scope.kind==ScopeKind.function&&env.kindOf x==vB NameKind.cell) <;>
    simp only[hc,if_true,jJ,beq_self_eq_true,jR,jA,if_false]
  ·have hb:(x==n)=vE:=beq_eq_false_iff_ne.mpr e;simp only[zG];split
   ·rw[jJ,jJ,hb];exact ih
   ·rw[jJ,jJ,hb];exact ih
def blk(X:Cx)(N:List Str)(scope:xV)(C:jT)(s₀:xW)(H₀:Hp)(ex:List jT):Cx where
 prog:=X.prog
 w:=X.w
 K:=X.K
 mg:=X.mg
 base:=X.base
 A:=X.A
 N:=N
 s₀:=s₀
 H₀:=H₀
 env:=compEnvC scope (Eg X.env scope.names []) C X.env
 outer:=X.stack
 stack:=X.stack
 ex:=ex
 fn:=λ_=>vE
 calm:=X.calm
 pn:=[]
 xe:=λ_ _=>False
structure CompSc (X:Cx) (N:List Str) (scope:xV) (nt:Nat) (caps:List Nat):Prop where
 kind:scope.kind=.function
 names:∀y∈scope.names,y.2=.local->scope.names.lookup y.1=vB .local
 nocell:∀y∈scope.names,y.2≠ .cell
 free:∀y∈scope.names,y.2=.free->X.env.kindOf y.1=vB .cell∨X.env.kindOf y.1=vB .free
 nd:N.Nodup
 len:N.length=nt+caps.length
 cap:∀(k j:Nat),caps[k]?=vB j->∃x,X.N[j]?=vB x/\N[nt+k]?=vB x/\scope.names.lookup x=vB .free
section
variable{X:Cx}{vA:List (jT×Obj)}{σ:St}{H:Hp}{s:xW}{N:List Str}{scope:xV}{nt:Nat}{caps:List Nat}
theorem CompSc.cells(c:CompSc X N scope nt caps)(ok:X.Ok):∀y∈scope.names,y.2=.free->∃c,X.env.cells.lookup y.1=vB c:=λy hy hk=>ok.has y.1 (c.free y hy hk)
theorem CompSc.cl(c:CompSc X N scope nt caps)(ok:X.Ok){d:jT}(h:(Eg X.env scope.names []).lookup x=vB d):X.env.cells.lookup x=vB d:=
 X6 (c.cells ok) (λp hp=>by cases hp) (x,d) (PySem.mem_of_lookup h)
theorem ZIh(c:CompSc X N scope nt caps)(I:Inv X vA σ H s){fp:List jT}(hf:∀b∈fp,FpOk X vA H b){C:jT}(hC:s.heap.objs.size<=C)(hCf:C∉fp):(blk X N scope C s H fp).Ok where
 mod:=I.ok.mod
 kind:=c.kind
 glob:=I.ok.glob
 blt:=I.ok.blt
 above:=hC
 inj:=λx y d h1 h2=>I.ok.inj x y d (c.cl I.ok h1) (c.cl I.ok h2)
 has:=λx h=>by
  have h':(relabel scope X.env).names.lookup x=vB .cell∨(relabel scope X.env).names.lookup x=vB .free:=h;rw[ZFL]at h';have hfree:scope.names.lookup x=vB .free:=by
   cases e:scope.names.lookup x with
   |none=>rw[e]at h';rcases h' with h'|h'<;>cases h'
   |some k=>
    rw[e]at h';cases k with
    |free=>rfl
    |cell=>exact absurd rfl (c.nocell _ (PySem.mem_of_lookup e))
    |_=>rcases h' with h'|h'<;>(simp at h')
  obtain⟨d,hd⟩:=Wf (env:=X.env) (x:=x) (names:=scope.names) (cs:=[]) (.inl (PySem.mem_of_lookup hfree));exact ZA1 hd
 cab:=λx d h=>by cases h
 hd:=I.ok.hd
 frames:=I.ok.frames
 stk:=.inl rfl
 exf:=λb hb=>⟨λz=>hCf (by rw[<-show b=C from z];exact hb),λx d h=>(hf b hb).2.2.2.2.1 x d (c.cl I.ok h)⟩
 bs:=I.bs
 bsz:=zC I.ok.bsz I.sz
 noex:=λb o e hb=>by
  rcases(hf b hb).2.2.2.1 with h|h
  ·exact I.ok.noex b o e h
  ·exact absurd (zV (zY (I.ok.bs b o e).1) h) (zS _)
 exfs:=λb hb hz=>by
  rcases zw.mp (I.Ve b hz)with z|z
  ·exact(hf b hb).2.1 z
  ·exact(hf b hb).2.2.1 z
 funs:=I.stack
 frf:=I.S8
end
def Ed(g:DG)(c:DB)(te:DE)(S:DSt):List D->DH->R (List D)
 |[],G=>.ok [] G
 | x::xs,G=>(g x S G).bind λS1 G1=>(c S1 G1).bind λk G2=>
   if k=vD then(te S1 G2).bind λd G3=>(Ed g c te S xs G3).bind λds G4=>.ok (d::ds) G4 else Ed g c te S xs G2
def Dt(i:Nat)(g:DG)(c:DB)(te:DE)(S:DSt):Nat->Nat->DH->R (List D)
 |0,j,G=>match G[i]? with
  |some (.lst xs)=>if xs.length<=j then .ok [] G else .bad
  |_=>.bad
 | n + 1,j,G=>match G[i]? with
  |some (.lst xs)=>match xs[j]? with
   | some x=>(g x S G).bind λS1 G1=>(c S1 G1).bind λk G2=>
     if k=vD then(te S1 G2).bind λd G3=>(Dt i g c te S n (j+1) G3).bind λds G4=>.ok (d::ds) G4 else Dt i g c te S n (j+1) G2
   |none=>.ok [] G
  |_=>.bad
def Cm(f:Nat->DH->Option (Option D))(g:DG)(c:DB)(te:DE)(S:DSt):Nat->Nat->DH->R (List D)
 |0,j,G=>match f j G with
  |some vC=>.ok [] G
  |_=>.bad
 | n + 1,j,G=>match f j G with
  |some (vB x)=>(g x S G).bind λS1 G1=>(c S1 G1).bind λk G2=>
     if k=vD then(te S1 G2).bind λd G3=>(Cm f g c te S n (j+1) G3).bind λds G4=>.ok (d::ds) G4 else Cm f g c te S n (j+1) G2
  |some vC=>.ok [] G
  |none=>.bad
noncomputable def Bb(nt:Nat)(caps:List Nat)(S:DSt):DSt:=zx nt vC++caps.map λj=>(S[j]?).join
def Ex(it:DI)(nt:Nat)(caps:List Nat)(g:DG)(c:DB)(te:DE):DE:=λS G=>(it S G).bind λJ G1=>(match J with
 |.pure xs=>Ed g c te (Bb nt caps S) xs G1
 |.mt i=>match G1[i]? with
  |some (.lst xs)=>Dt i g c te (Bb nt caps S) xs.length 0 G1
  |_=>.bad
 |.fn n f=>Cm f g c te (Bb nt caps S) n 0 G1).bind Aw
noncomputable def Ci:DB:=λ_ G=>.ok vD G
def GK(nt:Nat)(g:DG):Prop:=∀d S G S1 G1,g d S G=.ok S1 G1->∀i e,nt<=i->S[i]?=vB (vB e)->S1[i]?=vB (vB e)
def GKs(nt:Nat)(g:DGs):Prop:=∀d S G S1 G1,g d S G=.ok S1 G1->∀i e,nt<=i->S[i]?=vB (vB e)->S1[i]?=vB (vB e)
theorem Fe(h:i<nt):GK nt (gV i):=λd S G S1 G1 e j x hj hx=>by cases e;rw[q9 (by lia)];exact hx
theorem Pa:GKs nt Bf:=λd S G S1 G1 e j x hj hx=>by
 cases d with
 |nil=>cases e;exact hx
 |cons _ _=>cases e
theorem Ig{t:DG}{u:DGs}(h1:GK nt t)(h2:GKs nt u):GKs nt (Al t u):=λd S G S1 G1 e j x hj hx=>by
 cases d with
 |nil=>cases e
 |cons a r=>
  have e':(t a S G).bind (λS1 G1=>u r S1 G1)=.ok S1 G1:=e;cases ht:t a S G with
  |ok S2 G2=>rw[ht]at e';exact h2 _ _ _ _ _ e' j x hj (h1 _ _ _ _ _ ht j x hj hx)
  |err _ _=>rw[ht]at e';cases e'
  |bad=>rw[ht]at e';cases e'
theorem Q4{n:Nat}{t:DGs}(h:GKs nt t):GK nt (Bd n t):=λd S G S1 G1 e j x hj hx=>by
 cases d with
 |tup ds=>
  unfold Bd at e;dsimp only at e;split at e
  ·exact h _ _ _ _ _ e j x hj hx
  ·cases e
 |_=>cases e
theorem ZMY{r:R DSt}{f:DSt->DH->R D}(h:out E a (r.bind f) Q):
  Em E a r (λσ H=>∃(b:Wd)(S:DSt)(G:DH),b.H=H/\Ext a b/\Sim b G/\RepS b S σ/\r=.ok S G/\out E b (f S G) Q):=by
 cases r with
 |ok d G=>exact λb v x s q=>⟨b,d,G,rfl,x,s,q,rfl,out.mono x h⟩
 |err e G=>exact h
 |bad=>exact h
theorem R.bind_assoc{γ:Type}(r:R α)(f:α->DH->R β)(g:β->DH->R γ):(r.bind f).bind g=r.bind λa G=>(f a G).bind g:=by cases r<;>rfl
theorem ZCi{r:R ItD}{f:ItD->DH->R D}(h:out E a (r.bind f) Q):
  outI E a r (λJ H=>∃(b:Wd)(d:ItD)(G:DH),b.H=H/\Ext a b/\Sim b G/\RepI b d J/\r=.ok d G/\out E b (f d G) Q):=by
 cases r with
 |ok d G=>exact λb v x s q=>⟨b,d,G,rfl,x,s,q,rfl,out.mono x h⟩
 |err e G=>exact h
 |bad=>exact h
section
variable{prog:xX}{w:xq}{A:jU}{R':Result->xW->Prop}{s:xW}
theorem ZLQ{elt target iter:xQ}{ifs:List xQ}{scope:xV}{pos:Pos}{it acc:xY}{env:Env}(I:Nat->xW->Prop)
  (turn:∀n s,I n s->vX (xS prog w) A (pyNext it) (λr s₁=>match r with
   |none=>R' (.ok .next) s₁
   | some v=>vX (xS prog w) A (xP target it v) (λ_ s₁=>vX (xS prog w) A (assign target env v) (λ_ s₂=>
     vX (xS prog w) A (forIn ifs vD λc r=>if r=vD then do let ok<-isTrue c env (eval c env);pure (ForInStep.yield ok)else pure (ForInStep.yield r)) (λok s₃=>
      if ok=vD then vX (xS prog w) A (eval elt env) (λx s₄=>
       vX (xS prog w) A (call (.builtin "list.append") [acc,x]) (λ_ s₅=>∃m,m<n/\I m s₅) (λ_ _=>False) s₄) (λ_ _=>False) s₃
      else∃m,m<n/\I m s₃) (λ_ _=>False) s₂) (λ_ _=>False) s₁) (λ_ _=>False) s₁) (λ_ _=>False) s)
  (n:Nat) (h:I n s):
  codeAny (xS prog w) A (.compLoop (.ListComp elt [⟨target,iter,ifs,0⟩] scope pos) 0 it acc env) R' s:=by
 refine codeAny_loop rfl I (λn s hI=>?_) n h
 show vX _ A ((compTurn (.ListComp elt [⟨target,iter,ifs,0⟩] scope pos) 0 it acc env).onRaise (λx=>do noteFrame x env;theTreesLotGoes x)) _ _ s
 refine wpAny_noted ?_;rw[compTurn_list];refine vj ?_ (λ_ _ q=>q) (λ_ _(f:False)=>f.elim);refine vW (wpAny_standAt (vW (vj (turn n s hI) (λr s₁ h₁=>?_) λ_ _ h'=>h')));cases r with
 |none=>exact v4 h₁
 | some v=>
  refine vW (vj h₁ (λ_ s₂' h₁=>?_) λ_ _ h'=>h');refine vW (vj h₁ (λ_ s₂ h₂=>vW (vj h₂ (λok s₃ h₃=>?_) λ_ _ h'=>h')) λ_ _ h'=>h');cases ok with
  |false=>exact v4 ⟨rfl,h₃⟩
  |true=>
   exact vW (vW (vj h₃ (λx s₄ h₄=>vW (vj h₄ (λ_ s₅ h₅=>v4 (v4 ⟨rfl,h₅⟩)) λ_ _ h'=>h')) λ_ _ h'=>h'))
end
def QTs(X:Cx)(E:XK)(ifs:List xQ)(t:DB):Prop:=
 ∀(vA:List (jT×Obj))(s:xW)(σ:St)(H:Hp)(Q:Bool->Hp->Prop),Inv X vA σ H s->lB X.K E t σ H Q->
  vX (xS X.prog X.w) X.A (forIn ifs vD λc r=>if r=vD then do let ok<-isTrue c X.env (eval c X.env);pure (ForInStep.yield ok)else pure (ForInStep.yield r)) (TP X vA σ Q) X.xe s
theorem Ie:QTs X E [] Ci:=λvA s σ H Q I h=>by obtain⟨a,S,G,hk,rfl,sm,r,h⟩:=h;exact wpAny_tests_nil ⟨a.H,I,h a (Ext.refl a) sm⟩
theorem ZKO{c:xQ}{t:DB}(hc:QT X E c t):QTs X E [c] t:=λvA s σ H Q I h=>wpAny_tests_one (hc vA s σ H Q I h)
section
variable{X:Cx}{E:XK}{N:List Str}{scope:xV}{nt:Nat}{caps:List Nat}{tg elt iter:xQ}{ifs:List xQ}{pos:Pos}{it:DI}{g:DG}{c:DB}{te:DE}
theorem ZHZ(r:RepS a S σ):RepS a (Bb nt caps S) (zx nt vC++caps.map λj=>(σ[j]?).join):=by
 refine⟨by simp[Bb],λi d h=>?_⟩;unfold Bb at h;by_cases hi:i<nt
 ·rw[zL (by simpa using hi),jZ]at h
  split at h<;>cases h
 ·rw [zI (by simpa using hi),zq]at h;rw[zI (by simpa using hi),zq];rw[jD]at h⊢;cases e:caps[i-nt]? with
  |none=>rw[e]at h;cases h
  | some j=>
   rw[e]at h;have h1:(S[j]?).join=vB d:=by simpa using h
   have h2:S[j]?=vB (vB d):=by
    cases q:S[j]? with
    |none=>rw[q]at h1;cases h1
    |some o=>
     rw[q]at h1;have h1':o=vB d:=h1;rw[h1']
   obtain⟨v,ev,rv⟩:=r.get j d h2;exact⟨v,by simp[ev],rv⟩
theorem ZG5(h:(Bb nt caps S)[i]?=vB (vB d)):nt<=i:=by
 unfold Bb at h;by_cases hi:i<nt
 ·rw[zL (by simpa using hi),jZ]at h
  split at h<;>cases h
 ·lia
theorem ZAb (hc:X.calm=vD) (cs:CompSc X N scope nt caps)
  (hg:∀C s₀ H₀ ex,QG (blk X N scope C s₀ H₀ ex) E0 tg g) (gk:GK nt g) (hts:∀C s₀ H₀ ex,QTs (blk X N scope C s₀ H₀ ex) E0 ifs c) (he:∀C s₀ H₀ ex,QE (blk X N scope C s₀ H₀ ex) E0 elt te)
  {vA:List (jT×Obj)} {σ:St} {s:xW} {a:Wd} {S:DSt} {G:DH} {J:It} {n0:Nat} {f:Nat->DH->Option (Option D)} {i0:jT} {fp:List jT} {tn:Nat->Heap->Prop} (I:Inv X vA σ a.H s) (hk:a.K=X.K) (sm:Sim a G) (rS:RepS a S σ)
  (T:Turn X.prog X.w X.K tg J fp i0 tn) (t0:tn 0 s.heap) (hf:∀b∈fp,FpOk X vA a.H b) (rJ:RepI a (.fn n0 f) J) {Q:VK}
  (h:out E0 a ((Cm f g c te (Bb nt caps S) n0 0 G).bind Aw) Q)
  {RR:xY->jT->Result->xW->Prop} {E':xY->xW->Prop}
  (hRR:∀(D C:jT)(s':xW)(b:Wd)(vs:List V),Inv X vA σ (upd b.H D (.lst vs)) s'->b.H D=vC->s.heap.objs.size<=C->D≠C->(∃m,s'.heap.Ns C m)->b.H C=vC->Q (.ref D) (upd b.H D (.lst vs))->RR (.ref D) C (.ok .next) s'):
  vX (xS X.prog X.w) X.A (newList []) (λacc s₃=>vX (xS X.prog X.w) X.A (newFunctionEnv scope X.env.globals (Eg X.env scope.names []) [] X.env.qual vC .none (vB X.env)) (λcenv s₄=>
   codeAny (xS X.prog X.w) X.A (.compStart (.ListComp elt [⟨tg,iter,ifs,0⟩] scope pos) 0 (.ref i0) acc {cenv with scope:=relabel scope X.env}) (RR acc cenv.locals) s₄) E' s₃) E' s:=by
 refine vx (wpAny_newFunctionEnv cs.nocell (by intro y hy;simp at hy) (λh₁ hns₁ hsb₁=>?_) cs.kind);dsimp only at hns₁ hsb₁⊢;generalize hH2:s.heap.push {cls:=.type "list",dict:=vC,data:=.seq ([]:List xY).toArray}=H2 at hns₁ hsb₁⊢;have hC:H2.objs.size=s.heap.objs.size+1:=by rw[<-hH2,qw]
 have hDC:s.heap.objs.size≠H2.objs.size:=by rw[hC];exact zE (qX _)
 have hCle:s.heap.objs.size<=H2.objs.size:=by rw[hC];exact jX _
 have fpOld:∀b∈fp,b<s.heap.objs.size:=λb hb=>by obtain⟨o,e,_⟩:=T.obj 0 _ t0 b hb;exact zY e
 have hDf:s.heap.objs.size∉fp:=λhm=>zS _ (fpOld _ hm)
 have hCf:H2.objs.size∉fp:=λhm=>by have:=fpOld _ hm;rw[hC]at this;exact zS _ (Nat.lt_of_succ_lt this)
 have old:∀b o,s.heap.get? b=vB o->h₁.get? b=vB o:=λb o e=>
  hsb₁.extBut b o (by rw[hC];exact zE (qM (zY e))) (zQ _ (hH2▸zQ _ e))
 have hacc:h₁.PlainList s.heap.objs.size ([]:List xY).toArray:=⟨_,hsb₁.extBut _ _ hDC (zQ _ (hH2▸zy _ rfl))⟩;generalize hCe:H2.objs.size=C at*;generalize hDe:s.heap.objs.size=Dd at*;let B:=blk X N scope C s a.H fp;have okB:B.Ok:=ZIh cs I hf (by rw[hDe];exact hCle) hCf;let σ0:St:=zx nt vC++caps.map λj=>(σ[j]?).join
 have start:∀tk,Inv B [] σ0 a.H {s with heap:=h₁,toks:=tk}:=λtk=>by
  refine⟨okB,rfl,I.bare,Un.kept old,⟨_,hns₁,λi x v e1 e2 e3=>?_⟩,λx d' e=>?_,I.hok.fresh (by rw[hDe];exact hCle),λx d' e=>?_,λp hp=>?_,I.hok.kept old,?_⟩
  ·have hi:nt<=i:=by
    by_cases hi:i<nt
    ·have e2':σ0[i]?=vB (vB v):=e2;rw[zL (by simpa using hi),jZ]at e2'
     split at e2'<;>cases e2'
    ·lia
   have e2':σ0[i]?=vB (vB v):=e2;rw[zI (by simpa using hi),zq,jD]at e2';cases ej:caps[i-nt]? with
   |none=>rw[ej]at e2';cases e2'
   | some j=>
    rw[ej]at e2';have h1:(σ[j]?).join=vB v:=by simpa using e2'
    have h2:σ[j]?=vB (vB v):=by
     cases q:σ[j]? with
     |none=>rw[q]at h1;cases h1
     |some o=>
      rw[q]at h1;have h1':o=vB v:=h1;rw[h1']
    obtain⟨y,ey,en,ek⟩:=cs.cap (i-nt) j ej;have exy:x=y:=by
     have:nt+(i-nt)=i:=by lia
     rw[this]at en;have e1':N[i]?=vB x:=e1;rw[e1']at en;exact Option.some.inj en
    subst exy;have kx:=cs.free (x,.free) (PySem.mem_of_lookup ek) rfl;have vis:Vis X.env.scope x:=by
     rcases kx with kx|kx
     ·exact .inr (.inl kx)
     ·exact .inr (.inr kx)
    obtain⟨m,hn,hl⟩:=I.loc;obtain⟨u,ru,lk⟩:=hl j x v ey h2 vis;refine⟨u,ru,?_⟩;rcases lk with⟨k1,_⟩|⟨k1,c1,ec,hcell⟩
    ·rcases kx with kx|kx
     ·rw[k1]at kx;cases kx
     ·rw[k1]at kx;cases kx
    ·refine .inr ⟨?_,c1,?_,?_⟩
     ·show(relabel scope X.env).names.lookup x=vB .cell∨(relabel scope X.env).names.lookup x=vB .free;rw[ZFL,ek];simp only[jR];split
      ·exact .inl rfl
      ·exact .inr rfl
     ·obtain⟨d1,hd1⟩:=Wf (env:=X.env) (x:=x) (names:=scope.names) (cs:=[]) (.inl (PySem.mem_of_lookup ek));obtain⟨d2,hd2⟩:=ZA1 hd1;have:=cs.cl I.ok hd2;rw[ec]at this;cases this;exact hd2
     ·obtain⟨o,e,dd⟩:=hcell;exact⟨o,old _ _ e,dd⟩
  ·obtain⟨v,o,e',dd⟩:=I.cell x d' (cs.cl I.ok e);exact⟨v,o,old _ _ e',dd⟩
  ·exact I.Gd x d' (cs.cl I.ok e)
  ·exact absurd hp (by simp[B,blk])
  ·show σ0.length=N.length;rw[cs.len];simp[σ0]
 have rS0:RepS a (Bb nt caps S) σ0:=ZHZ rS;have aD:a.H Dd=vC:=I.hok.fresh (by rw[hDe];exact zW _);have young:∀b∈fp,b≠C:=λb hb z=>hCf (z▸hb)
 have fpB:∀{H':Hp}{ps:List (jT×Obj)},(∀b∈fp,H' b=vC)->(∀p∈ps,p.1∉fp)->∀b∈fp,FpOk B ps H' b:=λ{H' ps}hn hps b hb=>
  ⟨hn b hb,young b hb,okB.exfs b hb,.inl hb,λx d' e=>(hf b hb).2.2.2.2.1 x d' (cs.cl I.ok e),λp hp z=>by
   have hp':p∈ps:=by simpa[B,blk]using hp
   exact hps p hp' (z▸hb)⟩
 have nstk:Dd∉frs X.stack:=λz=>by
  rcases zw.mp (I.Ve Dd z)with z|z
  ·have:=I.lt;rw[hDe,<-z]at this;exact zS _ this
  ·exact I.nofs (by rw[hDe];exact zW _) z
 have pinD:∀{σ':St}{H':Hp}{s':xW}{its:List xY}{nD:Nat},Inv B [] σ' H' s'->s'.heap.get? Dd=vB {cls:=.type "list",data:=.seq its.toArray nD}->H' Dd=vC->Inv B [(Dd,{cls:=.type "list",data:=.seq its.toArray nD})] σ' H' s':=λ{σ' H' s' its nD}J e n=>
  J.Jk λp hp=>by
   have ep:p=(Dd,{cls:=.type "list",data:=.seq its.toArray nD}):=by simpa using hp
   subst ep;exact⟨e,n,hDC,nstk,λv' z=>by cases z⟩
 have fin:∀(s':xW)(b:Wd)(σ':St)(its:List xY)(ds:List D)(G':DH),Inv B [] σ' b.H s'->Ext a b->Sim b G'->s'.heap.PlainList Dd its.toArray->b.H Dd=vC->(∃vs,Vals vs its/\Reps b ds vs)->out E0 b (Aw ds G') Q->RR (.ref Dd) C (.ok .next) s':=by
  intro s' b σ' its ds G' IB x sb pl hD ⟨vs,hv,rv⟩ hq;have hz:ds.length<=1000000:=by
   unfold Aw at hq;split at hq
   ·assumption
   ·exact hq.elim
  have Ix:Inv X vA σ b.H s':=I.call' IB.os IB.base IB.hok IB.bare λb hb=>⟨(hf b hb).2.2.2.1,(hf b hb).2.1,(hf b hb).2.2.2.2.1,(hf b hb).2.2.2.2.2⟩
  obtain⟨n,eD⟩:=pl;have ylt:∀{q:jT}{o:Obj},s.heap.get? q=vB o->q≠Dd:=λe z=>by rw[z,<-hDe]at e;exact absurd (zY e) (zS _)
  have Ia:Inv X vA σ (upd b.H Dd (.lst vs)) s':=by
   refine X3 Ix hD (by rw[<-hDe];exact I.sz) ?_ (λy c' ec=>?_) (λp hp=>?_) ⟨?_,its,n,hv,eD⟩
   ·rw[<-hDe];exact qU I.lt
   ·obtain⟨v,o,e,_⟩:=I.cell y c' ec;exact ylt e
   ·exact ylt (I.pin p hp).1
   ·rw[<-rv.length];exact zC hz size6
  refine hRR Dd C s' b vs Ia hD hCle hDC (let⟨m,hn,_⟩:=IB.loc;⟨m,hn⟩) IB.free ?_;unfold Aw at hq;rw[if_pos hz]at hq;exact K5 sb rv hq Dd hD
 have turnX:∀(n:Nat)(P:Nat->xW->Prop)(rest:DH->R (List D))(s1:xW)(b:Wd)(G1:DH)(σ1:St)(its:List xY)(acc:List D)(u:xY)(v:V)(x:D)(i:Nat),Inv B [] σ1 b.H s1->Ext a b->Sim b G1->RepS b (Bb nt caps S) σ1->tn i s1.heap->(∀q∈fp,b.H q=vC)->
   s1.heap.PlainList Dd its.toArray->b.H Dd=vC->(∃vs,Vals vs its/\Reps b acc vs)->RelV v u->Rep b x v->
   out E0 b (((g x (Bb nt caps S) G1).bind λS1 G1=>(c S1 G1).bind λk G2=>if k=vD then(te S1 G2).bind λd G3=>(rest G3).bind λds G4=>.ok (d::ds) G4 else rest G2).bind λds G=>Aw (acc++ds) G) Q->
   (∀(s2:xW)(b2:Wd)(G2:DH)(σ2:St)(its2:List xY)(acc2:List D),Inv B [] σ2 b2.H s2->Ext a b2->Sim b2 G2->RepS b2 (Bb nt caps S) σ2->tn i s2.heap->(∀q∈fp,b2.H q=vC)->
    s2.heap.PlainList Dd its2.toArray->b2.H Dd=vC->(∃vs,Vals vs its2/\Reps b2 acc2 vs)->out E0 b2 ((rest G2).bind λds G=>Aw (acc2++ds) G) Q->∃m,m<n/\P m s2)->
   vX (xS X.prog X.w) X.A (assign tg B.env u) (λ_ s₂=>
     vX (xS X.prog X.w) X.A (forIn ifs vD λc r=>if r=vD then do let ok<-isTrue c B.env (eval c B.env);pure (ForInStep.yield ok)else pure (ForInStep.yield r)) (λok s₃=>
      if ok=vD then vX (xS X.prog X.w) X.A (eval elt B.env) (λx s₄=>
       vX (xS X.prog X.w) X.A (call (.builtin "list.append") [.ref Dd,x]) (λ_ s₅=>∃m,m<n/\P m s₅) (λ_ _=>False) s₄) (λ_ _=>False) s₃
      else∃m,m<n/\P m s₃) (λ_ _=>False) s₂) (λ_ _=>False) s1:=by
  intro n P rest s1 b G1 σ1 its acc u v x i I1 x1 sb rSb t1 hfp pl hD hacc' ru rx hq next
  rw[R.bind_assoc]at hq;obtain⟨nD,eD⟩:=id pl;let pinD:List (jT×Obj):=[(Dd,{cls:=.type "list",data:=.seq its.toArray nD})];have pinOk:∀{σ':St}{H':Hp}{s':xW},Inv B (pinD++Nx fp s1.heap) σ' H' s'->s'.heap.PlainList Dd its.toArray/\H' Dd=vC/\tn i s'.heap/\∀q∈fp,H' q=vC:=λ{σ' H' s'}J=>by
   have p1:=J.pin (Dd,{cls:=.type "list",data:=.seq its.toArray nD}) (zR _ (jN _ (by simp[pinD])));refine⟨⟨nD,p1.1⟩,p1.2.1,T.keep _ _ _ t1 λq hq' o e=>(J.pin (q,o) (zR _ (zR _ (Tq hq' e)))).1,λq hq'=>?_⟩;obtain⟨o,e,_⟩:=T.obj _ _ t1 q hq';exact(J.pin (q,o) (zR _ (zR _ (Tq hq' e)))).2.1
  have I2:Inv B (pinD++Nx fp s1.heap) σ1 b.H s1:=I1.Jk λp hp=>by
   rcases j5.mp hp with hp|hp
   ·have e:p=(Dd,{cls:=.type "list",data:=.seq its.toArray nD}):=by simpa[pinD]using hp
    subst e;refine⟨eD,hD,hDC,λz=>?_,λv' z=>by cases z⟩;exact nstk z
   ·obtain⟨hb,e⟩:=ZCu hp;obtain⟨f0,f1,f2,_⟩:=fpB (ps:=[]) hfp (λp hp=>by cases hp) p.1 hb;obtain⟨o,e',dd⟩:=T.obj _ _ t1 p.1 hb;rw[e]at e';cases e';exact⟨e,f0,f1,f2,dd⟩
  refine thn (hg C s a.H fp _ s1 σ1 b.H v u _ I2 ru ⟨b,Bb nt caps S,G1,x,x1.k.trans hk,rfl,sb,rSb,rx,(ZMY hq).imp λ_ _ z=>z⟩) ?_;rintro _ s2 ⟨σ2,H2',J2,b2,S2,G2,rfl,y2,sb2,rS2,eg,hq2⟩;rw[R.bind_assoc]at hq2;have rS2':RepS b2 (Bb nt caps S) σ2:=⟨by have h1:=J2.len;have h2:σ1.length=N.length:=I1.len;rw[rSb.len,h2];exact h1.symm,λj e' hj=>rS2.get j e' (gk _ _ _ _ _ eg j e' (ZG5 hj) hj)⟩
  refine thn (hts C s a.H fp _ s2 σ2 b2.H _ J2 ⟨b2,S2,G2,y2.k.trans (x1.k.trans hk),rfl,sb2,rS2,(ZFb hq2).imp λ_ _ z=>z⟩) ?_;rintro k s3 ⟨H3,J3,b3,G3,rfl,y3,sb3,_,hq3⟩;cases k with
  |false=>
   obtain⟨p1,p2,p3,p4⟩:=pinOk J3;have Jn:Inv B [] σ2 b3.H s3:=J3.Jk λp hp=>by cases hp
   obtain⟨vs,hv,rv⟩:=hacc'
   exact next s3 b3 G3 σ2 its acc Jn (x1.trans (y2.trans y3)) sb3 (rS2'.mono y3) p3 p4 p1 p2 ⟨vs,hv,(rv.mono y2).mono y3⟩ hq3
  | true=>
   have hq3':out E0 b3 (((te S2 G3).bind λd G3=>(rest G3).bind λds G4=>.ok (d::ds) G4).bind λds G=>Aw (acc++ds) G) Q:=hq3;rw[R.bind_assoc]at hq3';refine thn (he C s a.H fp _ s3 σ2 b3.H _ J3 ⟨b3,S2,G3,y3.k.trans (y2.k.trans (x1.k.trans hk)),rfl,sb3,rS2.mono y3,(Ei hq3').imp λ_ _ z=>z⟩) ?_;rintro w s4 ⟨vw,H4,J4,rw',b4,d4,G4,rfl,y4,sb4,q4,_,hq4⟩;obtain⟨p1,p2,p3,p4⟩:=pinOk J4;rw[R.bind_assoc]at hq4
   have hq4':out E0 b4 ((rest G4).bind λds G=>Aw ((acc++[d4])++ds) G) Q:=by
    have e:(λ(ds:List D)(G:DH)=>(R.ok (d4::ds) G).bind λds G=>Aw (acc++ds) G)=λds G=>Aw ((acc++[d4])++ds) G:=by funext ds G;simp
    rw[<-e];exact hq4
   obtain⟨vs,hv,rv⟩:=hacc';have hsz:its.toArray.size<=sizeLine:=by
    have:acc.length<=1000000:=by
     cases hr:rest G4 with
     |ok ds G5=>
      rw[hr]at hq4';have hq5:out E0 b4 (Aw ((acc++[d4])++ds) G5) Q:=hq4';unfold Aw at hq5;split at hq5
      ·rename_i hl;simp at hl;lia
      ·exact hq5.elim
     |err e' G5=>rw[hr]at hq4';exact(hq4'.1 rfl).elim
     |bad=>rw[hr]at hq4';exact hq4'.elim
    rw[zK,<-hv.length,<-rv.length];exact zC this size6
   refine wpAny_list_append_plain p1 (λh' hpl hsb=>?_) hsz;have Jn:Inv B [] σ2 b4.H s4:=J4.Jk λp hp=>by cases hp
   have J5:Inv B [] σ2 b4.H {s4 with heap:=h'}:=by refine Jn.turned (it:=Dd) (t':=s4.toks) (λq o hq' e=>(hsb.2 q hq').trans e) p2 hDC (.inr (by show s.heap.objs.size<=Dd;rw[hDe];exact zW _)) (λy c' ec=>?_) (λp hp=>absurd hp (by simp[B,blk]));obtain⟨v',o,e,_⟩:=I.cell y c' (cs.cl I.ok ec);intro z;rw[z,<-hDe]at e;exact absurd (zY e) (zS _)
   refine next _ b4 G4 σ2 (its++[w]) (acc++[d4]) J5 (x1.trans (y2.trans (y3.trans y4))) sb4 ((rS2'.mono y3).mono y4) (T.keep _ _ _ p3 λq hq' o e=>(hsb.2 q (λz=>hDf (z▸hq'))).trans e) p4 (by simpa using hpl) p2 ⟨vs++[vw],hv.append (.cons rw' .nil),(((rv.mono y2).mono y3).mono y4).append (Reps.cons q4 Reps.nil)⟩ hq4'
 have loop:∀s₃:xW,s₃={s with heap:=h₁,toks:=s.toks+([]:List (Str×xY)).length}->
   codeAny (xS X.prog X.w) X.A (.compLoop (.ListComp elt [⟨tg,iter,ifs,0⟩] scope pos) 0 (.ref i0) (.ref Dd) B.env) (RR (.ref Dd) C) s₃:=by
  rintro s₃ rfl;have t1:tn 0 h₁:=T.keep _ _ _ t0 λq _ o e=>old q o e
  have fp0:∀q∈fp,a.H q=vC:=λq hq=>(hf q hq).1
  have walk:∀b:Wd,Ext a b->∀G,Sim b G->∀i,(∀d,f i G=vB (vB d)->J.go i b.H/\∀x H',J.yld i b.H x H'->∃c:Wd,c.H=H'/\Ext b c/\Sim c G/\Rep c d x)/\(f i G=vB vC->J.stop i b.H):=rJ;refine ZLQ (λm s'=>∃(i:Nat)(b:Wd)(G':DH)(σ':St)(its:List xY)(acc:List D),Inv B [] σ' b.H s'/\Ext a b/\Sim b G'/\RepS b (Bb nt caps S) σ'/\tn i s'.heap/\(∀q∈fp,b.H q=vC)/\s'.heap.PlainList Dd its.toArray/\b.H Dd=vC/\(∃vs,Vals vs its/\Reps b acc vs)/\
   out E0 b ((Cm f g c te (Bb nt caps S) m i G').bind λds G=>Aw (acc++ds) G) Q) ?_ n0 ⟨0,a,G,σ0,[],[],start _,Ext.refl a,sm,rS0,t1,fp0,hacc,aD,⟨[],.nil,rfl⟩,by simpa using h⟩
  rintro m s' ⟨i,b,G',σ',its,acc,IB,x,sb,rSb,ti,hfp,pl,hD,hac,hq⟩;obtain⟨nD,eD⟩:=pl;have I0:=pinD IB eD hD;have f0:=fpB (ps:=[(Dd,{cls:=.type "list",data:=.seq its.toArray nD})]) hfp (λp hp=>by
   have ep:p=(Dd,{cls:=.type "list",data:=.seq its.toArray nD}):=by simpa using hp
   subst ep;exact hDf)
  have stop:J.stop i b.H->out E0 b (Aw acc G') Q->vX (xS X.prog X.w) X.A (pyNext (.ref i0)) (λr s₁=>match r with
    |none=>RR (.ref Dd) C (.ok .next) s₁
    | some v=>vX (xS X.prog X.w) X.A (xP tg (.ref i0) v) (λ_ s₁=>vX (xS X.prog X.w) X.A (assign tg B.env v) (λ_ s₂=>
     vX (xS X.prog X.w) X.A (forIn ifs vD λc r=>if r=vD then do let ok<-isTrue c B.env (eval c B.env);pure (ForInStep.yield ok)else pure (ForInStep.yield r)) (λok s₃=>
      if ok=vD then vX (xS X.prog X.w) X.A (eval elt B.env) (λx s₄=>
       vX (xS X.prog X.w) X.A (call (.builtin "list.append") [.ref Dd,x]) (λ_ s₅=>∃m',m'<m/\∃(i:Nat)(b:Wd)(G':DH)(σ':St)(its:List xY)(acc:List D),Inv B [] σ' b.H s₅/\Ext a b/\Sim b G'/\RepS b (Bb nt caps S) σ'/\tn i s₅.heap/\(∀q∈fp,b.H q=vC)/\s₅.heap.PlainList Dd its.toArray/\b.H Dd=vC/\(∃vs,Vals vs its/\Reps b acc vs)/\
        out E0 b ((Cm f g c te (Bb nt caps S) m' i G').bind λds G=>Aw (acc++ds) G) Q) (λ_ _=>False) s₄) (λ_ _=>False) s₃
      else∃m',m'<m/\∃(i:Nat)(b:Wd)(G':DH)(σ':St)(its:List xY)(acc:List D),Inv B [] σ' b.H s₃/\Ext a b/\Sim b G'/\RepS b (Bb nt caps S) σ'/\tn i s₃.heap/\(∀q∈fp,b.H q=vC)/\s₃.heap.PlainList Dd its.toArray/\b.H Dd=vC/\(∃vs,Vals vs its/\Reps b acc vs)/\
        out E0 b ((Cm f g c te (Bb nt caps S) m' i G').bind λds G=>Aw (acc++ds) G) Q) (λ_ _=>False) s₂) (λ_ _=>False) s₁) (λ_ _=>False) s₁) (λ_ _=>False) s':=by
   intro st hq';refine thn (T.done B rfl rfl rfl hc i _ s' σ' b.H _ I0 f0 ti st) ?_;rintro r s1 ⟨rfl,I2⟩;have pD:=(I2.pin (Dd,{cls:=.type "list",data:=.seq its.toArray nD}) (zR _ (by simp))).1;exact fin s1 b σ' its acc G' (I2.Jk λp hp=>by cases hp) x sb ⟨nD,pD⟩ hD hac hq'
  cases m with
  |zero=>
   unfold Cm at hq;split at hq
   ·rename_i hf;exact stop ((walk b x G' sb i).2 hf) (by have hq':out E0 b (Aw (acc++[]) G') Q:=hq;rw[q8]at hq';exact hq')
   ·exact hq.elim
  | succ m=>
   unfold Cm at hq;split at hq
   ·rename_i d1 hf;obtain⟨go,yl⟩:=(walk b x G' sb i).1 d1 hf;refine thn (T.item B rfl rfl rfl hc i _ s' σ' b.H _ I0 f0 ti go) ?_;rintro r s1 ⟨u,rfl,hgo⟩;refine thn hgo ?_;rintro _ s2 ⟨v,H',I2,ru,y,t2,hfp2⟩;obtain⟨cc,rfl,xx,ss,rd⟩:=yl v H' y;have pD:=I2.pin (Dd,{cls:=.type "list",data:=.seq its.toArray nD}) (zR _ (by simp));obtain⟨vs1,hv1,rv1⟩:=hac;refine turnX _ _ (λG3=>Cm f g c te (Bb nt caps S) m (i+1) G3) s2 cc G' σ' its acc u _ d1 (i+1) (I2.Jk λp hp=>by cases hp) (x.trans xx) ss (rSb.mono xx) t2 hfp2 ⟨nD,pD.1⟩ pD.2.1 ⟨vs1,hv1,rv1.mono xx⟩ ru rd (out.mono xx hq) ?_
    intro s3 b3 G3 σ3 its3 acc3 a1 a2 a3 a4 a5 a6 a7 a8 a9 a10;exact⟨m,qX _,i+1,b3,G3,σ3,its3,acc3,a1,a2,a3,a4,a5,a6,a7,a8,a9,a10⟩
   ·rename_i hf;exact stop ((walk b x G' sb i).2 hf) (by have hq':out E0 b (Aw (acc++[]) G') Q:=hq;rw[q8]at hq';exact hq')
   ·exact hq.elim
 exact codeAny_compStart_list (loop _ rfl) (T.self _ 0 _ _ _ (T.keep _ _ _ t0 λq _ o e=>old q o e) (loop _ rfl))
theorem ZBT:∀(n j:Nat)(G:DH),j+n=xs.length->Ed g c te S (xs.drop j) G=Cm (λj _=>vB xs[j]?) g c te S n j G
 |0,j,G,h=>by
  rw[zO (by lia)]
  show _=(match vB xs[j]? with |some vC=>R.ok [] G|_=>.bad)
  rw[zD (by lia)]
  rfl
 |n+1,j,G,h=>by
  have hj:j<xs.length:=by lia
  rw[zM hj]
  show(g xs[j] S G).bind _=(match vB xs[j]? with |some (vB x)=>_|some vC=>R.ok [] G|none=>.bad)
  rw[zZ hj];dsimp only
  congr 1
  funext S1 G1
  congr 1
  funext k G2;rw[ZBT n (j+1) G2 (by lia)]
  congr 1
  congr 1
  funext d G3;rw[ZBT n (j+1) G3 (by lia)]
theorem ZF2:∀(n j:Nat)(G:DH),Dt i g c te S n j G=Cm (mtF i) g c te S n j G
 | 0,j,G=>by
  unfold Dt Cm mtF;cases G[i]? with
  |none=>rfl
  | some o=>
   cases o with
   |lst xs=>
    dsimp only;by_cases hj:j<xs.length
    ·rw[if_neg (by lia),zZ hj]
    ·rw[if_pos (by lia),zD (by lia)]
   |_=>rfl
 | n+1,j,G=>by
  have ih:(Dt i g c te S n (j+1))=Cm (mtF i) g c te S n (j+1):=funext λG=>ZF2 n (j+1) G
  unfold Dt Cm;rw[ih];unfold mtF;cases G[i]? with
  |none=>rfl
  | some o=>
   cases o with
   |lst xs=>
    dsimp only
    cases xs[j]?<;>rfl
   |_=>rfl
theorem ZBo(hc:X.calm=vD)(cs:CompSc X N scope nt caps)
  (hg:∀C s₀ H₀ ex,QG (blk X N scope C s₀ H₀ ex) E0 tg g) (gk:GK nt g) (hts:∀C s₀ H₀ ex,QTs (blk X N scope C s₀ H₀ ex) E0 ifs c) (he:∀C s₀ H₀ ex,QE (blk X N scope C s₀ H₀ ex) E0 elt te)
  {vA:List (jT×Obj)} {σ:St} {s:xW} {a:Wd} {S:DSt} {G:DH} {J:It} {d:ItD} {i0:jT} {fp:List jT} {tn:Nat->Heap->Prop} (I:Inv X vA σ a.H s) (hk:a.K=X.K) (sm:Sim a G) (rS:RepS a S σ)
  (T:Turn X.prog X.w X.K tg J fp i0 tn) (t0:tn 0 s.heap) (hf:∀b∈fp,FpOk X vA a.H b) (rJ:RepI a d J) {Q:VK}
  (h:out E0 a ((match d with
   |.pure xs=>Ed g c te (Bb nt caps S) xs G
   |.mt i=>match G[i]? with
    |some (.lst xs)=>Dt i g c te (Bb nt caps S) xs.length 0 G
    |_=>.bad
   |.fn n f=>Cm f g c te (Bb nt caps S) n 0 G).bind Aw) Q)
  {RR:xY->jT->Result->xW->Prop} {E':xY->xW->Prop}
  (hRR:∀(D C:jT)(s':xW)(b:Wd)(vs:List V),Inv X vA σ (upd b.H D (.lst vs)) s'->b.H D=vC->s.heap.objs.size<=C->D≠C->(∃m,s'.heap.Ns C m)->b.H C=vC->Q (.ref D) (upd b.H D (.lst vs))->RR (.ref D) C (.ok .next) s'):
  vX (xS X.prog X.w) X.A (newList []) (λacc s₃=>vX (xS X.prog X.w) X.A (newFunctionEnv scope X.env.globals (Eg X.env scope.names []) [] X.env.qual vC .none (vB X.env)) (λcenv s₄=>
   codeAny (xS X.prog X.w) X.A (.compStart (.ListComp elt [⟨tg,iter,ifs,0⟩] scope pos) 0 (.ref i0) acc {cenv with scope:=relabel scope X.env}) (RR acc cenv.locals) s₄) E' s₃) E' s:=by
 cases d with
 |pure xs=>
  have h':out E0 a ((Ed g c te (Bb nt caps S) (xs.drop 0) G).bind Aw) Q:=h;rw[ZBT xs.length 0 G (by lia)]at h';exact ZAb hc cs hg gk hts he I hk sm rS T t0 hf (ZDX rJ) h' hRR
 |mt k=>
  dsimp only at h;split at h
  ·rename_i xs hx;rw[ZF2]at h;exact ZAb hc cs hg gk hts he I hk sm rS T t0 hf (ZFJ rJ) h hRR
  ·exact h.elim
 |fn n0 f=>exact ZAb hc cs hg gk hts he I hk sm rS T t0 hf rJ h hRR
end
section
variable{X:Cx}{N:List Str}{scope:xV}{nt:Nat}{caps:List Nat}{tg elt iter:xQ}{ifs:List xQ}{pos:Pos}{it:DI}{g:DG}{c:DB}{te:DE}
theorem letGo{vA:List (jT×Obj)}{s2 s':xW}{h':Heap}{C:jT}{t':Nat}{σ2:St}{H2:Hp}(I2:Inv X vA σ2 H2 s2)(Ia:Inv X vA σ H s')(hC:s2.heap.objs.size<=C)(hn:H C=vC)(hsb:qy C s'.heap h'):Inv X vA σ H {s' with heap:=h',toks:=t'}:=by
 have young:∀{b:jT}{o:Obj},s2.heap.get? b=vB o->b≠C:=λe z=>by rw[z]at e;exact absurd (zV (zY e) hC) (zS _)
 refine Ia.turned (it:=C) (λb o hb e=>(hsb.2 b hb).trans e) hn (qU (zV I2.lt hC)) (.inr (zC I2.sz hC)) (λx c' e=>?_) λp hp=>?_
 ·obtain⟨v,o,e',_⟩:=I2.cell x c' e;exact young e'
 ·exact young (I2.pin p hp).1
theorem Jc(hc:X.calm=vD)(cs:CompSc X N scope nt caps)(hi:QI X E0 tg iter it)
  (hg:∀C s₀ H₀ ex,QG (blk X N scope C s₀ H₀ ex) E0 tg g) (gk:GK nt g) (hts:∀C s₀ H₀ ex,QTs (blk X N scope C s₀ H₀ ex) E0 ifs c) (he:∀C s₀ H₀ ex,QE (blk X N scope C s₀ H₀ ex) E0 elt te)
  (hs:∀x,foldedSetIterable iter X.env x=pure x:=by intro _;rfl):QE X E0 (.ListComp elt [⟨tg,iter,ifs,0⟩] scope pos) (Ex it nt caps g c te):=by
 intro vA s σ H Q I h;obtain⟨a,S,G,hk,rfl,sm,r,h⟩:=h;rw[eval_ListComp];refine wpAny_comprehension_free (use:=vC) rfl hs (ZEG (cs.cells I.ok)) cs.kind cs.names (thn (hi vA s σ a.H _ I ⟨a,S,G,hk,rfl,sm,r,(ZCi h).imp λ_ _ z=>z⟩) λxv s1 h1=>thn h1 λitv s2 h2=>?_);obtain⟨i0,fp,tn,J,H2,rfl,I2,T,t0,f2,b,d,G1,rfl,x,sb,rJ,_,h1⟩:=h2;refine ZBo hc cs hg gk hts he I2 (x.k.trans hk) sb (r.mono x) T t0 f2 rJ h1 (RR:=λacc C=>compPost (xS X.prog X.w) X.A X.xe vC (EP X vA σ Q) acc C) ?_
 intro D C s' b vs Ia hD hCle hDC ⟨m,hn⟩ hCn hq;refine⟨m,hn,λh' hsb=>⟨.ref D,_,letGo I2 Ia hCle ?_ hsb,rfl,hq⟩⟩;rw[Ay (Ne.symm hDC)];exact hCn
theorem ZB6(i:Nat){y:Str}{py spos:Pos}(hc:X.calm=vD)(hN:X.N.Nodup)(cs:CompSc X N scope nt caps)(hi:QI X E0 tg iter it)
  (hg:∀C s₀ H₀ ex,QG (blk X N scope C s₀ H₀ ex) E0 tg g) (gk:GK nt g) (hts:∀C s₀ H₀ ex,QTs (blk X N scope C s₀ H₀ ex) E0 ifs c) (he:∀C s₀ H₀ ex,QE (blk X N scope C s₀ H₀ ex) E0 elt te)
  (hy:X.N[i]?=vB y:=by rfl) (hx:Loc X.env.scope y:=by first|exact Or.inl rfl|exact Or.inr rfl) (hf:X.fn y=vD∨X.env.scope.names.lookup y=vB .local:=by first|exact .inl rfl|exact .inr rfl|assumption)
  (hsw:swapsWith (.ListComp elt [⟨tg,iter,ifs,0⟩] scope pos) (vB (.Name y py)) spos.line X.env=pure vD:=by rfl)
  (hs:∀x,foldedSetIterable iter X.env x=pure x:=by intro _;rfl):QS X E0 (.Assign [.Name y py] (.ListComp elt [⟨tg,iter,ifs,0⟩] scope pos) spos) (sAs (Ex it nt caps g c te) (gV i)):=by
 intro vA s σ H W I h;obtain⟨a,S,G,hk,rfl,sm,r,h⟩:=h;have h0:=Ge h;rw[exec_Assign_Name_used _ _ _ _ hsw];refine vW (wpAny_standAt (vW ?_))
 show vX _ X.A (do let _<-comprehension (.ListComp elt [⟨tg,iter,ifs,0⟩] scope pos) scope X.env _ (newList []) vE (eval iter X.env) (vB (assign (.Name y py) X.env))) _ _ s
 refine vW (vj (wpAny_comprehension_free (use:=vB (assign (.Name y py) X.env)) (Q:=λ_ s'=>SP X vA W .next s') rfl hs (ZEG (cs.cells I.ok)) cs.kind cs.names
  (thn (hi vA s σ a.H _ I ⟨a,S,G,hk,rfl,sm,r,(ZCi h0).imp λ_ _ z=>z⟩) λxv s1 h1=>thn h1 λitv s2 h2=>?_)) (λ_ s' hq=>v4 (v4 hq)) λ_ _ e=>e)
 obtain⟨i0,fp,tn,J,H2,rfl,I2,T,t0,f2,b,d,G1,rfl,x,sb,rJ,_,h1⟩:=h2
 refine ZBo hc cs hg gk hts he I2 (x.k.trans hk) sb (r.mono x) T t0 f2 rJ h1 (RR:=λacc C=>compPost (xS X.prog X.w) X.A X.xe (vB (assign (.Name y py) X.env)) (λ_ s'=>SP X vA W .next s') acc C) ?_
 intro D C s' b' vs Ia hD hCle hDC ⟨m,hn⟩ hCn hq;show vX _ X.A (assign (.Name y py) X.env (.ref D)) _ _ _;refine wpAny_assign_Name (ZFl Ia hN hy hx (v:=.ref D) rfl (λs'' I'' hch=>?_) hf);obtain⟨a',hsb',ha'⟩:=hch;have hCa:C≠a':=by
  rintro rfl;rcases ha' with rfl|ha'
  ·exact absurd (zV I2.lt hCle) (zS _)
  ·obtain⟨v,o,e',_⟩:=I2.cell _ _ ha';exact absurd (zV (zY e') hCle) (zS _)
 refine⟨m,hn.sameBut hsb' hCa,λh' hsb=>⟨_,_,letGo I2 I'' hCle ?_ hsb,?_⟩⟩
 ·rw[Ay (Ne.symm hDC)];exact hCn
 ·obtain⟨b3,d3,G3,e3,x3,s3,q3,_,h3⟩:=hq;rw[<-e3];exact h3 b3 _ (Ext.refl b3) s3 ((r.mono x3).set i q3)
end
def Ib:D->DH->R D
 |.int i,G=>.ok (.int (-i)) G
 |_,_=>.bad
noncomputable def Jj:D->Bool
 |.non=>vD
 |_=>vE
def Uj:D->D->DH->R D
 |d,.non,G=>.ok (.bl (Jj d)) G
 |_,_,_=>.bad
def Ly:D->D->DH->R D
 |d,.non,G=>.ok (.bl (!Jj d)) G
 |_,_,_=>.bad
section
variable{X:Cx}{E:XK}{a b:xQ}{ta tb:DE}{pos:Pos}
theorem Ni:UnR X (unaryOp .USub) (lR1 X.K E Ib):=λvA s σ H x v Q I rx h=>by
 obtain⟨a,G,d,hk,rfl,sm,rd,q⟩:=h;cases d with
 |int i=>exact ZOC vA s σ a.H x v Q I rx ⟨i,rd,q a _ (Ext.refl a) sm rfl⟩
 |_=>exact q.elim
theorem My{op:UnaryOp}{f:D->DH->R D}(ho:UnR X (unaryOp op) (lR1 X.K E f))(ha:QE X E a ta):QE X E (.UnaryOp op a pos) (dUn f ta):=(ZI0 ho ha).mono λσ H Q h=>by obtain⟨a,S,G,hk,rfl,s,r,h⟩:=h;refine⟨a,S,G,hk,rfl,s,r,(Ei h).imp ?_⟩;rintro v _ ⟨b,d,G1,rfl,x,s1,q,-,h1⟩;exact⟨b,G1,d,x.k.trans hk,rfl,s1,q,h1⟩
theorem Yh{n:String}(hg:Gl X x)(hm:X.mg x=vC)(hv:xA x=vB (.type n))(hn:x≠"__name__":=by decide)(hd:(x==("__debug__":Str))=vE:=by decide):QE X E (.Name x pos) (dC (.ty n)):=
 (ZHD (v:=.ty n) hg hm hv rfl hn hd).mono λσ H Q h=>Ms h λ_ _=>rfl
theorem ZEr{a:Wd}{x:V}(rd:Rep a d x):decide (x=V.non)=Jj d:=by
 cases d with
 |non=>rw[show x=V.non from rd];rfl
 |bl _=>rw[show x=V.bl _ from rd];rfl
 |int _=>rw[show x=V.int _ from rd];rfl
 |str _=>rw[show x=V.str _ from rd];rfl
 |ty _=>rw[show x=V.ty _ from rd];rfl
 |tup _=>obtain⟨p,vs,rfl,_⟩:=rd;rfl
 |fl _=>obtain⟨p,vs,rfl,_⟩:=rd;rfl
 |ref _=>rw[rd.2];rfl
theorem o_is:OpR X (xE .Is) (lR2 X.K E Uj):=G7 ZJm λa G d e x y Q hk s rd re q=>by
 cases e with
 |non=>exact⟨re,by rw[ZEr rd];cases d<;>exact q a _ (Ext.refl a) s rfl⟩
 |_=>cases d<;>exact q.elim
theorem Qy:OpR X (xE .IsNot) (lR2 X.K E Ly):=G7 ZKR λa G d e x y Q hk s rd re q=>by
 cases e with
 |non=>exact⟨re,by rw[ZEr rd];cases d<;>exact q a _ (Ext.refl a) s rfl⟩
 |_=>cases d<;>exact q.elim
end
theorem ZAr:xA "isinstance"=vB (.builtin "isinstance"):=by decide +kernel
theorem ZM1:xA "max"=vB (.builtin "max"):=by decide +kernel
theorem Vr:xA "min"=vB (.builtin "min"):=by decide +kernel
theorem Gq:xA "len"=vB (.builtin "len"):=by decide +kernel
theorem ZI2:xA "int"=vB (.type "int"):=by decide +kernel
theorem ZLk:xA "bool"=vB (.type "bool"):=by decide +kernel
theorem Lf:xA "tuple"=vB (.type "tuple"):=by decide +kernel
theorem Q8:xA "list"=vB (.type "list"):=by decide +kernel
noncomputable def Lz:xJ->Bool | .local=>vD|_=>vE
noncomputable def K9:xJ->Bool | .cell=>vD|_=>vE
noncomputable def Jo:xJ->Bool | .free=>vD|_=>vE
noncomputable def isK(p:xJ->Bool):Option xJ->Bool|some k=>p k|none=>vE
theorem ZIf{k:xJ}(h:Lz k=vD):k=.local:=by cases k<;>first|rfl|cases h
theorem ZMh{k:xJ}(h:K9 k=vD):k=.cell:=by cases k<;>first|rfl|cases h
theorem ZDB{k:xJ}(h:Jo k=vD):k=.free:=by cases k<;>first|rfl|cases h
theorem W7{p:xJ->Bool}{k:xJ}(hp:∀k',p k'=vD->k'=k){o:Option xJ}(h:isK p o=vD):o=vB k:=by
 cases o with
 |none=>cases h
 |some k'=>rw[hp _ h]
def ZDh(dn:List (Str×xJ))(N0 N:List Str)(names:List (Str×xJ))(nt:Nat)(caps:List Nat):Bool:=
 names.all (λy=>(!Lz y.2||isK Lz (names.lookup y.1)) && !K9 y.2&&(!Jo y.2||isK K9 (dn.lookup y.1)||isK Jo (dn.lookup y.1)))&&decide N.Nodup&&decide (N.length=nt+caps.length) &&
 (zk caps.length).all λk=>match caps[k]? with
  |some j=>match N0[j]? with
   |some x=>decide (N[nt+k]?=vB x)&&isK Jo (names.lookup x)
   |none=>vE
  |none=>vD
theorem Hk{X:Cx}{N0 N:List Str}{nt:Nat}{caps:List Nat}{dn:List (Str×xJ)}(hk:scope.kind=.function:=by rfl)(hdn:∀x,X.env.kindOf x=dn.lookup x:=by intro _;rfl)(hN:X.N=N0:=by rfl)
  (h:ZDh dn N0 N scope.names nt caps=vD:=by decide +kernel):CompSc X N scope nt caps:=by
 unfold ZDh at h;rw[zB,zB,zB]at h;obtain⟨⟨⟨h1,h2⟩,h3⟩,h4⟩:=h;rw[qA]at h1 h4;have key:=λ(y:Str×xJ)(hy:y∈scope.names)=>(by have:=h1 y hy;rw[zB,zB]at this;exact this:((!Lz y.2||isK Lz (scope.names.lookup y.1))=vD/\(!K9 y.2)=vD)/\(!Jo y.2||isK K9 (dn.lookup y.1)||isK Jo (dn.lookup y.1))=vD)
 refine⟨hk,λy hy hl=>?_,λy hy hl=>?_,λy hy hl=>?_,of_decide_eq_true h2,of_decide_eq_true h3,λk j hj=>?_⟩
 ·have:=(key y hy).1.1;rw[hl]at this;exact W7 (p:=Lz) (λ_ h=>ZIf h) (by have t:(vE||isK Lz (scope.names.lookup y.1))=vD:=this;simpa using t)
 ·have:=(key y hy).1.2;rw[hl]at this;exact absurd this (by decide)
 ·have:=(key y hy).2;rw[hl,j8]at this;rw[hdn];rcases this with h|h
  ·exact .inl (W7 (p:=K9) (λ_ h=>ZMh h) (by have t:(vE||isK K9 (dn.lookup y.1))=vD:=h;simpa using t))
  ·exact .inr (W7 (p:=Jo) (λ_ h=>ZDB h) h)
 ·have hk':k<caps.length:=(zH.mp hj).1;have:=h4 k (qY.mpr hk');rw[hj]at this;dsimp only at this;cases e:N0[j]? with
  |none=>rw[e]at this;cases this
  |some x=>
   rw[e]at this;dsimp only at this;rw[zB]at this;exact⟨x,by rw[hN];exact e,of_decide_eq_true this.1,W7 (p:=Jo) (λ_ h=>ZDB h) this.2⟩
section
section
variable{X:Cx}{vA:List (jT×Obj)}{σ:St}{H:Hp}{s:xW}
theorem ZIZ{xs:List V}(I:Inv X vA σ H s)(h:H p=vB (.lst xs)):∃o,Inv X vA σ (upd H p (.frz o (.lst xs))) s:=by
 obtain⟨hl,its,n,r,e⟩:=I.hok p _ h;have nt:∀b(u:HO),H b=vB u->u≠ .lst xs->b≠p:=λb u q d z=>by subst z;rw[h]at q;exact d (Option.some.inj q).symm
 refine⟨_,I.un (t':=s.toks) (H':=upd H p (.frz {cls:=.type "list",data:=.seq its.toArray n} (.lst xs))) ⟨λb o q _ _ _=>q,λb o q _ _ _=>⟨o.slots,q⟩,λb o q z _=>?_,λb o q _=>⟨o,q⟩,λb ys q=>?_,λb o u q=>?_,λb ps q=>⟨#[],?_⟩⟩ ?_⟩
 ·rw[Ay (λz'=>by subst z';rw[h]at z;cases z)];exact z
 ·rw[Ay (nt b _ q (by intro z;cases z))];exact q
 ·rw[Ay (nt b _ q (by intro z;cases z))];exact q
 ·rw[Ay (nt b _ q (by intro z;cases z)),Array.append_empty];exact q
 ·intro b u q;by_cases hb:b=p
  ·subst hb;rw[Eo]at q;cases q;exact⟨e,hl,its,n,r,e⟩
  ·rw[Ay hb]at q;exact(I.hok b u q).stay (λc v _ z=>z) (λc z=>by rw[Ay (nt c _ z (by intro z;cases z))];exact z) λc ys z=>by rw[Ay (nt c _ z (by intro z;cases z))];exact z
def Fz(P:jT->Prop)(H H':Hp):Prop:=∀p,(H' p=H p/\(∀vs,H p=vB (.lst vs)->¬P p))∨∃o vs,P p/\H p=vB (.lst vs)/\H' p=vB (.frz o (.lst vs))
theorem ZDS(I:Inv X vA σ H s)(m:Nat->jT)(n:Nat):∀k:Nat,∃H',Inv X vA σ H' s/\Fz (λp=>∃i,n<=i/\i<n+k/\p=m i) H H'
 |0=>⟨H,I,λp=>.inl ⟨rfl,λ_ _ ⟨i,h1,h2,_⟩=>by lia⟩⟩
 | k + 1=>by
  obtain⟨H',I',F⟩:=ZDS I m n k;have keep:(∀vs,H' (m (n+k))≠vB (.lst vs))->Fz (λp=>∃i,n<=i/\i<n+(k+1)/\p=m i) H H':=λno p=>by
   rcases F p with⟨e,z⟩|⟨o,vs,⟨i,h1,h2,h3⟩,e1,e2⟩
   ·refine .inl ⟨e,λvs e1 ⟨i,h1,h2,h3⟩=>?_⟩;by_cases hi:i<n+k
    ·exact z vs e1 ⟨i,h1,hi,h3⟩
    ·have:i=n+k:=by lia
     subst this;subst h3;exact no vs (e.trans e1)
   ·exact .inr ⟨o,vs,⟨i,h1,by lia,h3⟩,e1,e2⟩
  cases hH:H' (m (n+k))with
  |none=>exact⟨H',I',keep λvs z=>by rw[hH]at z;cases z⟩
  | some u=>
   cases u with
   | lst vs=>
    obtain⟨o,I2⟩:=ZIZ I' hH;refine⟨_,I2,λp=>?_⟩;by_cases hp:p=m (n+k)
    ·subst hp;rcases F (m (n+k))with⟨e,z⟩|⟨o',vs',_,e1,e2⟩
     ·exact .inr ⟨o,vs,⟨n+k,by lia,by lia,rfl⟩,e.symm.trans hH,Eo⟩
     ·rw[hH]at e2;cases e2
    ·rcases F p with⟨e,z⟩|⟨o',vs',⟨i,h1,h2,h3⟩,e1,e2⟩
     ·refine .inl ⟨by rw[Ay hp];exact e,λvs' e1 ⟨i,h1,h2,h3⟩=>?_⟩;by_cases hi:i<n+k
      ·exact z vs' e1 ⟨i,h1,hi,h3⟩
      ·have:i=n+k:=by lia
       subst this;exact hp h3
     ·exact .inr ⟨o',vs',⟨i,h1,by lia,h3⟩,e1,by rw[Ay hp];exact e2⟩
   |_=>exact⟨H',I',keep λvs z=>by rw[hH]at z;cases z⟩
end
noncomputable def Il(f:D->Option D):List D->Option (List D)
 |[]=>vB []
 |d::r=>match f d,Il f r with
  |some d',vB r'=>vB (d'::r')
  |_,_=>vC
def Df(G:DH)(n:Nat):Nat->D->Option D
 |0,_=>vC
 | k+1,d=>if bel n d=vD then vB d else match d with
  |.ref i=>match G[i]? with
   |some (.lst xs)=>(Il (Df G n k) xs).map .fl
   |_=>vC
  |.tup xs=>(Il (Df G n k) xs).map .tup
  |.fl xs=>(Il (Df G n k) xs).map .fl
  |_=>vC
open Classical in
def freeze(G:DH)(r:R D):R D:=match r with
 | .ok d G'=>if G'.take G.length=G then(match Df G' G.length 9 d with
   |some d'=>.ok d' G
   |none=>.ok d G')else .ok d G'
 |r=>r
def Bu(t:DE):DE:=λS G=>freeze G (t S G)
structure CutF (b c:Wd) (n:Nat):Prop where
 k:c.K=b.K
 n:c.n=n
 m:c.m=b.m
 tup:∀p xs,b.H p=vB (.tup xs)->c.H p=vB (.tup xs)
 frz:∀p o u,b.H p=vB (.frz o u)->c.H p=vB (.frz o u)
theorem CutF.sqT{c:Wd}{n:Nat}(x:CutF b c n){xs:List V}(h:SqT b.K b.H p xs):SqT c.K c.H p xs:=by
 rcases h with(h|⟨o,h⟩)|h
 ·exact .inl (.inl (x.tup _ _ h))
 ·exact .inl (.inr ⟨o,x.frz _ _ _ h⟩)
 ·exact .inr (by rw[x.k];exact h)
theorem CutF.fzL{c:Wd}{n:Nat}(x:CutF b c n){xs:List V}(h:FzL b.K b.H p xs):FzL c.K c.H p xs:=by
 rcases h with⟨o,h⟩|h
 ·exact .inl ⟨o,x.frz _ _ _ h⟩
 ·exact .inr (by rw[x.k];exact h)
mutual
theorem Rep.Hf{c:Wd}{n:Nat}(x:CutF b c n):∀{d:D}{v:V},Rep b d v->bel n d=vD->Rep c d v
 |.non,_,h,_=>h
 |.bl _,_,h,_=>h
 |.int _,_,h,_=>h
 |.str _,_,h,_=>h
 |.ty _,_,h,_=>h
 |.tup ds,v,h,q=>by obtain⟨p,vs,e,t,r⟩:=h;simp only[_D.bel]at q;exact⟨p,vs,e,x.sqT t,Reps.Hf x r q⟩
 |.fl ds,v,h,q=>by obtain⟨p,vs,e,t,r⟩:=h;simp only[_D.bel]at q;exact⟨p,vs,e,x.fzL t,Reps.Hf x r q⟩
 |.ref i,v,h,q=>by obtain⟨l,e⟩:=h;simp only[_D.bel]at q;have q':=of_decide_eq_true q;exact⟨by rw[x.n];exact q',by rw[x.m];exact e⟩
theorem Reps.Hf{c:Wd}{n:Nat}(x:CutF b c n):∀{ds:List D}{vs:List V},Reps b ds vs->bels n ds=vD->Reps c ds vs
 |[],_,h,_=>h
 |d::ds,vs,h,q=>by obtain⟨v,r,e,h1,h2⟩:=h;simp only[_D.bels,zB]at q;exact⟨v,r,e,Rep.Hf x h1 q.1,Reps.Hf x h2 q.2⟩
end
theorem Rw{c:Wd}{f:D->Option D}(hf:∀d d' v,f d=vB d'->Rep b d v->Rep c d' v):∀{ds ds':List D}{vs:List V},Il f ds=vB ds'->Reps b ds vs->Reps c ds' vs
 |[],ds',vs,e,h=>by cases e;exact h
 |d::ds,ds',vs,e,h=>by
  obtain⟨v,r,rfl,h1,h2⟩:=h;unfold Il at e;split at e
  ·rename_i d' r' e1 e2;cases e;exact⟨v,r,rfl,hf _ _ _ e1 h1,Rw hf e2 h2⟩
  ·cases e
theorem ZE4{c:Wd}{n:Nat}(s:Sim b G')(x:CutF b c n)(hz:∀i,n<=i->i<b.n->∀vs,b.H (b.m i)=vB (.lst vs)->∃o,c.H (b.m i)=vB (.frz o (.lst vs))):∀(k:Nat)(d d':D)(v:V),Df G' n k d=vB d'->Rep b d v->Rep c d' v
 |0,d,d',v,e,h=>by cases e
 | k + 1,d,d',v,e,h=>by
  have ih:=ZE4 s x hz k;unfold Df at e;split at e
  ·rename_i hb;cases e;exact h.Hf x hb
  ·rename_i hb;cases d with
   | ref i=>
    dsimp only at e;split at e
    ·rename_i xs hx;rw[zN]at e;obtain⟨ys,e1,rfl⟩:=e;obtain⟨vs,e2,r2⟩:=s.obj i _ hx;obtain⟨il,rfl⟩:=h;have hi:n<=i:=by simp only[_D.bel,decide_eq_true_eq]at hb;lia
     obtain⟨o,e3⟩:=hz i hi il vs e2;exact⟨_,vs,rfl,.inl ⟨o,e3⟩,Rw ih e1 r2⟩
    ·cases e
   |tup xs=>
    dsimp only at e;rw[zN]at e;obtain⟨ys,e1,rfl⟩:=e;obtain⟨p,vs,rfl,t,r⟩:=h;exact⟨p,vs,rfl,x.sqT t,Rw ih e1 r⟩
   |fl xs=>
    dsimp only at e;rw[zN]at e;obtain⟨ys,e1,rfl⟩:=e;obtain⟨p,vs,rfl,t,r⟩:=h;exact⟨p,vs,rfl,x.fzL t,Rw ih e1 r⟩
   |_=>cases e
theorem ZCQ{vA:List (jT×Obj)}{sh:xW}(s:Sim a G)(hG:G'.take G.length=G)(x:Ext a b)(sb:Sim b G')(I:Inv X vA σ b.H sh):
  ∃c:Wd,Inv X vA σ c.H sh/\Ext a c/\Sim c G/\CutF b c a.n/\∀(k:Nat)(d d':D)(v:V),Df G' G.length k d=vB d'->Rep b d v->Rep c d' v:=by
 have hlen:∀i o,G[i]?=vB o->G'[i]?=vB o:=λi o e=>by have hi:i<G.length:=(zH.mp e).1;rw[<-hG,jY hi]at e;exact e
 obtain⟨H',I',F⟩:=ZDS I b.m a.n (b.n-a.n);have hbn:a.n+(b.n-a.n)=b.n:=by have:=x.n;lia
 rw[hbn]at F;have ct:∀p(u:HO),(∀vs,u≠ .lst vs)->b.H p=vB u->H' p=vB u:=λp u nu e=>by
  rcases F p with⟨e1,_⟩|⟨o,vs,_,e1,_⟩
  ·exact e1.trans e
  ·rw[e]at e1;exact absurd (Option.some.inj e1) (nu vs)
 have tabs:∀p,TabOk b.H p->TabOk H' p:=λp t=>t.mono (λp ps e=>ct p _ (by intro _ z;cases z) e) λp o u e=>ct p _ (by intro _ z;cases z) e
 have cc:CutF b ⟨b.K,a.n,b.m,H'⟩ a.n:=⟨rfl,rfl,rfl,λp xs e=>ct p _ (by intro _ z;cases z) e,λp o u e=>ct p _ (by intro _ z;cases z) e⟩;have old:∀i,i<a.n->H' (b.m i)=b.H (b.m i):=λi hi=>by
  rcases F (b.m i)with⟨e1,_⟩|⟨o,vs,⟨j,h1,h2,h3⟩,e1,e2⟩
  ·exact e1
  ·have:=sb.inj i j (zV hi x.n) h2 h3;lia
 refine⟨⟨b.K,a.n,b.m,H'⟩,I',⟨x.k,zW _,x.m,λp xs e=>cc.tup p xs (x.tup p xs e),λp o u e=>cc.frz p o u (x.frz p o u e),λp t=>tabs p (x.tab p t)⟩,⟨s.len,λi j hi hj=>sb.inj i j (zV hi x.n) (zV hj x.n),λi o e=>?_,λi hi=>?_⟩,cc,λk d d' v hd rb=>?_⟩
 ·show ORep ⟨b.K,a.n,b.m,H'⟩ o (H' (b.m i));rw[old i (s.lt e)];have q:=sb.obj i o (hlen i o e);have lb:=(s.obj i o e).Jf;cases o with
  |lst ds=>obtain⟨vs,e1,r1⟩:=q;exact⟨vs,e1,r1.Hf cc lb⟩
  |dct kvs=>obtain⟨us,e1,k1,r1⟩:=q;exact⟨us,e1,k1,r1.Hf cc lb⟩
  |ins c fs=>obtain⟨C,dx,us,n1,e1,k1,r1⟩:=q;exact⟨C,dx,us,n1,e1,k1,r1.Hf cc lb⟩
  |tab C m=>obtain⟨c1,P1,e1,t1⟩:=q;exact⟨c1,P1,e1,tabs _ t1⟩
  |exc c fs=>
   obtain⟨C,oe,u,vs,n1,e1,k1,k2,z⟩:=q;refine⟨C,oe,u,vs,n1,e1,k1,k2,?_⟩;rcases z with z|⟨dx,o,us,e2,f2,k3,r1⟩
   ·exact .inl z
   ·exact .inr ⟨dx,o,us,e2,cc.frz _ _ _ f2,k3,r1.Hf cc lb⟩
  |gone=>trivial
 ·show H' (b.m i)≠vC;rw[old i hi];exact sb.tr i (zV hi x.n)
 ·rw[s.len]at hd;refine ZE4 sb cc (λi h1 h2 vs e=>?_) k d d' v hd rb;rcases F (b.m i)with⟨e1,z⟩|⟨o,vs',_,e1,e2⟩
  ·exact absurd ⟨i,h1,h2,rfl⟩ (z vs e)
  ·rw[e]at e1;cases e1;exact⟨o,e2⟩
theorem ZKf(s:Sim a G)(h:out E a (freeze G r) Q):
  out E a r λv H=>∀(vA:List (jT×Obj))(σ:St)(sh:xW),Inv X vA σ H sh->∃H',Inv X vA σ H' sh/\Q v H':=by
 cases r with
 |err e G'=>exact h
 |bad=>exact h
 | ok d G'=>
  intro b v x sb rb vA σ sh I;unfold freeze at h;dsimp only at h;split at h
  ·rename_i hG;split at h
   ·rename_i d' hd;obtain⟨c,Ic,xc,sc,cc,hr⟩:=ZCQ s hG x sb I;exact⟨c.H,Ic,h c v xc sc (hr _ _ _ _ hd rb)⟩
   ·exact⟨_,I,h b v x sb rb⟩
  ·exact⟨_,I,h b v x sb rb⟩
theorem Cg(ha:QE X E e t):QE X E e (Bu t):=λvA s σ H Q I h=>by
 obtain⟨a,S,G,hk,rfl,sm,r,h⟩:=h;refine thn (ha vA s σ a.H _ I ⟨a,S,G,hk,rfl,sm,r,ZKf (X:=X) sm h⟩) λu s' ⟨v,H',I',rv,q⟩=>?_
 obtain⟨H2,I2,q2⟩:=q vA σ s' I';exact⟨v,H2,I2,rv,q2⟩
theorem ZHv {st:xK} (ha:QS X E st (sAs t (gV i))):QS X E st (sAs (Bu t) (gV i)):=λvA s σ H W I h=>by
 obtain ⟨a,S,G,hk,rfl,sm,r,h⟩:=h;have h2:Br E a (sAs t (gV i) S G) {W with nx:=λσ H=>∀(vA:List (jT×Obj))(sh:xW),Inv X vA σ H sh->∃H',Inv X vA σ H' sh/\W.nx σ H'}:=by
  unfold sAs Bu at h;unfold sAs;cases ht:t S G with
  |err e G'=>rw[ht]at h;exact h
  |bad=>rw[ht]at h;exact h
  | ok d G'=>
   rw[ht]at h;intro b σ' x sb rb vA sh I;unfold freeze at h;dsimp only at h;split at h
   ·rename_i hG;split at h
    ·rename_i d' hd;obtain⟨c,Ic,xc,sc,cc,hr⟩:=ZCQ sm hG x sb I;refine⟨c.H,Ic,h c σ' xc sc ⟨?_,λj e he=>?_⟩⟩
     ·rw[jz,<-rb.len,jz]
     ·rw[qL]at he;by_cases hij:i=j
      ·subst hij;rw[if_pos rfl]at he;by_cases hl:i<S.length
       ·rw[if_pos hl]at he;have e1:d'=e:=by simpa using he
        subst e1;obtain⟨v,e2,rv⟩:=rb.get i d (by rw[qL,if_pos rfl,if_pos hl]);exact⟨v,e2,hr _ _ _ _ hd rv⟩
       ·rw[if_neg hl]at he;cases he
      ·rw[if_neg hij]at he;obtain⟨v,e2,rv⟩:=rb.get j e (by rw[qL,if_neg hij];exact he);obtain⟨v',_,rv'⟩:=r.get j e he;exact⟨v,e2,rv.Hf cc rv'.bel⟩
    ·exact⟨_,I,h b σ' x sb rb⟩
   ·exact⟨_,I,h b σ' x sb rb⟩
 refine thn (ha vA s σ a.H _ I ⟨a,S,G,hk,rfl,sm,r,h2⟩) λf s' hf=>?_
 cases f with
 |next=>
  obtain⟨σ',H',I',q⟩:=hf;obtain⟨H2,I2,q2⟩:=q vA s' I';exact⟨σ',H2,I2,q2⟩
 |brk=>exact hf
 |cont=>exact hf
 |ret u=>exact hf
end
section
variable{S:DSt}{G:DH}
@[simp]theorem ZBY:dV i S G=(match S[i]? with |some (vB d)=>.ok d G|_=>.bad):=id rfl
@[simp]theorem ev_C:dC d S G=.ok d G:=id rfl
@[simp]theorem ev_Op{a b:DE}:dOp f a b S G=(a S G).bind λx G1=>(b S G1).bind λy G2=>f x y G2:=id rfl
@[simp]theorem ev_Un{f:D->DH->R D}{a:DE}:dUn f a S G=(a S G).bind f:=id rfl
@[simp]theorem ev_Nil:Ad S G=.ok [] G:=id rfl
@[simp]theorem ZPN{a:DE}{r:DA}:Ab a r S G=(a S G).bind λx G1=>(r S G1).bind λxs G2=>.ok (x::xs) G2:=id rfl
@[simp]theorem ev_Fn{f:List D->DH->R D}{t:DA}:dFn f t S G=(t S G).bind f:=id rfl
@[simp]theorem ZPd:Di t S G=tidy G (t S G):=id rfl
@[simp]theorem ev_Frz:Bu t S G=freeze G (t S G):=id rfl
@[simp]theorem ev_asB{k:Bool}:asB (.bl k) G=.ok k G:=id rfl
@[simp]theorem ev_Tst:Bl t S G=(t S G).bind asB:=id rfl
@[simp]theorem ev_Or{t u:DB}:dOr t u S G=(t S G).bind λk G1=>if k=vD then .ok vD G1 else u S G1:=id rfl
@[simp]theorem ev_Not{t:DB}:ZBO t S G=(t S G).bind λk G1=>.ok (!k) G1:=id rfl
@[simp]theorem ZPr{u:DE}:Qc t u S G=(t S G).bind λx G1=>(asB x G1).bind λk G2=>if k=vD then u S G2 else .ok (.bl vE) G2:=id rfl
@[simp]theorem ev_OrV{u:DE}:Xr t u S G=(t S G).bind λx G1=>(asB x G1).bind λk G2=>if k=vD then .ok (.bl vD) G2 else u S G2:=id rfl
@[simp]theorem ZP7:Zw t S G=(t S G).bind λx G1=>(asB x G1).bind λk G2=>.ok (.bl (!k)) G2:=id rfl
@[simp]theorem ev_If{u:DE}:dIf c t u S G=(c S G).bind λk G1=>if k=vD then t S G1 else u S G1:=id rfl
@[simp]theorem ZPV{g:D->D->DH->R D}{a b c:DE}:V5 f g a b c S G=(a S G).bind λx G1=>(b S G1).bind λy G2=>(f x y G2).bind λz G3=>(asB z G3).bind λk G4=>
 if k=vD then(c S G4).bind λw G5=>g y w G5 else .ok (.bl vE) G4:=id rfl
@[simp]theorem ev_sNx:sNx S G=.nx S G:=id rfl
noncomputable def SR.then(r:SR)(u:DS):SR:=match r with
 |.nx S1 G1=>u S1 G1
 |r=>r
@[simp]theorem ZMQ{t:DS}:Ai t u S G=(t S G).then u:=id rfl
@[simp]theorem ZLG:(SR.nx S G).then u=u S G:=id rfl
@[simp]theorem ZPY:(SR.rt d G).then u=.rt d G:=id rfl
@[simp]theorem ZPg{x:Xn}:(SR.err x G).then u=.err x G:=id rfl
@[simp]theorem ev_sEx:sEx t S G=(t S G).toS λ_ G1=>.nx S G1:=id rfl
@[simp]theorem ev_sRt:sRt t S G=(t S G).toS λd G1=>.rt d G1:=id rfl
@[simp]theorem ev_sIf{t:DS}:sIf c t u S G=(c S G).toS λk G1=>if k=vD then t S G1 else u S G1:=id rfl
@[simp]theorem ev_sAs:sAs t g S G=(t S G).toS λd G1=>(g d S G1).toS λS2 G2=>.nx S2 G2:=id rfl
@[simp]theorem ev_sAu:sAu i t f S G=(match S[i]? with
 |some (vB x)=>(t S G).toS λy G1=>(f x y G1).toS λz G2=>.nx (S.set i (vB z)) G2
 |_=>.bad):=id rfl
@[simp]theorem ZPH{it:DI}{b:DS}:El it g b S G=(it S G).toS λJ G1=>(match J with
 |.pure xs=>Bm g b xs S G1
 |.mt i=>match G1[i]? with
  |some (.lst xs)=>forM i g b xs.length 0 S G1
  |_=>.bad
 |.fn n f=>Cq f g b n 0 S G1):=id rfl
@[simp]theorem ZKW:Fq t S G=(t S G).bind Ff:=id rfl
@[simp]theorem ZPh{f:List D->DH->R ItD}{t:DA}:Dr f t S G=(t S G).bind f:=id rfl
@[simp]theorem Ea:gV i d S G=.ok (S.set i (vB d)) G:=id rfl
@[simp]theorem Oc:Bf [] S G=.ok S G:=id rfl
@[simp]theorem Pg{t:DG}{u:DGs}{r:List D}:Al t u (d::r) S G=(t d S G).bind λS1 G1=>u r S1 G1:=id rfl
@[simp]theorem Q3{n:Nat}{t:DGs}:Bd n t (.tup ds) S G=if ds.length=n then t ds S G else .bad:=id rfl
@[simp]theorem ev_gIx{o i:DE}{v:D}:gIx o i v S G=(o S G).bind λo G1=>(i S G1).bind λi G2=>(Jt o i v G2).bind λ_ G3=>.ok S G3:=id rfl
@[simp]theorem ev_MtL{f:D->List D->DH->R D}{o:DE}{t:DA}:Hj f o t S G=(o S G).bind λx G1=>if isL x G1=vD then(t S G1).bind λxs G2=>f x xs G2 else .bad:=id rfl
@[simp]theorem ZNF{it:DI}{caps:List Nat}:Ex it nt caps g c te S G=(it S G).bind λJ G1=>(match J with
 |.pure xs=>Ed g c te (Bb nt caps S) xs G1
 |.mt i=>match G1[i]? with
  |some (.lst xs)=>Dt i g c te (Bb nt caps S) xs.length 0 G1
  |_=>.bad
 |.fn n f=>Cm f g c te (Bb nt caps S) n 0 G1).bind Aw:=id rfl
@[simp]theorem Z3:Ci S G=.ok vD G:=id rfl
@[simp]theorem Eb{k:DSt->DH->SR}:aft (.nx S G) k=k S G:=id rfl
@[simp]theorem aft_rt{k:DSt->DH->SR}:aft (.rt d G) k=.rt d G:=id rfl
@[simp]theorem ZN5{k:DSt->DH->SR}{x:Xn}:aft (.err x G) k=.err x G:=id rfl
theorem Hy{b:DS}:Bm g b [] S G=.nx S G:=id rfl
theorem Et{b:DS}{x:D}:Bm g b (x::xs) S G=(g x S G).toS λS1 G1=>aft (b S1 G1) (Bm g b xs):=id rfl
theorem ZHr:Ed g c te S [] G=.ok [] G:=id rfl
theorem Xa{x:D}:Ed g c te S (x::xs) G=(g x S G).bind λS1 G1=>(c S1 G1).bind λk G2=>
   if k=vD then(te S1 G2).bind λd G3=>(Ed g c te S xs G3).bind λds G4=>.ok (d::ds) G4 else Ed g c te S xs G2:=id rfl
noncomputable def SR.ret(r:SR):R D:=match r with
 |.nx _ G'=>.ok .non G'
 |.rt d G'=>.ok d G'
 |.err x G'=>.err x G'
 |_=>.bad
@[simp]theorem ZJV:(SR.nx S G).ret=.ok .non G:=id rfl
@[simp]theorem ret_rt:(SR.rt d G).ret=.ok d G:=id rfl
@[simp]theorem ZPJ{x:Xn}:(SR.err x G).ret=.err x G:=id rfl
theorem Bh{np nl:Nat}{b:DS}:Be np nl b ds G=if ds.length=np then tidy G (b (ds.map vB++zx nl vC) G).ret else .bad:=id rfl
end
section
variable{n:Nat}{G:DH}
@[simp]theorem ZPq:bel n .non=vD:=by simp[_D.bel]
@[simp]theorem bel_bl{b:Bool}:bel n (.bl b)=vD:=by simp[_D.bel]
@[simp]theorem ZJK{b:Int}:bel n (.int b)=vD:=by simp[_D.bel]
@[simp]theorem ZPe{b:Str}:bel n (.str b)=vD:=by simp[_D.bel]
@[simp]theorem ZPW{b:List D}:bel n (.tup b)=bels n b:=by simp[_D.bel]
@[simp]theorem bel_fl{b:List D}:bel n (.fl b)=bels n b:=by simp[_D.bel]
@[simp]theorem ZPp{b:Nat}:bel n (.ref b)=decide (b<n):=by simp[_D.bel]
@[simp]theorem ZPQ:bels n []=vD:=by simp[_D.bels]
@[simp]theorem ZLt:bels n (d::ds)=(bel n d&&bels n ds):=by simp[_D.bels]
theorem ZOq:bels n ds=vD↔∀d∈ds,bel n d=vD:=by
 induction ds with
 |nil=>simp
 |cons d ds ih=>simp[ih]
@[simp]theorem ZLO{es:List D}:bels n (ds++es)=(bels n ds&&bels n es):=by
 induction ds with
 |nil=>simp
 |cons d ds ih=>simp[ih,Bool.and_assoc]
theorem G8{f:α->D}{xs:List α}(h:∀x∈xs,bel n (f x)=vD):bels n (xs.map f)=vD:=by rw[ZOq];intro d hd;obtain⟨x,hx,rfl⟩:=zF.mp hd;exact h x hx
@[simp]theorem ZCa{xs:List Int}:bels n (xs.map D.int)=vD:=G8 λ_ _=>ZJK
theorem Ce(h:bel G.length d=vD):tidy G (.ok d G)=.ok d G:=by unfold tidy;simp[h]
theorem W2(h:bel G.length d=vD):tidy G (.ok d (G++L))=.ok d G:=by unfold tidy;simp[h]
theorem Wy(L:DH)(hk:L[k]?=vB (.lst ds))(h:bels G.length ds=vD):tidy G (.ok (.ref (G.length+k)) (G++L))=.ok (.ref G.length) (G++[.lst ds]):=by
 unfold tidy;have e:(G++L)[G.length+k]?=vB (.lst ds):=by rw[zI (by lia)];simpa using hk
 simp[e,Jf,h]
theorem Fi(h:bels G.length ds=vD):tidy G (.ok (.ref G.length) (G++ .lst ds::L))=.ok (.ref G.length) (G++[.lst ds]):=Wy (.lst ds::L) (k:=0) rfl h
theorem ZNS(h:bel G.length d=vD):freeze G (.ok d G)=.ok d G:=by unfold freeze;simp[h,Df]
theorem Nm{n:Nat}:∀{ds:List D},bels n ds=vD->Il (Df G' n (k+1)) ds=vB ds
 |[],_=>rfl
 |d::ds,h=>by simp only[ZLt,zB]at h;unfold Il;rw[Nm h.2];simp[Df,h.1]
theorem ZGa(L:DH)(hk:L[k]?=vB (.lst ds))(h:bels G.length ds=vD):freeze G (.ok (.ref (G.length+k)) (G++L))=.ok (.fl ds) G:=by
 unfold freeze;have e:(G++L)[G.length+k]?=vB (.lst ds):=by rw[zI (by lia)];simpa using hk
 have m:Df (G++L) G.length 9 (.ref (G.length+k))=vB (.fl ds):=by unfold Df;simp[e,Nm h]
 simp[m]
theorem H8(h:bels G.length ds=vD):freeze G (.ok (.ref G.length) (G++ .lst ds::L))=.ok (.fl ds) G:=ZGa (.lst ds::L) (k:=0) rfl h
theorem Hl(L:DH)(k:Nat):(G++L)[G.length+k]?=L[k]? :=by rw[zI (by lia)];simp
theorem Cj(L:DH):(G++L)[G.length]?=L[0]? :=Hl L 0
theorem Ox(L:DH)(k:Nat)(o:DO):(G++L).set (G.length+k) o=G++L.set k o:=by rw[jF _ _ (by lia)];simp
theorem Ek(L:DH)(o:DO):(G++L).set G.length o=G++L.set 0 o:=Ox L 0 o
theorem ZBn{lo:Int}:Do lo 0=[]:=id rfl
theorem ZFn{lo:Int}{n:Nat}:Do lo (n+1)=.int lo::Do (lo+1) n:=by
 unfold Do;rw[qO,zG,j0]
 congr 1
 ·simp
 ·apply qQ;intro k _;simp only[Function.comp]
  congr 1
  lia
end
section
variable{G:DH}{i j:Int}{x y:Str}{k l:Bool}
@[simp]theorem ev_add:By (.int i) (.int j) G=.ok (.int (i+j)) G:=id rfl
@[simp]theorem ev_ip:Jz (.int i) (.int j) G=.ok (.int (i+j)) G:=id rfl
@[simp]theorem ev_sub:Dy (.int i) (.int j) G=.ok (.int (i-j)) G:=id rfl
theorem ZBf{n:Nat}(h:0<n)(h2:n.log2<9000):Hh (.int i) (.int (n:Int)) G=.ok (.int (i/n)) G:=if_pos ⟨by lia,h2⟩
theorem log2_small{n:Nat}(h:n<10^100):n.log2<9000:=by
 by_cases hn:n=0
 ·subst hn;decide
 ·rw[Nat.log2_lt hn];exact Nat.lt_trans h (by decide)
@[simp]theorem ZPk{n:Nat}[NeZero n](h:n<10^100):Hh (.int i) (.int (no_index (OfNat.ofNat n))) G=.ok (.int (i/OfNat.ofNat n)) G:=
 if_pos ⟨Int.ofNat_lt.mpr (Nat.pos_of_ne_zero (NeZero.ne n)),log2_small h⟩
@[simp]theorem ev_mod:Dj (.int i) (.int j) G=if 0<j then .ok (.int (i%j)) G else .bad:=id rfl
@[simp]theorem ev_pow:K7 (.int i) (.int j) G=if 0<=j/\j<=1000000/\i.natAbs<18446744073709551616 then .ok (.int (i^j.toNat)) G else .bad:=id rfl
@[simp]theorem ev_lt:Ny (.int i) (.int j) G=.ok (.bl (decide (i<j))) G:=id rfl
@[simp]theorem ev_le:Qd (.int i) (.int j) G=.ok (.bl (decide (i<=j))) G:=id rfl
@[simp]theorem ev_gt:Mw (.int i) (.int j) G=.ok (.bl (decide (j<i))) G:=id rfl
@[simp]theorem ev_ge:ZBh (.int i) (.int j) G=.ok (.bl (decide (j<=i))) G:=id rfl
@[simp]theorem ev_eq:Ej (.int i) (.int j) G=.ok (.bl (decide (i=j))) G:=id rfl
@[simp]theorem ev_ne:Gx (.int i) (.int j) G=.ok (.bl (!decide (i=j))) G:=id rfl
@[simp]theorem ev_eqS:Ej (.str x) (.str y) G=.ok (.bl (decide (x=y))) G:=id rfl
@[simp]theorem ev_neg:Ib (.int i) G=.ok (.int (-i)) G:=id rfl
@[simp]theorem ev_is:Uj d .non G=.ok (.bl (Jj d)) G:=by cases d<;>exact id rfl
@[simp]theorem ZPf:Ly d .non G=.ok (.bl (!Jj d)) G:=by cases d<;>exact id rfl
@[simp]theorem ZQC:Jj .non=vD:=id rfl
@[simp]theorem ZP2:Jj (.int i)=vE:=id rfl
@[simp]theorem ZPK:Jj (.tup ds)=vE:=id rfl
@[simp]theorem ev_max:Wa [.int i,.int j] G=.ok (.int (max i j)) G:=by
 show R.ok (D.int (if j>i then j else i)) G=_
 congr 2
 split <;> lia
@[simp]theorem ev_min:O3 [.int i,.int j] G=.ok (.int (min i j)) G:=by
 show R.ok (D.int (if j<i then j else i)) G=_
 congr 2
 split <;> lia
@[simp]theorem ZPX:Bk (.tup ds) G=vB ds:=id rfl
@[simp]theorem ZPv:Bk (.fl ds) G=vB ds:=id rfl
@[simp]theorem Yz{n:Nat}:Bk (.ref n) G=(match G[n]? with |some (.lst xs)=>vB xs|_=>vC):=id rfl
@[simp]theorem ZPZ:Dc [.tup ds] G=.ok (.int ds.length) G:=id rfl
@[simp]theorem ZP5:Dc [.fl ds] G=.ok (.int ds.length) G:=id rfl
@[simp]theorem ZPa{n:Nat}:Dc [.ref n] G=(match G[n]? with |some (.lst xs)=>.ok (.int xs.length) G|_=>.bad):=by
 unfold Dc;simp only[Yz];cases G[n]? with
 |none=>rfl
 |some o=>cases o<;>rfl
@[simp]theorem ev_ixT:Ah (.tup ds) (.int i) G=(match atI ds i with |some v=>.ok v G|none=>.bad):=id rfl
@[simp]theorem ev_ixF:Ah (.fl ds) (.int i) G=(match atI ds i with |some v=>.ok v G|none=>.bad):=id rfl
@[simp]theorem ev_ixR{n:Nat}:Ah (.ref n) (.int i) G=(match G[n]? with |some (.lst xs)=>(match atI xs i with |some v=>.ok v G|none=>.bad)|_=>.bad):=by
 unfold Ah;simp only[Yz];cases G[n]? with
 |none=>rfl
 |some o=>cases o<;>rfl
theorem Fv{n k:Nat}(h:k<n):ixN n (k:Int)=vB k:=by unfold ixN;rw[if_pos (by lia),if_pos (by lia)];simp
theorem ZGj{xs:List α}{k:Nat}{d:α}(h:xs[k]?=vB d):atI xs (k:Int)=vB d:=by unfold atI;rw[Fv (zH.mp h).1];exact h
theorem Er{xs:List α}{j:Int}{k:Nat}{d:α}(e:j=k)(h:xs[k]?=vB d):atI xs j=vB d:=by subst e;exact ZGj h
theorem ZDv{xs:List α}{j:Int}(h0:j<0)(h: -(xs.length:Int)<=j):atI xs j=vB (xs[(j+xs.length).toNat]'(by lia)):=by unfold atI ixN;rw[if_neg (by lia),if_pos h];exact zZ (by lia)
@[simp]theorem atI_0{a:α}{xs:List α}:atI (a::xs) 0=vB a:=Er (k:=0) rfl rfl
@[simp]theorem atI_1{a b:α}{xs:List α}:atI (a::b::xs) 1=vB b:=Er (k:=1) rfl rfl
@[simp]theorem atI_2{a b c:α}{xs:List α}:atI (a::b::c::xs) 2=vB c:=Er (k:=2) rfl rfl
@[simp]theorem atI_3{a b c d:α}{xs:List α}:atI (a::b::c::d::xs) 3=vB d:=Er (k:=3) rfl rfl
@[simp]theorem atI_4{a b c d e:α}{xs:List α}:atI (a::b::c::d::e::xs) 4=vB e:=Er (k:=4) rfl rfl
@[simp]theorem atI_5{a b c d e f:α}{xs:List α}:atI (a::b::c::d::e::f::xs) 5=vB f:=Er (k:=5) rfl rfl
@[simp]theorem atI_6{a b c d e f g:α}{xs:List α}:atI (a::b::c::d::e::f::g::xs) 6=vB g:=Er (k:=6) rfl rfl
@[simp]theorem ZPn:Bj ds G=if ds.length<=1000000 then .ok (.tup ds) G else .bad:=id rfl
@[simp]theorem ZP3:Aw ds G=if ds.length<=1000000 then .ok (.ref G.length) (G++[.lst ds])else .bad:=id rfl
@[simp]theorem ZPw:Gs [.fl ds] G=.ok (.tup ds) G:=id rfl
@[simp]theorem ZPS{n:Nat}:Gs [.ref n] G=(match G[n]? with |some (.lst xs)=>.ok (.tup xs) G|_=>.bad):=by
 unfold Gs;simp only[Yz];cases G[n]? with
 |none=>rfl
 |some o=>cases o<;>rfl
@[simp]theorem ev_itT:Ff (.tup ds) G=.ok (.pure ds) G:=id rfl
@[simp]theorem ev_itF:Ff (.fl ds) G=.ok (.pure ds) G:=id rfl
@[simp]theorem ZPO:rng1 [.int j] G=if inR j then .ok (.pure (Do 0 j.toNat)) G else .bad:=id rfl
theorem O8(h0: -1000000000<=i)(h:i<=1000000000):inR i:=⟨by lia,by lia⟩
@[simp]theorem ZPb:isL (.fl ds) G=vD:=id rfl
@[simp]theorem ZPs{n:Nat}:isL (.ref n) G=(match G[n]? with |some (.lst _)=>vD|_=>vE):=id rfl
@[simp]theorem ev_app{n:Nat}:Ih (.ref n) [d] G=(match G[n]? with |some (.lst xs)=>if xs.length<1000000 then .ok .non (G.set n (.lst (xs++[d])))else .bad|_=>.bad):=id rfl
@[simp]theorem ZPu{n:Nat}:Jt (.ref n) (.int i) d G=(match G[n]? with |some (.lst xs)=>(match ixN xs.length i with |some j=>.ok .non (G.set n (.lst (xs.set j d)))|none=>.bad)|_=>.bad):=id rfl
@[simp]theorem ZP0:Hn [d,.ty "int"] G=(match tyD G d with |some .int=>.ok (.bl vD) G|some .bl=>.ok (.bl vD) G|some _=>.ok (.bl vE) G|none=>.bad):=by
 unfold Hn;dsimp only;cases tyD G d with
 |none=>rfl
 |some t=>cases t<;>rfl
@[simp]theorem ZPU:Hn [d,.ty "bool"] G=(match tyD G d with |some .bl=>.ok (.bl vD) G|some _=>.ok (.bl vE) G|none=>.bad):=by
 unfold Hn;dsimp only;cases tyD G d with
 |none=>rfl
 |some t=>cases t<;>rfl
@[simp]theorem ZPc:Hn [d,.ty "list"] G=(match tyD G d with |some .lst=>.ok (.bl vD) G|some _=>.ok (.bl vE) G|none=>.bad):=by
 unfold Hn;dsimp only;cases tyD G d with
 |none=>rfl
 |some t=>cases t<;>rfl
end
section
variable{c:Prop}[Decidable c]
@[simp]theorem ite_ok{a b:α}:(if c then R.ok a G else R.ok b G)=R.ok (if c then a else b) G:=by split <;> rfl
end
def Ez:D->Option Key
 |.int i=>vB (.inl i)
 |.str x=>vB (.inr x)
 |_=>vC
section
variable{X:Cx}{E:XK}
end
section
variable{S:DSt}{G:DH}{n:Nat}{kvs:List (Key×D)}
end
section
noncomputable def okD:Nat->D->Bool
 |0,_=>vE
 |_+1,.non=>vD
 |_+1,.int _=>vD
 |_+1,.str _=>vD
 |n+1,.tup ds=>ds.all (okD n)
 |n+1,.fl ds=>ds.all (okD n)
 |_+1,_=>vE
theorem Wi{f:D->D->Option Bool}{P:D->Prop}(hf:∀x y,P x->P y->∃b,f x y=vB b/\(b=vD↔x=y)):∀{xs ys:List D},(∀x∈xs,P x)->(∀y∈ys,P y)->
  ∃b,eqZ f xs ys=vB b/\(b=vD↔xs.take ys.length=ys.take xs.length)
 |[],ys,_,_=>⟨vD,by cases ys<;>rfl,by simp⟩
 |x::xs,[],_,_=>⟨vD,rfl,by simp⟩
 |x::xs,y::ys,hx,hy=>by obtain⟨b,e1,h1⟩:=hf x y (hx x (by simp)) (hy y (by simp));obtain⟨c,e2,h2⟩:=Wi hf (λz hz=>hx z (zJ _ hz)) (λz hz=>hy z (zJ _ hz));refine⟨b&&c,by simp[eqZ,e1,e2],?_⟩;simp[h1,h2]
theorem Yi{G:DH}:∀(n:Nat)(d e:D),okD n d=vD->okD n e=vD->∃b,eqD n G d e=vB b/\(b=vD↔d=e)
 |0,d,e,h,_=>by cases h
 | n+1,d,e,h1,h2=>by
  have ih:=Yi (G:=G) n;cases d with
  |bl _=>simp[okD]at h1
  |ty _=>simp[okD]at h1
  |ref _=>simp[okD]at h1
  | tup xs=>
   cases e with
   |bl _=>simp[okD]at h2
   |ty _=>simp[okD]at h2
   |ref _=>simp[okD]at h2
   |tup ys=>
    simp only[okD,qA]at h1 h2;obtain⟨b,e1,h3⟩:=Wi ih (λx hx=>h1 x hx) (λx hx=>h2 x hx);refine⟨b&&xs.length==ys.length,by simp[eqD,view,e1],?_⟩;simp only[zB,h3,beq_iff_eq,D.tup.injEq];constructor
    ·rintro⟨e,hl⟩;rw[<-hl,jG]at e;rw[e,hl,jG]
    ·rintro rfl;exact⟨rfl,rfl⟩
   |_=>exact⟨vE,by simp[eqD,view],by simp⟩
  | fl xs=>
   cases e with
   |bl _=>simp[okD]at h2
   |ty _=>simp[okD]at h2
   |ref _=>simp[okD]at h2
   |fl ys=>
    simp only[okD,qA]at h1 h2;by_cases hl:xs.length=ys.length
    ·obtain⟨b,e1,h3⟩:=Wi ih (λx hx=>h1 x hx) (λx hx=>h2 x hx);refine⟨b,by simp[eqD,view,hl,e1],?_⟩;rw[h3,<-hl,jG,hl,jG];simp
    ·exact⟨vE,by simp[eqD,view,hl],by simp;rintro rfl;exact hl rfl⟩
   |_=>exact⟨vE,by simp[eqD,view],by simp⟩
  |non=>cases e<;>first|(simp[okD]at h2;done)|exact⟨_,rfl,by simp[eqV]⟩
  |int i=>cases e<;>first|(simp[okD]at h2;done)|exact⟨_,rfl,by simp[eqV]⟩
  |str i=>cases e<;>first|(simp[okD]at h2;done)|exact⟨_,rfl,by simp[eqV]⟩
open Classical in
theorem ZMw{e:D}(h1:okD 30 d=vD)(h2:okD 30 e=vD):Gx d e G=.ok (.bl (!decide (d=e))) G:=by
 obtain⟨b,e1,h⟩:=Yi (G:=G) 30 d e h1 h2;unfold Gx;rw[e1];cases b with
 |true=>simp[h.mp rfl]
 |false=>simp[show¬d=e from λz=>z9 (h.mpr z)]
theorem ZLu(h1:okD 30 d=vD):Gx d d G=.ok (.bl vE) G:=by rw[ZMw h1 h1];simp
theorem K4{n:Nat}(h:∀d∈ds,okD n d=vD):okD (n+1) (.tup ds)=vD:=by simpa[okD]using h
theorem ZLD{n:Nat}(h:∀d∈ds,okD n d=vD):okD (n+1) (.fl ds)=vD:=by simpa[okD]using h
end
def cutD{α:Type}(xs:List α)(lo hi:Option Int):List α:=(xs.drop (HT.sIx xs.length 0 lo)).take (HT.sIx xs.length xs.length hi-HT.sIx xs.length 0 lo)
def Ou(z:Str)(lo hi:Option Int):Str:=⟨(cutD z.cps.toList lo hi).toArray⟩
theorem ZIM(xs:List α)(lo hi:Option Int):(cutD xs lo hi).length<=xs.length:=by unfold cutD;rw[j1,jE];lia
def Lj(t:Option DE)(S:DSt)(G:DH):R (Option Int):=match t with
 |none=>.ok vC G
 |some t=>(t S G).bind λd G1=>match d with
  |.int i=>.ok (vB i) G1
  |_=>.bad
def Qu(d:D)(lo hi:Option Int)(G:DH):R D:=match d with
 |.str z=>if z.length<=1000000 then .ok (.str (Ou z lo hi)) G else .bad
 |.tup xs=>.ok (.tup (cutD xs lo hi)) G
 |d=>match G9 d G with
  |some xs=>.ok (.ref G.length) (G++[.lst (cutD xs lo hi)])
  |none=>.bad
def dSl(e:DE)(lo hi:Option DE):DE:=λS G=>(e S G).bind λd G1=>(Lj lo S G1).bind λl G2=>(Lj hi S G2).bind λh G3=>Qu d l h G3
theorem W8(n:Nat)(v:Int):((HT.sIx n n (vB v):Nat):Int)=max 0 (min (if v<0 then v+(n:Int)else v) n)/\((HT.sIx n 0 (vB v):Nat):Int)=max 0 (min (if v<0 then v+(n:Int)else v) n):=by
 unfold HT.sIx;by_cases hv:v<0
 ·simp only[if_pos hv];lia
 ·simp only[if_neg hv];lia
theorem ZNe(xs:Array Nat)(i k:Nat):(zk k).filterMap (λm=>xs[i+m]?)=(xs.toList.drop i).take k:=by
 induction k generalizing i with
 |zero=>simp
 | succ k ih=>
  rw[qO,zU];have e:(List.map Nat.succ (zk k)).filterMap (λm=>xs[i+m]?)=(zk k).filterMap (λm=>xs[i+1+m]?):=by
   rw[qq]
   congr 1
   funext m;simp only[Function.comp]
   congr 1
   lia
  rw[e,ih (i+1)];by_cases hi:i<xs.size
  ·have h1:xs[i+0]?=vB xs[i]:=by simp[hi]
   rw[h1];have h2:xs.toList.drop i=xs[i]::xs.toList.drop (i+1):=by rw[zM (by simpa using hi)];simp
   rw[h2];simp
  ·have h1:xs[i+0]?=vC:=by simp;lia
   rw[h1];simp only;rw[zO (by simp;lia),zO (by simp;lia)];simp
theorem ZLd(x:Str)(lo hi:Option Int):Txt.slice x lo hi=Ou x lo hi:=by
 have hlen:x.length=x.cps.toList.length:=by simp[Str.length]
 have key:(Builtin.Str.strSliceIndices lo hi 1 x.length).filterMap (x.cps[·]?)=cutD x.cps.toList lo hi:=by
  have e1:∀(v:Option Int),(match v with |none=>(0:Int)|some i=>max 0 (min (if i<0 then i+(x.length:Int)else i) x.length))=((HT.sIx x.length 0 v:Nat):Int):=λv=>by
   cases v with
   |none=>rfl
   |some i=>exact(W8 x.length i).2.symm
  have e2:∀(v:Option Int),(match v with |none=>(x.length:Int)|some i=>max 0 (min (if i<0 then i+(x.length:Int)else i) x.length))=((HT.sIx x.length x.length v:Nat):Int):=λv=>by
   cases v with
   |none=>rfl
   |some i=>exact(W8 x.length i).1.symm
  have e3:Builtin.Str.strSliceIndices lo hi 1 x.length=sliceRange ((HT.sIx x.length 0 lo:Nat):Int) ((HT.sIx x.length x.length hi:Nat):Int) 1:=by
   rw[<-e1 lo,<-e2 hi];unfold Builtin.Str.strSliceIndices
   cases lo<;>cases hi<;>simp
  rw[e3];unfold sliceRange cutD;rw[qq,<-hlen];generalize HT.sIx x.length 0 lo=i;generalize HT.sIx x.length x.length hi=j;have e4:((λa=>x.cps[a]?) ∘ λ(k:Nat)=>((i:Int)+1*(k:Int)).toNat)=λk=>x.cps[i+k]? :=by
   funext k;simp only[Function.comp]
   congr 1
   lia
  have e5:(if(1:Int)>0 then if(i:Int)<(j:Int)then((j:Int)-i+1-1)/1 else 0 else if(i:Int)>(j:Int)then((i:Int)-j-1-1) / -1 else 0).toNat=j-i:=by
   rw[if_pos (by lia)];split
   ·rw[Int.ediv_one];lia
   ·lia
  rw[e4,e5];exact ZNe x.cps i (j-i)
 unfold Txt.slice Ou;split
 ·rename_i h;have h':(Builtin.Str.strSliceIndices lo hi 1 x.length).length=x.length:=by simpa using h
  have hsz:(cutD x.cps.toList lo hi).length=x.cps.toList.length∨(cutD x.cps.toList lo hi).length<x.cps.toList.length:=by have:=ZIM x.cps.toList lo hi;lia
  have hall:(cutD x.cps.toList lo hi).length=x.cps.toList.length:=by
   have e3:(Builtin.Str.strSliceIndices lo hi 1 x.length).length=HT.sIx x.length x.length hi-HT.sIx x.length 0 lo:=by
    have e1:∀(v:Option Int),(match v with |none=>(0:Int)|some i=>max 0 (min (if i<0 then i+(x.length:Int)else i) x.length))=((HT.sIx x.length 0 v:Nat):Int):=λv=>by
     cases v with
     |none=>rfl
     |some i=>exact(W8 x.length i).2.symm
    have e2:∀(v:Option Int),(match v with |none=>(x.length:Int)|some i=>max 0 (min (if i<0 then i+(x.length:Int)else i) x.length))=((HT.sIx x.length x.length v:Nat):Int):=λv=>by
     cases v with
     |none=>rfl
     |some i=>exact(W8 x.length i).1.symm
    have e3:Builtin.Str.strSliceIndices lo hi 1 x.length=sliceRange ((HT.sIx x.length 0 lo:Nat):Int) ((HT.sIx x.length x.length hi:Nat):Int) 1:=by
     rw[<-e1 lo,<-e2 hi];unfold Builtin.Str.strSliceIndices
     cases lo<;>cases hi<;>simp
    rw[e3];unfold sliceRange;rw[qJ,List.length_range];generalize HT.sIx x.length 0 lo=i;generalize HT.sIx x.length x.length hi=j;rw[if_pos (by lia)];split
    ·rw[Int.ediv_one];lia
    ·lia
   have hj:HT.sIx x.length x.length hi<=x.length:=HT.ZCr _ _ (zW _) hi;unfold cutD;rw[j1,jE,<-hlen];lia
  have hs:(cutD x.cps.toList lo hi).Sublist x.cps.toList:=(List.take_sublist _ _).trans (List.drop_sublist _ _);rw[hs.eq_of_length hall]
 ·rw[key]
section
variable{X:Cx}{E:XK}
theorem ZOr:SlR X (λx lo hi H Q=>∃z:Str,x=.str z/\z.length<=sizeLine/\Q (.str (Ou z lo hi)) H):=by
 intro vA s σ H x v vl vu lo hi sl Q I rx hs pl pu h;obtain⟨z,rfl,hz,q⟩:=h;obtain⟨t,rfl⟩:=rx;refine⟨"str",_,PySem.F.slot_str_getitem.lookup,typeIs_str _ _ _,?_⟩
 have fin:∀(l u:Option (Int×Tok)),vl=partValue l->vu=partValue u->l.map (·.1)=lo->u.map (·.1)=hi->vX (xS X.prog X.w) X.A (getItem (.str z t) (.ref sl)) (EP X vA σ Q) X.xe s:=by
  rintro l u rfl rfl rfl rfl
  refine wpAny_getItem_str_slice (l:=l) (u:=u) (st:=vC) (show s.heap.IsSlice sl l u vC from hs) rfl ?_
  have e:∀Q',(Txt.slice z (l.map (·.1)) (u.map (·.1))).length<=sizeLine/\(∀t' k,Q' (.str (Txt.slice z (l.map (·.1)) (u.map (·.1))) t') {s with toks:=k})->(sliceMade z t l u vC).post Q' s:=λQ' hq=>post_val_or_str hq
  refine e _ ⟨zC (Txt.slice_le z _ _) hz,λt' k=>?_⟩;rw[ZLd];exact⟨.str _,H,I.tok k,⟨t',rfl⟩,q⟩
 cases pl with
 |none=>cases pu with
  |none=>exact fin vC vC rfl rfl rfl rfl
  |int j tj=>exact fin vC (vB (j,tj)) rfl rfl rfl rfl
 |int i ti=>cases pu with
  |none=>exact fin (vB (i,ti)) vC rfl rfl rfl rfl
  |int j tj=>exact fin (vB (i,ti)) (vB (j,tj)) rfl rfl rfl rfl
theorem ZJQ{prog:xX}{E:xY->xW->Prop}{t sl:jT}{items:Array xY}{vl vu:xY}{lo hi:Option Int}{Q:xY->xW->Prop}(ht:IsTup s.heap t items)(hs:s.heap.IsSliceOf sl vl vu .none)(pl:IsPart vl lo)(pu:IsPart vu hi)
  (hw:HT.sIx items.size 0 lo=0/\HT.sIx items.size items.size hi=items.size) (h:Q (.ref t) s):vX (xS prog w) A (getItem (.ref t) (.ref sl)) Q E s:=by
 obtain⟨os,hos,hcs,hds⟩:=id hs;have hTs:s.TypeIs (.ref sl) "slice":=⟨os,hos,hcs⟩;unfold getItem
 try with_reducible refine vz ?_
 first|refine vW (v4 ?_)|skip
 refine vW (wpAny_sequenceKey ht.typeIs (by decide) ?_);refine vW (vK (name:=Str.ofString "__getitem__") ht.typeIs PyProof.Rows.slot_tuple_getitem
  (vY PyProof.Rows.slot_tuple_getitem ht.typeIs entry_tuple_getitem ?_ (args_tuple_getitem _ _)))
 show vX _ _ (Builtin.Tuple.tupleItemsOf (.ref t) >>=_) _ _ s;refine vW (tupleItemsOf_ ht ?_);refine vW (wpAny_typeOf hTs ?_);rw[if_pos (by decide)];refine vW (HT.ZDa hs pl pu ?_);have hyes:(((HT.sIx items.size 0 lo:Nat):Int)==0&&(1:Int)==1&&(HT.sIx items.size items.size hi-HT.sIx items.size 0 lo)==items.size)=vD:=by rw[hw.1,hw.2];simp
 show vX _ _ (if(((HT.sIx items.size 0 lo:Nat):Int)==0&&(1:Int)==1&&(HT.sIx items.size items.size hi-HT.sIx items.size 0 lo)==items.size)=vD then _ else _) _ _ s;rw[if_pos hyes];refine vW ?_;unfold Builtin.Tuple.tupleIsExact;refine vW (wpAny_typeOf ht.typeIs (v4 ?_));rw[if_pos (by decide)];exact vW (wpAny_rule (v4 ⟨_,rfl,v4 h⟩))
theorem ZJc:SlR X (λx lo hi H Q=>∃a xs,x=.ref a/\SqT X.K H a xs/\(HT.sIx xs.length 0 lo=0/\HT.sIx xs.length xs.length hi=xs.length)/\Q (.ref a) H):=by
 intro vA s σ H x v vl vu lo hi sl Q I rx hs pl pu h;obtain⟨a,xs,rfl,hx,hw,q⟩:=h;cases rx;obtain⟨its,r,ht,hz⟩:=I.tuple hx;have hlen:its.toArray.size=xs.length:=by rw[zK];exact r.length.symm
 exact⟨"tuple",_,PyProof.Rows.slot_tuple_getitem.lookup,ht.typeIs,ZJQ ht hs pl pu (by rw[hlen];exact hw) ⟨.ref a,H,I,rfl,q⟩⟩
def Mr(E:XK)(a:Wd)(r:R (Option Int))(Q:Option Int->Hp->Prop):Prop:=match r with
 |.ok k G=>∀(b:Wd),Ext a b->Sim b G->Q k b.H
 |.err x G=>XOk E a x G
 |.bad=>False
def QO(X:Cx)(E:XK)(e:Option xQ)(t:Option DE):Prop:=PO X e (λσ H Q=>∃(a:Wd)(S:DSt)(G:DH),a.K=X.K/\a.H=H/\Sim a G/\RepS a S σ/\Mr E a (Lj t S G) Q)
theorem _root_._L.PO.mono{e:Option xQ}{t t':TO}(h:PO X e t)(w:∀σ H Q,t' σ H Q->t σ H Q):PO X e t':=λvA s σ H Q I q=>h vA s σ H Q I (w σ H Q q)
theorem ZCf:QO X E vC vC:=ZJY.mono λσ H Q h=>by obtain⟨a,S,G,hk,rfl,s,r,h⟩:=h;exact h a (Ext.refl a) s
theorem ZFS(he:QE X E e t):QO X E (vB e) (vB t):=(ZMJ he).mono λσ H Q h=>by
 obtain⟨a,S,G,hk,rfl,s,r,h⟩:=h;refine⟨a,S,G,hk,rfl,s,r,?_⟩
 have h':Mr E a ((t S G).bind λd G1=>match d with | .int i=>.ok (vB i) G1|_=>.bad) Q:=h
 cases ht:t S G with
 |ok d G1=>
  rw[ht]at h';intro b v x sb rv;cases d with
  |int i=>exact⟨i,rv,h' b x sb⟩
  |_=>exact h'.elim
 |err x G1=>rw[ht]at h';exact h'
 |bad=>rw[ht]at h';exact h'
theorem Reps.cutD(r:Reps a ds vs)(lo hi:Option Int):Reps a (_D.cutD ds lo hi) (Js vs lo hi):=by unfold _D.cutD Js;rw[r.length];exact(r.drop _).take _
theorem Mr.imp{r:R (Option Int)}{Q Q':Option Int->Hp->Prop}(h:Mr E a r Q)(w:∀v H,Q v H->Q' v H):Mr E a r Q':=by
 cases r with
 |ok d G=>exact λb x s=>w _ _ (h b x s)
 |err e G=>exact h
 |bad=>exact h
theorem ZFc{r:R (Option Int)}{f:Option Int->DH->R D}(h:out E a (r.bind f) Q):
  Mr E a r (λk H=>∃(b:Wd)(G:DH),b.H=H/\Ext a b/\Sim b G/\r=.ok k G/\out E b (f k G) Q):=by
 cases r with
 |ok d G=>exact λb x s=>⟨b,G,rfl,x,s,rfl,out.mono x h⟩
 |err e G=>exact h
 |bad=>exact h
theorem ZFG{lo hi:Option xQ}{tl th:Option DE}{p2 pos:Pos}(he:QE X E e te)(hl:QO X E lo tl)(hu:QO X E hi th):QE X E (.Subscript e (.Slice lo hi vC p2) pos) (dSl te tl th):=
 (ZOc (ZJG.or (ZIY.or (ZJc.or ZOr))) he hl hu).mono λσ H Q h=>by
 obtain⟨a,S,G,hk,rfl,s,r,h⟩:=h;refine⟨a,S,G,hk,rfl,s,r,(Ei h).imp ?_⟩;rintro v _ ⟨b,d,G1,rfl,x,s1,q,_,h1⟩;refine⟨b,S,G1,x.k.trans hk,rfl,s1,r.mono x,(ZFc h1).imp ?_⟩;rintro l _ ⟨c,G2,rfl,y,s2,_,h2⟩;refine⟨c,S,G2,y.k.trans (x.k.trans hk),rfl,s2,(r.mono x).mono y,(ZFc h2).imp ?_⟩;rintro u _ ⟨c3,G3,rfl,y3,s3,_,h3⟩;have hk3:=y3.k.trans (y.k.trans (x.k.trans hk));have q3:=(q.mono y).mono y3
 have lst:out E c3 (match G9 d G3 with |some xs=>.ok (.ref G3.length) (G3++[.lst (cutD xs l u)])|none=>.bad) Q->rSlL X.K v l u c3.H Q:=λh3=>by
  split at h3
  ·rename_i xs hx;obtain⟨p,vs,e1,q1,r1⟩:=Pb s3 q3 hx;exact⟨p,vs,e1,by rw[<-hk3];exact q1,λp hp=>K5 s3 (Reps.cutD r1 l u) h3 p hp⟩
  ·exact h3.elim
 cases d with
 | str z=>
  have h4:out E c3 (if z.length<=1000000 then .ok (.str (Ou z l u)) G3 else .bad) Q:=h3;split at h4
  ·rename_i hl
   cases(show v=V.str z from q3)
   exact .inr (.inr (.inr ⟨z,rfl,zC hl size6,h4 c3 _ (Ext.refl _) s3 rfl⟩))
  ·exact h4.elim
 | tup xs=>
  have h4:out E c3 (.ok (.tup (cutD xs l u)) G3) Q:=h3;obtain⟨p,vs,e1,q1,r1⟩:=q3;by_cases hw:HT.sIx vs.length 0 l=0/\HT.sIx vs.length vs.length u=vs.length
  ·refine .inr (.inr (.inl ⟨p,vs,e1,by rw[<-hk3];exact q1,hw,h4 c3 _ (Ext.refl _) s3 ⟨p,vs,rfl,q1,?_⟩⟩));have:cutD xs l u=xs:=by unfold cutD;rw[r1.length,hw.1,hw.2,<-r1.length];simp
   rw[this];exact r1
  ·exact .inr (.inl ⟨p,vs,e1,by rw[<-hk3];exact q1,hw,λp hp=>Yc s3 (Reps.cutD r1 l u) h4 p hp⟩)
 |fl xs=>exact .inl (lst h3)
 |ref i=>exact .inl (lst h3)
 |non=>exact(show False from h3).elim
 |bl _=>exact(show False from h3).elim
 |int _=>exact(show False from h3).elim
 |ty _=>exact(show False from h3).elim
section
variable{name:Str}{id:String}{f:D->List D->DH->R D}{o e:xQ}{es:List xQ}{to:DE}{t:DA}{apos cpos:Pos}
end
end
section
variable{S:DSt}{G:DH}
@[simp]theorem ev_Sl{e:DE}{lo hi:Option DE}:dSl e lo hi S G=(e S G).bind λd G1=>(Lj lo S G1).bind λl G2=>(Lj hi S G2).bind λh G3=>Qu d l h G3:=id rfl
@[simp]theorem ZPP:Ke [.fl xs] G=.ok (.ref G.length) (G++[.lst xs]):=id rfl
@[simp]theorem ZP1{ys:List D}:By (.fl xs) (.fl ys) G=if xs.length+ys.length<=1000000 then .ok (.ref G.length) (G++[.lst (xs++ys)])else .bad:=id rfl
end
end _D
namespace _D
open PySem PySem.Spec _L
open PyProof.Rows hiding St
open Builtin.Str
variable{g:DG}{c:DB}{te:DE}{S:DSt}{G:DH}
section
variable(p:Nat->Bool)(m:Nat)
end
def CStep(g:DG)(c:DB)(te:DE)(S:DSt)(G:DH)(x:D)(r:Option D):Prop:=
 ∃S1,g x S G=.ok S1 G/\((c S1 G=.ok vE G/\r=vC)∨(c S1 G=.ok vD G/\∃d,te S1 G=.ok d G/\r=vB d))
theorem ZBA{F:D->Option D}:∀{xs:List D},(∀x∈xs,CStep g c te S G x (F x))->Ed g c te S xs G=.ok (xs.filterMap F) G
 |[],_=>rfl
 |x::xs,h=>by
  obtain⟨S1,h1,h2⟩:=h x (by simp);have ih:=ZBA (λy hy=>h y (zJ _ hy));rw[Xa,h1];rcases h2 with⟨h2,h3⟩|⟨h2,d,h3,h4⟩
  ·simp[h2,h3,ih,zU]
  ·simp[h2,h3,h4,ih,zU]
theorem ZEq{i:Nat}{F:D->Option D}{xs:List D}(hG:G[i]?=vB (.lst xs))(h:∀x∈xs,CStep g c te S G x (F x)):
  ∀(n j:Nat),j+n=xs.length->Dt i g c te S n j G=.ok ((xs.drop j).filterMap F) G
 |0,j,hj=>by
  unfold Dt;rw[hG];simp only;rw[if_pos (by lia),zO (by lia)]
  rfl
 |n+1,j,hj=>by
  have hlt:j<xs.length:=by lia
  have ih:=ZEq hG h n (j+1) (by lia);obtain⟨S1,h1,h2⟩:=h xs[j] (qx hlt);unfold Dt;rw[hG];simp only;rw[zZ hlt];simp only[h1,R.Hr];rw[zM hlt,zU];rcases h2 with⟨h2,h3⟩|⟨h2,d,h3,h4⟩
  ·simp[h2,h3,ih]
  ·simp[h2,h3,h4,ih]
theorem ZFP{i:Nat}{F:D->Option D}{xs:List D}(hG:G[i]?=vB (.lst xs))(h:∀x∈xs,CStep g c te S G x (F x)):
  Dt i g c te S xs.length 0 G=.ok (xs.filterMap F) G:=ZEq hG h xs.length 0 (by lia)
end _D
namespace _D
open PySem PySem.Spec _L
open PyProof.Rows hiding St
variable{h h':Heap}{p z:jT}{k i:Nat}{old:xY}{os:List xY}
inductive Src where
 |l (a:jT)
 |t (a:jT)
variable{sr:Src}{l:List (Src×jT)}
noncomputable def Src.itn:Src->String
 |.l _=>"list_iterator"
 |.t _=>"tuple_iterator"
noncomputable def Src.adr:Src->jT
 |.l a=>a
 |.t a=>a
def Src.it(h:Heap)(p:jT)(k:Nat)(sr:Src):Prop:=∃o,h.get? p=vB o/\o.cls=.type sr.itn/\o.data=.fields #[.ref sr.adr,.int k 0]
def Src.val(h:Heap)(xs:Array xY):Src->Prop
 |.l a=>h.IsList a xs
 |.t a=>h.IsTuple a xs
theorem Src.it.at(x:sr.it h p k)(e:∀o,h.get? p=vB o->h'.get? p=vB o):sr.it h' p k:=let⟨o,ho,r⟩:=x;⟨o,e o ho,r⟩
theorem Src.val.at{xs:Array xY}(x:sr.val h xs)(e:∀o,h.get? sr.adr=vB o->h'.get? sr.adr=vB o):sr.val h' xs:=by
 cases sr with
 |l a=>obtain⟨o,ho,r⟩:=x;exact⟨o,e o ho,r⟩
 |t a=>obtain⟨o,ho,r⟩:=x;exact⟨o,e o ho,r⟩
theorem Src.it.lt(x:sr.it h p k):p<h.objs.size:=let⟨_,ho,_⟩:=x;zY ho
section
variable{prog:xX}{w:xq}{A:jU}{E:xY->xW->Prop}{s:xW}
theorem Src.val.obj{xs:Array xY}(x:sr.val h xs):∃o n,h.get? sr.adr=vB o/\o.data=.seq xs n:=by
 cases sr with
 |l a=>obtain⟨o,ho,_,n,hd⟩:=x;exact⟨o,n,ho,hd⟩
 |t a=>obtain⟨o,ho,_,n,hd⟩:=x;exact⟨o,n,ho,hd⟩
theorem Src.next_item{xs:Array xY}{x:xY}{Q:xY->xW->Prop}(hit:sr.it s.heap p k)(hv:sr.val s.heap xs)(hx:xs[k]?=vB x)
  (hQ:∀h',sr.it h' p (k+1)->qy p s.heap h'->Q x {s with heap:=h'}):vX (xS prog w) A (Builtin.SmallTypes.nextOf (.ref p)) Q E s:=by
 cases sr with
 |l a=>exact wpAny_nextOf_list_item (show s.heap.IsListIter p a k from hit) hv hx hQ
 |t a=>
  obtain⟨o,ho,hc,hd⟩:=id hit;obtain⟨ol,hol,_,nl,hdl⟩:=hv;have hT:s.TypeIs (.ref p) "tuple_iterator":=⟨o,ho,hc⟩;unfold Builtin.SmallTypes.nextOf;refine vW (vK (name:=Str.ofString "__next__") hT PySem.F.slot_tuple_iterator_next (vY PySem.F.slot_tuple_iterator_next hT PySem.F.entry_tuple_iterator_next ?_ (PySem.F.args_tuple_iterator_next_1 _)));refine vW (m:=field (.ref p) 0) (vq ho hd (x:=.ref a) rfl ?_)
  show vX _ _ (if(Value.ref a==Value.none)=vD then _ else(field (.ref p) 1 >>=_)) _ _ s
  rw[if_neg (show¬((Value.ref a==Value.none)=vD)from z9)]
  refine vW (m:=field (.ref p) 1) (vq ho hd (x:=.int k 0) rfl (vW (m:=seqItems? (.ref a)) (wpAny_seqItems hol hdl ?_)));simp only[Int.toNat_natCast,hx];refine vW (wpAny_setField ho hd (by simp) (v4 ⟨x,rfl,v4 (hQ _ ⟨_,qj _ ho (Obj.isFreed_of_fields (Obj.data_mapFields hd _)),(Obj.cls_mapFields ..).trans hc,?_⟩ (qy.update ..))⟩))
  rw[Obj.data_mapFields hd];simp[xT,Src.adr]
theorem Src.next_end{xs:Array xY}{Q:xY->xW->Prop}(hh:A.handled=vC)(hit:sr.it s.heap p k)(hv:sr.val s.heap xs)(hx:xs[k]?=vC)
  (hE:∀h' e,Heap.ExtBut p s.heap h'->(∃o,h'.get? e=vB o/\o.cls=.type "StopIteration")->E (.ref e) {s with heap:=h'}):vX (xS prog w) A (Builtin.SmallTypes.nextOf (.ref p)) Q E s:=by
 cases sr with
 |l a=>exact wpAny_nextOf_list_end hh (show s.heap.IsListIter p a k from hit) hv hx hE
 |t a=>
  obtain⟨o,ho,hc,hd⟩:=id hit;obtain⟨ol,hol,_,nl,hdl⟩:=hv;have hT:s.TypeIs (.ref p) "tuple_iterator":=⟨o,ho,hc⟩;unfold Builtin.SmallTypes.nextOf;refine vW (vK (name:=Str.ofString "__next__") hT PySem.F.slot_tuple_iterator_next (vY PySem.F.slot_tuple_iterator_next hT PySem.F.entry_tuple_iterator_next ?_ (PySem.F.args_tuple_iterator_next_1 _)));refine vW (m:=field (.ref p) 0) (vq ho hd (x:=.ref a) rfl ?_)
  show vX _ _ (if(Value.ref a==Value.none)=vD then _ else(field (.ref p) 1 >>=_)) _ _ s
  rw[if_neg (show¬((Value.ref a==Value.none)=vD)from z9)]
  refine vW (m:=field (.ref p) 1) (vq ho hd (x:=.int k 0) rfl (vW (m:=seqItems? (.ref a)) (wpAny_seqItems hol hdl ?_)));simp only[Int.toNat_natCast,hx];refine vW (wpAny_rule (vW (wpAny_setField ho hd (by simp) (vW (m:=newExc (.type "StopIteration") []) ?_))));simp only[newExc,newTuple]
  refine vW (vx (vW (m:=firstArgMember _ _) (wpAny_of_eq (a:=Value.none) (by first|rfl|(simp only[firstArgMember];rfl)) (vx ?_ (by size_fits)))) (by size_fits))
  simp only[raiseNew];refine vW (wpAny_handled ?_)
  first|rw[show A.in1.handled=vC from hh]|rw[hh]
  exact vW (v4 (wpAny_throw (hE _ _ (((qy.update ..).extBut.push _).push _) ⟨_,zy _ rfl,rfl⟩)))
theorem Src.iter{xs:Array xY}{Q:xY->xW->Prop}(hv:sr.val s.heap xs)
  (hQ:Q (.ref s.heap.objs.size) {s with heap:=s.heap.push {cls:=.type sr.itn,data:=.fields #[.ref sr.adr,.int 0 0]}}):vX (xS prog w) A (pyIter (.ref sr.adr)) Q E s:=by
 cases sr with
 |l a=>exact wpAny_pyIter_list hv hQ
 |t a=>exact wpAny_pyIter_tuple hv hQ
end
abbrev En(h:Heap)(e it:jT)(f0:xY)(i:Int)(g old:xY):Prop:=
 h.get? e=vB {cls:=.type "enumerate",dict:=vC,data:=.fields #[f0,.bool vE,.ref it,xT i,g,old],slots:= #[]}
def Gv(i:Int)(g:xY):Prop:=g=.none∨∃t,g=.int i t
section
variable{prog:xX}{w:xq}{A:jU}{E:xY->xW->Prop}{s:xW}
theorem ZMp{e it:jT}{i:Int}{xs:Array xY}{x g:xY}{Q:xY->xW->Prop}(he:En s.heap e it .none i g old)(hg:Gv i g)(hit:sr.it s.heap it k)(hv:sr.val s.heap xs)(hx:xs[k]?=vB x)(hne:e≠it)
  (hQ:∀h' t tk,En h' e it (xT s.heap.objs.size) (i+1) .none x->sr.it h' it (k+1)->h'.get? s.heap.objs.size=vB {cls:=.type "tuple",data:=.seq #[.int i t,x]}->h'.objs.size=s.heap.objs.size+1->
   (∀b o,b≠e->b≠it->s.heap.get? b=vB o->h'.get? b=vB o)->Q (.ref s.heap.objs.size) {s with heap:=h',toks:=tk}):
  vX (xS prog w) A (Builtin.«enumerate.__next__» ⟨[.ref e],[]⟩) (λfin s'=>∃v,fin=.done (.ret v)/\Q v s') E s:=by
 obtain⟨hp,gg,d,tk,os⟩:=s;refine vW (m:=field (.ref e) 2) (vq he rfl (x:=.ref it) rfl (vW (m:=Builtin.SmallTypes.nextOf (.ref it)) (Src.next_item hit hv hx λh₁ hit₁ hs₁=>?_)));have he₁:En h₁ e it .none i g old:=(hs₁.2 e hne).trans he;have k₁:∀b o,b≠e->b≠it->hp.get? b=vB o->h₁.get? b=vB o:=λb o _ hb q=>hs₁.extBut b o hb q
 have z₁:h₁.objs.size=hp.objs.size:=hs₁.1;refine vW (m:=field (.ref e) 3) (vq he₁ rfl (x:=xT i) rfl ?_);refine vW (m:=field (.ref e) 4) (vq he₁ rfl (x:=g) rfl ?_)
 have rest:∀(t:Tok)(tk':Nat),vX (xS prog w) A (do
   setField (.ref e) 3 (xT (i+1));setField (.ref e) 4 .none
   let result<-newTuple [.int i t,x]
   if<-Builtin.SmallTypes.ownedTupleIsFree (.ref e)then
    rule "enumerate.__next__.owned-tuple-again"
    let old<-field (.ref e) 5
    setField (.ref e) 5 x
    Builtin.SmallTypes.ownedTupleHandOut (.ref e) result
    PySem.letGo [old] [result]
   ret result) (λfin s'=>∃v,fin=.done (.ret v)/\Q v s') E ⟨h₁,gg,d,tk',os⟩:=by
  intro t tk';refine vW (v5 he₁ (by simp) λh₂ he₂ hs₂=>?_);refine vW (v5 he₂ (by simp) λh₃ he₃ hs₃=>?_)
  replace he₃:En h₃ e it .none (i+1) .none old:=he₃
  have z₃:h₃.objs.size=hp.objs.size:=by rw[hs₃.1];show h₂.objs.size=_;rw[hs₂.1];exact z₁
  have k₃:∀b o,b≠e->b≠it->hp.get? b=vB o->h₃.get? b=vB o:=λb o h1 h2 q=>hs₃.extBut b o h1 (hs₂.extBut b o h1 (k₁ b o h1 h2 q))
  have i₃:sr.it h₃ it (k+1):=(hit₁.at λo q=>hs₂.extBut it o (Ne.symm hne) q).at λo q=>hs₃.extBut it o (Ne.symm hne) q
  refine vW (wpAny_newTuple ?_);generalize hh₄:h₃.push {cls:=.type "tuple",data:=.seq [Value.int i t,x].toArray}=h₄;have he₄:En h₄ e it .none (i+1) .none old:=by rw[<-hh₄];exact zQ _ he₃
  have ht₄:h₄.get? hp.objs.size=vB {cls:=.type "tuple",data:=.seq #[.int i t,x]}:=by rw[<-hh₄,<-z₃];exact zy _ rfl
  have z₄:h₄.objs.size=hp.objs.size+1:=by rw[<-hh₄,qw,z₃]
  have k₄:∀b o,b≠e->b≠it->hp.get? b=vB o->h₄.get? b=vB o:=λb o h1 h2 q=>by rw[<-hh₄];exact zQ _ (k₃ b o h1 h2 q)
  have i₄:sr.it h₄ it (k+1):=i₃.at λo q=>by rw[<-hh₄];exact zQ _ q
  have ez:e<hp.objs.size:=zY he;refine vW (m:=Builtin.SmallTypes.ownedTupleIsFree (.ref e)) ?_;unfold Builtin.SmallTypes.ownedTupleIsFree;refine vW (vq he₄ rfl (x:=.none) rfl (v4 ?_));simp only[if_true];refine vW (wpAny_rule (vW (vq he₄ rfl (x:=old) rfl (vW (v5 he₄ (by simp) λh₅ he₅ hs₅=>?_)))))
  replace he₅:En h₅ e it .none (i+1) .none x:=he₅
  refine vW (m:=Builtin.SmallTypes.ownedTupleHandOut _ _) ?_;unfold Builtin.SmallTypes.ownedTupleHandOut;refine vW (v5 he₅ (by simp) λh₆ he₆ hs₆=>?_);refine v5 he₆ (by simp) λh₇ he₇ hs₇=>?_
  refine vW (wpAny_letGo (v4 ⟨_,rfl,?_⟩));have up:∀b o,b≠e->h₄.get? b=vB o->h₇.get? b=vB o:=λb o hb q=>hs₇.extBut b o hb (hs₆.extBut b o hb (hs₅.extBut b o hb q))
  show Q (.ref h₃.objs.size) _;rw[z₃];rw[z₃]at he₇;exact hQ h₇ t tk' he₇ (i₄.at λo q=>up it o (Ne.symm hne) q) (up _ _ (qU ez) ht₄) (by rw[hs₇.1];show h₆.objs.size=_;rw[hs₆.1];show h₅.objs.size=_;rw[hs₅.1];exact z₄) λb o h1 h2 q=>up b o h1 (k₄ b o h1 h2 q)
 rcases hg with rfl|⟨t,rfl⟩
 ·exact vW (m:=mkInt i) (wpAny_mkInt (rest tk (tk+1)))
 ·exact vW (m:=(pure (Value.int i t):Sem xY)) (v4 (rest t tk))
theorem ZKv{e it:jT}{i:Int}{xs:Array xY}{x g:xY}{Q:Option xY->xW->Prop}(he:En s.heap e it .none i g old)(hg:Gv i g)(hit:sr.it s.heap it k)(hv:sr.val s.heap xs)(hx:xs[k]?=vB x)(hne:e≠it)
  (hQ:∀h' t tk,En h' e it (xT s.heap.objs.size) (i+1) .none x->sr.it h' it (k+1)->h'.get? s.heap.objs.size=vB {cls:=.type "tuple",data:=.seq #[.int i t,x]}->h'.objs.size=s.heap.objs.size+1->
   (∀b o,b≠e->b≠it->s.heap.get? b=vB o->h'.get? b=vB o)->Q (vB (.ref s.heap.objs.size)) {s with heap:=h',toks:=tk}):
  vX (xS prog w) A (pyNext (.ref e)) Q E s:=by
 have hT:s.TypeIs (.ref e) "enumerate":=⟨_,he,rfl⟩;unfold pyNext;exact vW (wpAny_attempt (vK (name:=Str.ofString "__next__") hT PySem.F.slot_enumerate_next
  (vY PySem.F.slot_enumerate_next hT PySem.F.entry_enumerate_next (ZMp he hg hit hv hx hne λh' t tk a1 a2 a3 a4 a5=>v4 (hQ h' t tk a1 a2 a3 a4 a5)) (PySem.F.args_enumerate_next_1 _))))
theorem ZJn{e it:jT}{i:Int}{xs:Array xY}{g:xY}{Q:Option xY->xW->Prop}(hh:A.handled=vC)(he:En s.heap e it .none i g old)(hit:sr.it s.heap it k)(hv:sr.val s.heap xs)(hx:xs[k]?=vC)
  (hQ:∀h',Heap.ExtBut it s.heap h'->Q vC {s with heap:=h'}):vX (xS prog w) A (pyNext (.ref e)) Q E s:=by
 have hT:s.TypeIs (.ref e) "enumerate":=⟨_,he,rfl⟩;unfold pyNext;refine vW (wpAny_attempt (vK (name:=Str.ofString "__next__") hT PySem.F.slot_enumerate_next
  (vY PySem.F.slot_enumerate_next hT PySem.F.entry_enumerate_next (vW (m:=field (.ref e) 2) (vq he rfl (x:=.ref it) rfl (vW (m:=Builtin.SmallTypes.nextOf (.ref it)) (Src.next_end hh hit hv hx λh' x he' hx'=>?_)))) (PySem.F.args_enumerate_next_1 _))))
 obtain⟨o,ho,hc⟩:=hx';exact vW (wpAny_isInstance (T:="StopIteration") (b:=vD) ⟨o,ho,hc⟩ isSubtype_stop (v4 (hQ _ he')))
theorem ZOB{elts:List xQ}{x1}{pos:Pos}{e it a:jT}{i:Int}{g:xY}{Q:Unit->xW->Prop}(he:En s.heap e it (xT a) i g old)
  (hQ:∀h',En h' e it .none i g old->qy e s.heap h'->Q () {s with heap:=h'}):vX (xS prog w) A (xP (.Tuple elts x1 pos) (.ref e) (.ref a)) Q E s:=by
 unfold xP;refine vW (wpAny_load he ?_);dsimp only;rw[if_pos (by simp)];exact vW (wpAny_rule (v5 he (by simp) λh' he' hs'=>hQ h' he' hs'))
theorem ZAp{e it:jT}{f0:xY}{i:Int}{g:xY}{Q:xY->xW->Prop}(he:En s.heap e it f0 i g old)(h:Q (.ref e) s):vX (xS prog w) A (pyIter (.ref e)) Q E s:=by have hT:s.TypeIs (.ref e) "enumerate":=⟨_,he,rfl⟩;exact wpAny_pyIter_slot hT PySem.F.slot_enumerate_iter (vY PySem.F.slot_enumerate_iter hT PySem.F.entry_enumerate_iter (v4 ⟨_,rfl,"enumerate",_,hT,PySem.F.slot_enumerate_next.lookup,h⟩) (PySem.F.args_enumerate_iter_1 _))
end
abbrev Tp(h:Heap)(T:jT)(xs:List xY):Prop:=h.get? T=vB {cls:=.type "tuple",data:=.seq xs.toArray}
inductive Drw (h:Heap) (i:Nat):List (Src×jT)->List xY->Prop where
 |nil:Drw h i [] []
 |cons {sr p r x us xs} (hit:Src.it h p i sr) (hv:sr.val h xs) (hx:xs[i]?=vB x) (t:Drw h i r us):Drw h i ((sr,p)::r) (x::us)
theorem Drw.length{us:List xY}(d:Drw h i l us):us.length=l.length:=by
 induction d with
 |nil=>rfl
 |cons _ _ _ _ ih=>simp[ih]
section
variable{prog:xX}{w:xq}{A:jU}{E:xY->xW->Prop}{s:xW}
theorem ZIA{T:jT}{xs:List xY}{x:xY}{Q:Unit->xW->Prop}(hT:Tp s.heap T xs)(hz:xs.length<=1000000)
  (h:∀h',Tp h' T (xs.set k x)->qy T s.heap h'->Q () {s with heap:=h'}):vX (xS prog w) A (updateSeq T (·.setIfInBounds k x)) Q E s:=by
 have h1:xs.toArray.size<=sizeLine:=by rw[zK];exact zC hz size6
 refine wpAny_updateSeq hT rfl (h _ ?_ (qy.update ..)) h1 (by rw[Array.size_setIfInBounds];exact Nat.le_succ_of_le h1);show(s.heap.update T _).get? T=_;rw[qj _ hT rfl];simp[Obj.mapSeq]
def ZS(prog:xX)(w:xq)(A:jU)(E:xY->xW->Prop)(z TO p:jT)(k:Nat)(R:xW->Prop)(s:xW):Prop:=
 vX (xS prog w) A (Builtin.SmallTypes.nextOf (.ref p)) (λx s1=>∃os,Tp s1.heap TO os/\os.length<=1000000/\∀h',Tp h' TO (os.set k x)->qy TO s1.heap h'->R {s1 with heap:=h'})
  (λe s'=>vX (xS prog w) A (setField (.ref z) 0 .none) (λ_ s''=>E e s'') E s') s
theorem ZCc{TO:jT}{xs:Array xY}{x:xY}{Q:xW->Prop}(hTO:Tp s.heap TO os)(hz:os.length<=1000000)(hit:sr.it s.heap p i)(hv:sr.val s.heap xs)(hx:xs[i]?=vB x)
  (h:∀h',Tp h' TO (os.set k x)->sr.it h' p (i+1)->(∀b o,b≠TO->b≠p->s.heap.get? b=vB o->h'.get? b=vB o)->h'.objs.size=s.heap.objs.size->Q {s with heap:=h'}):ZS prog w A E z TO p k Q s:=by
 have hne:TO≠p:=λe=>by
  obtain⟨o,ho,hc,_⟩:=hit;rw[<-e,hTO]at ho;cases ho
  cases sr<;>(simp[Src.itn]at hc)
 refine Src.next_item hit hv hx λh₁ it₁ sb₁=>⟨os,sb₁.extBut _ _ hne hTO,hz,λh₂ t₂ sb₂=>?_⟩
 exact h h₂ t₂ (it₁.at λo e=>sb₂.extBut _ _ (Ne.symm hne) e) (λb o b1 b2 e=>sb₂.extBut b o b1 (sb₁.extBut b o b2 e)) (by rw[sb₂.1];show h₁.objs.size=_;rw[sb₁.1])
theorem ZC0{TO:jT}{body:xY×Nat->Option Fin×PUnit->Sem (ForInStep (Option Fin×PUnit))}{R:Option Fin×PUnit->xW->Prop}
  (hb:∀(p:jT)(k:Nat)(s:xW)(R':ForInStep (Option Fin×PUnit)->xW->Prop),ZS prog w A E z TO p k (λs'=>R' (.yield (vC,⟨⟩)) s') s->
   vX (xS prog w) A (body (.ref p,k) (vC,⟨⟩)) R' E s):
  ∀(l:List (Src×jT))(us pre post:List xY)(s:xW),Drw s.heap i l us->Tp s.heap TO (pre++post)->post.length=l.length->(pre++post).length<=1000000->(l.map (·.2)).Nodup->(∀q∈l,q.1.adr≠TO)->(∀q∈l,∀r∈l,q.1.adr≠r.2)->
   (∀h',Tp h' TO (pre++us)->(∀q∈l,q.1.it h' q.2 (i+1))->(∀b o,b≠TO->b∉l.map (·.2)->s.heap.get? b=vB o->h'.get? b=vB o)->h'.objs.size=s.heap.objs.size->R (vC,⟨⟩) {s with heap:=h'})->
   vX (xS prog w) A (forIn ((l.map λq=>Value.ref q.2).zipIdx pre.length) (vC,⟨⟩) body) R E s
 | [],us,pre,post,s,d,hT,hl,hz,nd,na,np,hR=>by
  cases d;cases post with
  |cons _ _=>simp at hl
  |nil=>
   rw[List.map_nil,List.zipIdx_nil,List.forIn_nil];exact v4 (hR s.heap hT (λq hq=>by cases hq) (λb o _ _ e=>e) rfl)
 | (sr,p)::l,us,pre,post,s,d,hT,hl,hz,nd,na,np,hR=>by
  cases d with
  |@cons _ _ _ x us xs hit hv hx d=>
  cases post with
  |nil=>simp at hl
  | cons y post=>
   rw[zG,jH,jP];refine vW (hb p pre.length s _ (ZCc hT hz hit hv hx λh' hT' it' kp sz=>?_));have e1:(pre++y::post).set pre.length x=(pre++[x])++post:=by simp
   rw[e1]at hT';have e2:pre.length+1=(pre++[x]).length:=by simp
   dsimp only;rw[e2]
   have nd':p∉l.map (·.2)/\(l.map (·.2)).Nodup:=by simpa using nd
   have hTOp:∀q∈l,q.2≠TO:=λq hq e=>by
    have:∃sr k,Src.it s.heap q.2 k sr:=by
     clear hR na np nd nd' e1 e2 hl hT' hz
     induction d with
     |nil=>cases hq
     |cons hit _ _ _ ih=>
      rcases zw.mp hq with rfl|hq
      ·exact⟨_,_,hit⟩
      ·exact ih hq
    obtain⟨sr',k,o,ho,hc,_⟩:=this;rw[e,hT]at ho;cases ho
    cases sr'<;>(simp[Src.itn]at hc)
   have d':Drw h' i l us:=by
    have na':∀q∈l,q.1.adr≠TO:=λq hq=>na q (zJ _ hq)
    have np':∀q∈l,q.1.adr≠p:=λq hq=>np q (zJ _ hq) (sr,p) zX
    have pp:∀q∈l,q.2≠p:=λq hq e=>nd'.1 (zF.mpr ⟨q,hq,e⟩)
    clear hR na np nd nd' e1 e2 hl hT' hz
    induction d with
    |nil=>exact .nil
    |@cons sr1 p1 r1 x1 us1 xs1 hit1 hv1 hx1 t1 ih=>
     refine .cons (hit1.at λo e=>kp _ o (hTOp _ zX) (pp _ zX) e) (hv1.at λo e=>kp _ o (na' _ zX) (np' _ zX) e) hx1 ?_;exact ih (λq hq=>hTOp q (zJ _ hq)) (λq hq=>na' q (zJ _ hq)) (λq hq=>np' q (zJ _ hq)) (λq hq=>pp q (zJ _ hq))
   refine ZC0 hb l us (pre++[x]) post {s with heap:=h'} d' hT' (by simpa using hl) (by simpa using hz) nd'.2 (λq hq=>na q (zJ _ hq)) (λq hq r hr=>np q (zJ _ hq) r (zJ _ hr)) λh'' t'' its'' kp'' sz''=>?_
   have hpTO:p≠TO:=λe=>by
    obtain⟨o,ho,hc,_⟩:=hit;rw[e,hT]at ho;cases ho
    cases sr<;>(simp[Src.itn]at hc)
   refine hR h'' (by simpa using t'') (λq hq=>?_) (λb o b1 b2 e=>?_) (sz''.trans sz)
   ·rcases zw.mp hq with rfl|hq
    ·exact it'.at λo e=>kp'' _ o hpTO nd'.1 e
    ·exact its'' q hq
   ·simp only[zG,zw,not_or]at b2;exact kp'' b o b1 b2.2 (kp b o b1 b2.1 e)
end
inductive DrwE (h:Heap) (i:Nat):List (Src×jT)->Prop where
 |here {sr p r xs} (hit:Src.it h p i sr) (hv:sr.val h xs) (hx:xs[i]?=vC):DrwE h i ((sr,p)::r)
 |there {sr p r x xs} (hit:Src.it h p i sr) (hv:sr.val h xs) (hx:xs[i]?=vB x) (t:DrwE h i r):DrwE h i ((sr,p)::r)
structure ApZ (TO:jT) (l:List (Src×jT)):Prop where
 nd:(l.map (·.2)).Nodup
 na:∀q∈l,q.1.adr≠TO
 np:∀q∈l,∀r∈l,q.1.adr≠r.2
 to:∀q∈l,q.2≠TO
theorem ApZ.tail{TO:jT}{q:Src×jT}(a:ApZ TO (q::l)):ApZ TO l:=
 ⟨(qN.mp (by simpa using a.nd)).2,λq hq=>a.na q (zJ _ hq),λq hq r hr=>a.np q (zJ _ hq) r (zJ _ hr),λq hq=>a.to q (zJ _ hq)⟩
section
variable{prog:xX}{w:xq}{A:jU}{E:xY->xW->Prop}{s:xW}
theorem DrwE.at{TO:jT}(a:ApZ TO ((sr,p)::l))(kp:∀b o,b≠TO->b≠p->h.get? b=vB o->h'.get? b=vB o)(d:DrwE h i l):DrwE h' i l:=by
 have pp:∀q∈l,q.2≠p:=λq hq e=>(qN.mp (by simpa using a.nd)).1 (zF.mpr ⟨q,hq,e⟩)
 have np:∀q∈l,q.1.adr≠p:=λq hq=>a.np q (zJ _ hq) (sr,p) zX
 have a':=a.tail;clear a
 induction d with
 |here hit hv hx=>exact .here (hit.at λo e=>kp _ o (a'.to _ zX) (pp _ zX) e) (hv.at λo e=>kp _ o (a'.na _ zX) (np _ zX) e) hx
 | there hit hv hx t ih=>
  exact .there (hit.at λo e=>kp _ o (a'.to _ zX) (pp _ zX) e) (hv.at λo e=>kp _ o (a'.na _ zX) (np _ zX) e) hx
   (ih (λq hq=>pp q (zJ _ hq)) (λq hq=>np q (zJ _ hq)) a'.tail)
theorem ZCL{TO:jT}{body:xY×Nat->Option Fin×PUnit->Sem (ForInStep (Option Fin×PUnit))}{R:Option Fin×PUnit->xW->Prop}(hh:A.handled=vC)
  (hb:∀(p:jT)(k:Nat)(s:xW)(R':ForInStep (Option Fin×PUnit)->xW->Prop),ZS prog w A E z TO p k (λs'=>R' (.yield (vC,⟨⟩)) s') s->
   vX (xS prog w) A (body (.ref p,k) (vC,⟨⟩)) R' E s):
  ∀(l:List (Src×jT))(os:List xY)(n:Nat)(s:xW),DrwE s.heap i l->Tp s.heap TO os->os.length<=1000000->ApZ TO l->
   (∀h' e,(∀b o,b≠TO->b∉l.map (·.2)->s.heap.get? b=vB o->h'.get? b=vB o)->(∃o,h'.get? e=vB o/\o.cls=.type "StopIteration")->vX (xS prog w) A (setField (.ref z) 0 .none) (λ_ s''=>E (.ref e) s'') E {s with heap:=h'})->
   vX (xS prog w) A (forIn ((l.map λq=>Value.ref q.2).zipIdx n) (vC,⟨⟩) body) R E s
 |[],os,n,s,d,hT,hz,a,hE=>by cases d
 | (sr,p)::l,os,n,s,d,hT,hz,a,hE=>by
  rw[zG,jH,jP];refine vW (hb p n s _ ?_);cases d with
  |here hit hv hx=>
   exact Src.next_end hh hit hv hx λh' e xb st=>hE h' e (λb o b1 b2 q=>xb b o (λz=>b2 (by rw[z];simp)) q) st
  |there hit hv hx t=>
   refine ZCc hT hz hit hv hx λh' hT' it' kp sz=>?_
   refine ZCL hh hb l _ (n+1) {s with heap:=h'} (t.at a kp) hT' (by simpa using hz) a.tail λh'' e kp'' st=>?_
   refine hE h'' e (λb o b1 b2 q=>?_) st;simp only[zG,zw,not_or]at b2;exact kp'' b o b1 b2.2 (kp b o b1 b2.1 q)
theorem ZEm{TI TO:jT}{R:Fin->xW->Prop}(hz:IsZip s.heap z TI TO .none)(hTI:Tp s.heap TI (l.map λq=>Value.ref q.2))(hne:l≠[])
  (h:∀h₁,IsZip h₁ z TI TO .ellipsis->qy z s.heap h₁->∀body:xY×Nat->Option Fin×PUnit->Sem (ForInStep (Option Fin×PUnit)),
   (∀(p:jT)(k:Nat)(s:xW)(R':ForInStep (Option Fin×PUnit)->xW->Prop),ZS prog w A E z TO p k (λs'=>R' (.yield (vC,⟨⟩)) s') s->
    vX (xS prog w) A (body (.ref p,k) (vC,⟨⟩)) R' E s)->
   vX (xS prog w) A (forIn ((l.map λq=>Value.ref q.2).zipIdx 0) (vC,⟨⟩) body) (λr s'=>r.1=vC/\∃us,Tp s'.heap TO us/\us.length<=1000000/\IsZip s'.heap z TI TO .ellipsis/\
    ∀h',IsZip h' z TI TO (xT s'.heap.objs.size)->Tp h' s'.heap.objs.size us->h'.objs.size=s'.heap.objs.size+1->(∀b o,b≠z->s'.heap.get? b=vB o->h'.get? b=vB o)->R (.done (.ret (.ref s'.heap.objs.size))) {s' with heap:=h'}) E {s with heap:=h₁}):
  vX (xS prog w) A (Builtin.«zip.__next__» ⟨[.ref z],[]⟩) R E s:=by
 refine vW (m:=field (.ref z) 2) (vq hz rfl (x:=.bool vE) rfl (vW (m:=field (.ref z) 3) (vq hz rfl (x:=.ref TI) rfl (vW (m:=seqItems? (.ref TI)) (wpAny_seqItems hTI rfl ?_)))));dsimp only;have hemp:(l.map λq=>Value.ref q.2).toArray.isEmpty=vE:=by cases l with
  |nil=>exact absurd rfl hne
  |cons _ _=>simp
 rw[hemp];refine vW (m:=Builtin.SmallTypes.ownedTupleIsFree (.ref z)) ?_;unfold Builtin.SmallTypes.ownedTupleIsFree;refine vW (vq hz rfl (x:=.none) rfl (v4 ?_));simp only[if_true];refine vW (wpAny_rule (vW (vq hz rfl (x:=.ref TO) rfl (vW (v5 hz (by simp) λh₁ hz₁ hs₁=>?_)))));refine vW (vj (h h₁ hz₁ hs₁ _ λp k s R' hst=>?_) (λr s' hr=>?_) λ_ _ x=>x)
 ·refine vW (wpAny_onRaise ?_);show vX _ _ (Builtin.SmallTypes.nextOf (.ref p) >>=λv=>pure (vB v)) _ _ s;refine vW (vj hst (λx s1 hx=>v4 ?_) λ_ _ x=>x);obtain⟨os,hT,hl,hR⟩:=hx;dsimp only;refine vW (wpAny_seqItems hT rfl ?_);dsimp only;exact vW (ZIA hT hl λh' t' sb=>vW (wpAny_letGo (v4 (hR h' t' sb))))
 ·obtain⟨hn,us,hT,hl,hzz,hR⟩:=hr;rw[hn];dsimp only;refine vW (wpAny_seqItems hT rfl ?_);dsimp only;refine vW (wpAny_newTuple ?_ (by show us.toArray.toList.length<=_;simpa using zC hl size6));have hzlt:z<s'.heap.objs.size:=zY hzz;refine vW (m:=Builtin.SmallTypes.ownedTupleHandOut _ _) ?_;unfold Builtin.SmallTypes.ownedTupleHandOut;have e1:us.toArray.toList.toArray=us.toArray:=by simp
  rw[e1];have hz2:IsZip (s'.heap.push {cls:=.type "tuple",data:=.seq us.toArray}) z TI TO .ellipsis:=zQ _ hzz;refine vW (v5 hz2 (by simp) λh₇ hz₇ hs₇=>?_);refine v5 hz₇ (by simp) λh₈ hz₈ hs₈=>?_
  refine v4 (hR h₈ hz₈ ?_ ?_ λb o hb q=>hs₈.extBut _ _ hb (hs₇.extBut _ _ hb (zQ _ q)))
  ·exact hs₈.extBut _ _ (qU hzlt) (hs₇.extBut _ _ (qU hzlt) (zy _ rfl))
  ·rw[hs₈.1];show h₇.objs.size=_;rw[hs₇.1,qw]
theorem ZGh{TI TO:jT}{us:List xY}{Q:Option xY->xW->Prop}(hz:IsZip s.heap z TI TO .none)(hTI:Tp s.heap TI (l.map λq=>Value.ref q.2))(hTO:Tp s.heap TO os)(hlen:os.length=l.length)(hsz:l.length<=1000000)(hne:l≠[])
  (a:ApZ TO l) (zz:z≠TO/\(∀q∈l,q.2≠z/\q.1.adr≠z)) (d:Drw s.heap i l us)
  (hQ:∀h',IsZip h' z TI TO (xT s.heap.objs.size)->Tp h' TO us->(∀q∈l,q.1.it h' q.2 (i+1))->Tp h' s.heap.objs.size us->h'.objs.size=s.heap.objs.size+1->
   (∀b o,b≠z->b≠TO->b∉l.map (·.2)->s.heap.get? b=vB o->h'.get? b=vB o)->Q (vB (.ref s.heap.objs.size)) {s with heap:=h'}):vX (xS prog w) A (pyNext (.ref z)) Q E s:=by
 have hT:s.TypeIs (.ref z) "zip":=⟨_,hz,rfl⟩;unfold pyNext;refine vW (wpAny_attempt (vK (name:=Str.ofString "__next__") hT PySem.F.slot_zip_next (vY PySem.F.slot_zip_next hT PySem.F.entry_zip_next ?_ (PySem.F.args_zip_next_1 _))));refine ZEm hz hTI hne λh₁ hz₁ hs₁ body hb=>?_
 have k₁:∀b o,b≠z->s.heap.get? b=vB o->h₁.get? b=vB o:=λb o hb q=>hs₁.extBut b o hb q
 have d₁:Drw h₁ i l us:=by
  have h1:∀q∈l,q.2≠z/\q.1.adr≠z:=zz.2;clear hTI hlen hsz hne a zz hQ
  induction d with
  |nil=>exact .nil
  |cons hit hv hx t ih=>exact .cons (hit.at λo e=>k₁ _ o (h1 _ zX).1 e) (hv.at λo e=>k₁ _ o (h1 _ zX).2 e) hx (ih λq hq=>h1 q (zJ _ hq))
 refine ZC0 (z:=z) (TO:=TO) (i:=i) hb l us [] os {s with heap:=h₁} d₁ (k₁ _ _ (Ne.symm zz.1) hTO) hlen (by simpa[hlen]using hsz) a.nd a.na a.np λh₂ t₂ it₂ k₂ sz₂=>⟨rfl,us,t₂,by rw[d.length];exact hsz,?_,λh₃ z₃ p₃ s₃ k₃=>?_⟩
 ·refine k₂ _ _ zz.1 (λhm=>?_) hz₁;obtain⟨q,hq,e⟩:=zF.mp hm;exact(zz.2 q hq).1 e
 ·have e2:h₂.objs.size=s.heap.objs.size:=by rw[sz₂];exact hs₁.1
  refine⟨_,rfl,v4 ?_⟩;show Q (vB (.ref h₂.objs.size)) _;have z₃':IsZip h₃ z TI TO (xT h₂.objs.size):=z₃;have p₃':Tp h₃ h₂.objs.size us:=p₃;have s₃':h₃.objs.size=h₂.objs.size+1:=s₃;have k₃':∀b o,b≠z->h₂.get? b=vB o->h₃.get? b=vB o:=k₃;rw[e2]at z₃' p₃' s₃'⊢;exact hQ h₃ z₃' (k₃' _ _ (Ne.symm zz.1) t₂) (λq hq=>(it₂ q hq).at λo e=>k₃' _ o (zz.2 q hq).1 e) p₃' s₃' λb o b1 b2 b3 q=>k₃' b o b1 (k₂ b o b2 b3 (k₁ b o b1 q))
theorem ZG9{TI TO:jT}{Q:Option xY->xW->Prop}(hh:A.handled=vC)(hz:IsZip s.heap z TI TO .none)(hTI:Tp s.heap TI (l.map λq=>Value.ref q.2))(hTO:Tp s.heap TO os)(hlen:os.length=l.length)(hsz:l.length<=1000000)(hne:l≠[])
  (a:ApZ TO l) (zz:z≠TO/\(∀q∈l,q.2≠z/\q.1.adr≠z)) (d:DrwE s.heap i l)
  (hQ:∀h',(∀b o,b≠z->b≠TO->b∉l.map (·.2)->s.heap.get? b=vB o->h'.get? b=vB o)->Q vC {s with heap:=h'}):vX (xS prog w) A (pyNext (.ref z)) Q E s:=by
 have hT:s.TypeIs (.ref z) "zip":=⟨_,hz,rfl⟩;unfold pyNext;refine vW (wpAny_attempt (vK (name:=Str.ofString "__next__") hT PySem.F.slot_zip_next (vY PySem.F.slot_zip_next hT PySem.F.entry_zip_next ?_ (PySem.F.args_zip_next_1 _))));refine ZEm hz hTI hne λh₁ hz₁ hs₁ body hb=>?_
 have k₁:∀b o,b≠z->s.heap.get? b=vB o->h₁.get? b=vB o:=λb o hb q=>hs₁.extBut b o hb q
 have d₁:DrwE h₁ i l:=by
  have h1:∀q∈l,q.2≠z/\q.1.adr≠z:=zz.2;clear hTI hlen hsz hne a zz hQ
  induction d with
  |here hit hv hx=>exact .here (hit.at λo e=>k₁ _ o (h1 _ zX).1 e) (hv.at λo e=>k₁ _ o (h1 _ zX).2 e) hx
  |there hit hv hx t ih=>exact .there (hit.at λo e=>k₁ _ o (h1 _ zX).1 e) (hv.at λo e=>k₁ _ o (h1 _ zX).2 e) hx (ih λq hq=>h1 q (zJ _ hq))
 refine ZCL (A:=A.in1) (z:=z) (TO:=TO) (i:=i) (show A.in1.handled=vC from hh) hb l os 0 {s with heap:=h₁} d₁ (k₁ _ _ (Ne.symm zz.1) hTO) (by rw[hlen];exact hsz) a λh₂ e k₂ st=>?_
 have hz₂:IsZip h₂ z TI TO .ellipsis:=by refine k₂ _ _ zz.1 (λhm=>?_) hz₁;obtain⟨q,hq,e⟩:=zF.mp hm;exact(zz.2 q hq).1 e
 obtain⟨o,ho,hc⟩:=st;have hez:e≠z:=λx=>by subst x;rw[hz₂]at ho;cases ho;simp at hc
 refine v5 hz₂ (by simp) λh₃ _ hs₃=>?_
 refine vW (wpAny_isInstance (T:="StopIteration") (b:=vD) ⟨o,hs₃.extBut _ _ hez ho,hc⟩ isSubtype_stop (v4 ?_));exact hQ h₃ λb o b1 b2 b3 q=>hs₃.extBut _ _ b1 (k₂ b o b2 b3 (k₁ b o b1 q))
theorem ZFV:∀(ls:List Src)(pre:Array xY)(s:xW){Q:Array xY->xW->Prop},(∀sr∈ls,∃xs,sr.val s.heap xs)->
  (∀h',(∀q∈ls.zipIdx s.heap.objs.size,q.1.it h' q.2 0)->h'.objs.size=s.heap.objs.size+ls.length->(∀b o,s.heap.get? b=vB o->h'.get? b=vB o)->Q (pre++((ls.zipIdx s.heap.objs.size).map λq=>Value.ref q.2).toArray) {s with heap:=h'})->
  vX (xS prog w) A (forIn (ls.map λsr=>Value.ref sr.adr) pre λx r=>do let v<-holding r.toList (pyIter x);pure (ForInStep.yield (r.push v))) Q E s
 |[],pre,s,Q,hv,h=>by rw[List.map_nil,List.forIn_nil];refine v4 ?_;have:=h s.heap (λq hq=>by cases hq) rfl (λ_ _ e=>e);simpa using this
 | sr::ls,pre,s,Q,hv,h=>by
  rw[zG,jP];obtain⟨xs,hx⟩:=hv sr zX;refine vW (vW (vz (Src.iter hx (v4 ?_))));dsimp only;have z1:(s.heap.push {cls:=.type sr.itn,data:=.fields #[.ref sr.adr,.int 0 0]}).objs.size=s.heap.objs.size+1:=qw ..;refine ZFV ls (pre.push (.ref s.heap.objs.size)) {s with heap:=s.heap.push {cls:=.type sr.itn,data:=.fields #[.ref sr.adr,.int 0 0]}} (λsr' hm=>?_) λh' hi hz kp=>?_
  ·obtain⟨ys,hy⟩:=hv sr' (zJ _ hm);exact⟨ys,hy.at λo e=>zQ _ e⟩
  ·dsimp only at hi hz kp⊢;rw[z1]at hi hz⊢;have:=h h' (λq hq=>?_) (by rw[hz,qZ];lia) (λb o e=>kp b o (zQ _ e))
   ·rw[jH,zG]at this;simpa using this
   ·rw[jH]at hq;rcases zw.mp hq with rfl|hq
    ·exact⟨_,kp _ _ (zy _ rfl),rfl,rfl⟩
    ·exact hi q hq
theorem ZIe{ls:List Src}{Q:xY->xW->Prop}(hv:∀sr∈ls,∃xs,sr.val s.heap xs)(hl:ls.length<=1000000)
  (hct:checkTypeCall "zip" ⟨ls.map λsr=>Value.ref sr.adr,[]⟩=pure ()) (hcn:xC "zip.__new__" ⟨.type "zip"::ls.map λsr=>Value.ref sr.adr,[]⟩=pure ()) (hok:∀obj,argsOk "object.__init__" ⟨obj::ls.map λsr=>Value.ref sr.adr,[]⟩)
  (h:∀h' n,n=s.heap.objs.size+ls.length->IsZip h' (n+2) n (n+1) .none->Tp h' n ((ls.zipIdx s.heap.objs.size).map λq=>Value.ref q.2)->Tp h' (n+1) (ls.map λ_=>Value.none)->(∀q∈ls.zipIdx s.heap.objs.size,q.1.it h' q.2 0)->
   (∀b o,s.heap.get? b=vB o->h'.get? b=vB o)->Q (.ref (n+2)) {s with heap:=h'}):
  vX (xS prog w) A (call (.type "zip") (ls.map λsr=>Value.ref sr.adr)) Q E s:=by
 have g:Meets (Builtin.«zip.__new__» ⟨.type "zip"::ls.map λsr=>Value.ref sr.adr,[]⟩) (λ_ R s=>(∀sr∈ls,∃xs,sr.val s.heap xs)/\
   ∀h' n,n=s.heap.objs.size+ls.length->IsZip h' (n+2) n (n+1) .none->Tp h' n ((ls.zipIdx s.heap.objs.size).map λq=>Value.ref q.2)->Tp h' (n+1) (ls.map λ_=>Value.none)->(∀q∈ls.zipIdx s.heap.objs.size,q.1.it h' q.2 0)->
    (∀b o,s.heap.get? b=vB o->h'.get? b=vB o)->R (.ok (.ret (.ref (n+2)))) {s with heap:=h'}):=
  .of_wp λprog w A R s hh=>by
   obtain⟨hv,hR⟩:=hh;have hsub:=sub_zip;unfold Builtin.«zip.__new__» Builtin.SmallTypes.newClass
   wp_walk
   refine ZFV ls #[] s hv λh1 hi hz kp=>v4 ?_
   have e1:(#[]++((ls.zipIdx s.heap.objs.size).map λq=>Value.ref q.2).toArray:Array xY).toList=(ls.zipIdx s.heap.objs.size).map λq=>Value.ref q.2:=by simp
   rw[e1];have hlen:((ls.zipIdx s.heap.objs.size).map λq=>Value.ref q.2).length=ls.length:=by simp
   refine vW (wpAny_newTuple ?_ (by rw[hlen];exact zC hl size6));refine vW (wpAny_newTuple ?_ (by rw[qJ,hlen];exact zC hl size6));refine vW ?_;unfold Builtin.SmallTypes.newRecord;dsimp only;refine vx (v4 ⟨_,rfl,?_⟩) (by simp[sizeOk,Builtin.SmallTypes.ownedTupleFields,xU]);generalize e2:s.heap.objs.size+ls.length=n at*
   have e3:((ls.zipIdx s.heap.objs.size).map λq=>Value.ref q.2).map (λ_=>Value.none)=ls.map λ_=>Value.none:=by refine qF (by simp) λi h1 h2=>by simp
   dsimp only;rw[e3];generalize((ls.zipIdx s.heap.objs.size).map λq=>Value.ref q.2)=us at*;generalize(ls.map λ_=>Value.none)=ns at*;have s1:(h1.push {cls:=.type "tuple",data:=.seq us.toArray}).objs.size=n+1:=by rw[qw,hz]
   have s2:((h1.push {cls:=.type "tuple",data:=.seq us.toArray}).push {cls:=.type "tuple",data:=.seq ns.toArray}).objs.size=n+2:=by rw[qw,s1]
   show R (.ok (.ret (.ref ((h1.push {cls:=.type "tuple",data:=.seq us.toArray}).push {cls:=.type "tuple",data:=.seq ns.toArray}).objs.size))) _;rw[s2];refine hR _ n rfl ?_ (zQ _ (zQ _ (by rw[<-hz];exact zy _ rfl))) (zQ _ (by rw[<-s1];exact zy _ rfl)) (λq hq=>(hi q hq).at λo e=>zQ _ (zQ _ (zQ _ e))) λb o e=>zQ _ (zQ _ (zQ _ (kp b o e)))
   have:=zy ((h1.push {cls:=.type "tuple",data:=.seq us.toArray}).push {cls:=.type "tuple",data:=.seq ns.toArray}) (o:={cls:=.type "zip",data:=.fields #[.none,.bool vE,.bool vE,.ref h1.objs.size,.ref (h1.push {cls:=.type "tuple",data:=.seq us.toArray}).objs.size]}) rfl;rw[s2]at this;rw[hz,s1]at this;show _=_;rw[hz,s1];exact this
 refine callType_new PySem.F.called_zip (by decide) hct hcn hok PySem.F.entry_zip_new g ⟨hv,λh' n hn hz hTI hTO hi kp=>⟨⟨_,hz,rfl⟩,h h' n hn hz hTI hTO hi kp⟩⟩
end
end _D
namespace _D
open PySem PySem.W PyProof.Rows
variable{nrem:Nat}
section
def Bo(lt:Nat->Nat->Bool){α:Type}:KasT α->α
 |.ret a=>a
 |.ask i j k=>Bo lt (k (lt i j))
theorem Ml(lt:Nat->Nat->Bool){α β:Type}(f:α->KasT β):∀t:KasT α,Bo lt (t.bind f)=Bo lt (f (Bo lt t))
 |.ret _=>rfl
 |.ask i j k=>Ml lt f (k (lt i j))
structure WO (lt:Nat->Nat->Bool):Prop where
 asy:∀i j,lt i j=vD->lt j i=vE
 neg:∀i j k,lt i k=vD->lt i j=vD∨lt j k=vD
variable{lt:Nat->Nat->Bool}
theorem WO.refl(o:WO lt)(i:Nat):lt i i=vE:=by
 cases h:lt i i
 ·rfl
 ·have:=o.asy i i h;rw[h]at this;exact this
theorem WO.tr(o:WO lt){i j k:Nat}(h1:lt j i=vE)(h2:lt k j=vE):lt k i=vE:=by
 cases h:lt k i
 ·rfl
 ·rcases o.neg k j i h with z|z
  ·rw[z]at h2;cases h2
  ·rw[z]at h1;cases h1
noncomputable abbrev pt(p:Array Nat)(j:Nat):Nat:=p.getD j 0
theorem M4(p:Array Nat)(j:Nat):pt p j=(p[j]?).getD 0:=by simp[pt]
def Srt(lt:Nat->Nat->Bool)(p:Array Nat)(k:Nat):Prop:=∀i j,i<=j->j<k->lt (pt p j) (pt p i)=vE
def NIn(lt:Nat->Nat->Bool)(p:Array Nat)(k:Nat):Prop:=∀i j,i<=j->j<k->lt (pt p i) (pt p j)=vE
theorem Hd{p:Array Nat}{i j:Nat}(hj:j<=p.size)(k:Nat):pt (v9 p i j) k=if i<=k/\k<j then pt p (i+j-1-k)else pt p k:=by
 rw[M4,v9,getElem?_mirror_all hj]
 split <;> exact(M4 ..).symm
theorem ZHe{p:Array Nat}{src d:Nat}(hs:src<p.size)(hd:d<=src)(k:Nat):pt (bubble p src d) k=if k=src-d then pt p src else if src-d<k/\k<=src then pt p (k-1)else pt p k:=by
 rw[M4,getElem?_bubble hs d hd];by_cases h1:k=src-d
 ·rw[if_pos h1,if_pos h1];exact(M4 ..).symm
 ·rw[if_neg h1,if_neg h1];by_cases h2:src-d<k/\k<=src
  ·rw[if_pos h2,if_pos h2];exact(M4 ..).symm
  ·rw[if_neg h2,if_neg h2];exact(M4 ..).symm
theorem ZA8(o:WO lt)(p:Array Nat):∀f n,1<=n->Srt lt p n->∀m,Bo lt (kas_asc p f n)=m->n<=m/\m<=n+f/\Srt lt p m/\(m<n+f->lt (pt p m) (pt p (m-1))=vD)
 |0,n,h1,h,m,e=>by have e':n=m:=e;subst e';exact⟨zW _,zW _,h,λz=>absurd z (zS _)⟩
 | f + 1,n,h1,h,m,e=>by
  unfold kas_asc at e;have e1:Bo lt (if lt (pt p n) (pt p (n-1))=vD then KasT.ret n else kas_asc p f (n+1))=m:=e;cases hc:lt (pt p n) (pt p (n-1))with
  |true=>
   rw[hc,if_pos rfl]at e1;have e':n=m:=e1;subst e';exact⟨zW _,by lia,h,λ_=>hc⟩
  | false=>
   rw[hc,if_neg (by simp)]at e1;have h':Srt lt p (n+1):=λi j hij hj=>by
    by_cases e:j<n
    ·exact h i j hij e
    ·have e':j=n:=by lia
     subst e';by_cases e2:i=j
     ·rw[e2];exact o.refl _
     ·exact o.tr (h i (j-1) (by lia) (by lia)) hc
   obtain⟨a,b,c,d⟩:=ZA8 o p f (n+1) (by lia) h' m e1;exact⟨by lia,by lia,c,λz=>d (by lia)⟩
structure Dn (lt:Nat->Nat->Bool) (p:Array Nat) (n q:Nat):Prop where
 ni:NIn lt p n
 al:∀i j,n-(q+1)<=i->i<n->n-(q+1)<=j->j<n->lt (pt p i) (pt p j)=vE
 qn:q+1<=n
theorem NIn.rev{p:Array Nat}{n q:Nat}(d:Dn lt p n q)(hn:n<=p.size):NIn lt (v9 p (n-(q+1)) n) n:=λi j hij hj=>by
 have:=d.qn;rw[Hd hn,Hd hn];by_cases h1:n-(q+1)<=i
 ·rw[if_pos ⟨h1,by lia⟩,if_pos ⟨by lia,hj⟩];exact d.al _ _ (by lia) (by lia) (by lia) (by lia)
 ·rw[if_neg (by lia)];by_cases h2:n-(q+1)<=j
  ·rw[if_pos ⟨h2,hj⟩];exact d.ni _ _ (by lia) (by lia)
  ·rw[if_neg (by lia)];exact d.ni i j hij hj
theorem U0(o:WO lt):∀f(p:Array Nat)n q,n+f<=p.size->Dn lt p n q->∀r,Bo lt (kas_desc f p n q)=r->r.1.Perm p/\r.2.1<=n+f/\n<=r.2.1/\Dn lt r.1 r.2.1 r.2.2
 |0,p,n,q,hz,d,r,e=>by have e':(p,n,q)=r:=e;subst e';exact⟨.refl _,zW _,zW _,d⟩
 | f + 1,p,n,q,hz,d,r,e=>by
  have qn:=d.qn;unfold kas_desc at e;have e1:Bo lt (if lt (pt p n) (pt p (n-1))=vD then(if q>0 then kas_desc f (v9 p (n-(q+1)) n) (n+1) 0 else kas_desc f p (n+1) 0)
   else .ask (p.getD (n-1) 0) (p.getD n 0) λd=>if d=vD then .ret (p,n,q)else kas_desc f p (n+1) (q+1))=r:=e
  clear e;cases hc:lt (pt p n) (pt p (n-1))with
  | true=>
   rw [hc,if_pos rfl]at e1;have ext:∀p':Array Nat,NIn lt p' n->pt p' n=pt p n->(∀k,k<n->lt (pt p n) (pt p' k)=vD∨k<n)->lt (pt p' (n-1)) (pt p' n)=vE->Dn lt p' (n+1) 0:=λp' hni _ _ hl=>by
    refine⟨λi j hij hj=>?_,λi j h1 h2 h3 h4=>?_,by lia⟩
    ·by_cases e:j<n
     ·exact hni i j hij e
     ·have e':j=n:=by lia
      subst e';by_cases e2:i=j
      ·rw[e2];exact o.refl _
      ·exact o.tr hl (hni i (j-1) (by lia) (by lia))
    ·have e1:i=n:=by lia
     have e2:j=n:=by lia
     rw[e1,e2];exact o.refl _
   by_cases hq:q>0
   ·rw[if_pos hq]at e1;have hl:lt (pt (v9 p (n-(q+1)) n) (n-1)) (pt (v9 p (n-(q+1)) n) n)=vE:=by
     rw[Hd (by lia),Hd (by lia),if_pos (by lia),if_neg (by lia)];cases hx:lt (pt p (n-(q+1)+n-1-(n-1))) (pt p n)
     ·rfl
     ·rcases o.neg _ (pt p (n-1)) _ hx with z|z
      ·rw[d.al _ _ (by lia) (by lia) (by lia) (by lia)]at z;cases z
      ·rw[o.asy _ _ hc]at z;cases z
    obtain⟨a,b,c,dd⟩:=U0 o f _ (n+1) 0 (by rw[v9,mirror_size];lia) (ext _ (NIn.rev d (by lia)) (by rw[Hd (by lia),if_neg (by lia)]) (λk hk=>.inr hk) hl) r e1;exact⟨a.trans (mirror_perm ..),by lia,by lia,dd⟩
   ·rw[if_neg hq]at e1;obtain⟨a,b,c,dd⟩:=U0 o f p (n+1) 0 (by lia) (ext p d.ni rfl (λk hk=>.inr hk) (o.asy _ _ hc)) r e1;exact⟨a,by lia,by lia,dd⟩
  | false=>
   rw[hc,if_neg (by simp)]at e1;have e2:Bo lt (if lt (pt p (n-1)) (pt p n)=vD then .ret (p,n,q)else kas_desc f p (n+1) (q+1))=r:=e1;cases hd:lt (pt p (n-1)) (pt p n)with
   |true=>
    rw[hd,if_pos rfl]at e2;have e3:(p,n,q)=r:=e2;subst e3;exact⟨.refl _,by show n<=_;lia,zW _,d⟩
   | false=>
    rw[hd,if_neg (by simp)]at e2;have al':∀i,n-(q+1)<=i->i<n+1->lt (pt p i) (pt p n)=vE/\lt (pt p n) (pt p i)=vE:=λi h1 h2=>by
     by_cases e:i=n
     ·rw[e];exact⟨o.refl _,o.refl _⟩
     ·exact⟨o.tr hd (d.al i (n-1) h1 (by lia) (by lia) (by lia)),o.tr (d.al (n-1) i (by lia) (by lia) h1 (by lia)) hc⟩
    obtain⟨a,b,c,dd⟩:=U0 o f p (n+1) (q+1) (by lia) ⟨λi j hij hj=>by
     by_cases e:j<n
     ·exact d.ni i j hij e
     ·have e':j=n:=by lia
      subst e';by_cases e2:i=j
      ·rw[e2];exact o.refl _
      ·exact o.tr hd (d.ni i (j-1) (by lia) (by lia)),λi j h1 h2 h3 h4=>by
     by_cases ei:i=n
     ·rw[ei];exact(al' j (by lia) h4).2
     ·by_cases ej:j=n
      ·rw[ej];exact(al' i (by lia) h2).1
      ·exact d.al i j (by lia) (by lia) (by lia) (by lia),by lia⟩ r e2
    exact⟨a,by lia,by lia,dd⟩
theorem ZCX(o:WO lt){p:Array Nat}{n:Nat}(h1:1<=n)(hn:n<=nrem)(hz:nrem<=p.size)(d:NIn lt p n):∀r,Bo lt (kas_tail3 n nrem p)=r->r.2.Perm p/\r.1<=nrem/\1<=r.1/\Srt lt r.2 r.1:=by
 intro r e;unfold kas_tail3 at e;rw[Ml]at e;have s0:Srt lt (v9 p 0 n) n:=λi j hij hj=>by rw[Hd (by lia),Hd (by lia),if_pos (by lia),if_pos (by lia)];exact d _ _ (by lia) (by lia)
 obtain⟨a,b,c,_⟩:=ZA8 o (v9 p 0 n) (nrem-n) n h1 s0 _ rfl;have e':(Bo lt (kas_asc (v9 p 0 n) (nrem-n) n),v9 p 0 n)=r:=e;subst e';exact⟨mirror_perm ..,by show Bo lt (kas_asc (v9 p 0 n) (nrem-n) n)<=nrem;lia,by show 1<=Bo lt (kas_asc (v9 p 0 n) (nrem-n) n);lia,c⟩
theorem ZFq(o:WO lt){p:Array Nat}{n:Nat}(h1:1<=n)(hn:n<nrem)(hz:nrem<=p.size)(al:∀i j,i<n->j<n->lt (pt p i) (pt p j)=vE)(hl:lt (pt p n) (pt p (n-1))=vD):
  ∀r,Bo lt (kas_descPart n nrem p)=r->r.2.Perm p/\r.1<=nrem/\1<=r.1/\Srt lt r.2 r.1:=by
 intro r e;unfold kas_descPart at e;rw[Ml]at e;have d0:Dn lt p (n+1) 0:=⟨λi j hij hj=>by
  by_cases e:j<n
  ·exact al i j (by lia) e
  ·have e':j=n:=by lia
   subst e';by_cases e2:i=j
   ·rw[e2];exact o.refl _
   ·exact o.tr (o.asy _ _ hl) (al i (j-1) (by lia) (by lia)),λi j _ _ _ _=>by
  have e1:i=n:=by lia
  have e2:j=n:=by lia
  rw[e1,e2];exact o.refl _,by lia⟩
 obtain⟨a,b,c,dd⟩:=U0 o (nrem-(n+1)) p (n+1) 0 (by lia) d0 _ rfl
 revert a b c dd e
 generalize Bo lt (kas_desc (nrem-(n+1)) p (n+1) 0)=x;intro e a b c dd;have hx:x.1.size=p.size:=a.size_eq;split at e
 ·obtain⟨a',b',c',d'⟩:=ZCX o (by lia) (by lia) (by rw[v9,mirror_size];lia) (NIn.rev dd (by lia)) r e;exact⟨(a'.trans (mirror_perm ..)).trans a,b',c',d'⟩
 ·obtain⟨a',b',c',d'⟩:=ZCX o (by lia) (by lia) (by lia) dd.ni r e;exact⟨a'.trans a,b',c',d'⟩
theorem ZLv(o:WO lt){p:Array Nat}(h1:1<=nrem)(hz:nrem<=p.size):∀r,Bo lt (kas_count nrem p)=r->r.2.Perm p/\r.1<=nrem/\1<=r.1/\Srt lt r.2 r.1:=by
 intro r e;unfold kas_count at e;rw[Ml]at e;obtain⟨a,b,c,d⟩:=ZA8 o p (nrem-1) 1 (zW _) (λi j hij hj=>by
  have e1:i=0:=by lia
  have e2:j=0:=by lia
  rw[e1,e2];exact o.refl _) _ rfl
 revert a b c d e
 generalize Bo lt (kas_asc p (nrem-1) 1)=n;intro e a b c d;split at e
 ·have e':(n,p)=r:=e;subst e';exact⟨.refl _,by show n<=nrem;lia,a,c⟩
 ·rename_i hne;have hn:n<nrem:=by
   have:n≠nrem:=by simpa using hne
   lia
  have hl:=d (by lia);split at e
  ·rename_i hgt;have e':Bo lt (if lt (pt p 0) (pt p (n-1))=vD then .ret (n,p)else kas_descPart n nrem (v9 p 0 n))=r:=e;cases hc:lt (pt p 0) (pt p (n-1))with
   |true=>
    rw[hc,if_pos rfl]at e';have e2:(n,p)=r:=e';subst e2;exact⟨.refl _,by show n<=nrem;lia,a,c⟩
   | false=>
    rw[hc,if_neg (by simp)]at e';have al:∀i j,i<n->j<n->lt (pt p i) (pt p j)=vE:=λi j hi hj=>o.tr (c j (n-1) (by lia) (by lia) |> λz=>z) (o.tr hc (c 0 i (by lia) hi) |> λz=>by exact z)
    obtain⟨a',b',c',d'⟩:=ZFq o (p:=v9 p 0 n) a hn (by rw[v9,mirror_size];lia) (λi j hi hj=>by
     rw[Hd (by lia),Hd (by lia),if_pos (by lia),if_pos (by lia)];exact al _ _ (by lia) (by lia)) (by
     rw[Hd (by lia),Hd (by lia),if_neg (by lia),if_pos (by lia)];rcases o.neg _ (pt p (0+n-1-(n-1))) _ hl with z|z
     ·exact z
     ·rw[al _ _ (by lia) (by lia)]at z;cases z) r e'
    exact⟨a'.trans (mirror_perm ..),b',c',d'⟩
  ·have e1:n=1:=by lia
   subst e1;exact ZFq o (zW _) hn hz (λi j hi hj=>by
    have e1:i=0:=by lia
    have e2:j=0:=by lia
    rw[e1,e2];exact o.refl _) hl r e
theorem Xw(o:WO lt)(p:Array Nat)(k:Nat)(hs:Srt lt p k):∀f l r,r-l<=f->l<=r->r<=k->(∀i,i<l->lt (pt p k) (pt p i)=vE)->(∀i,r<=i->i<k->lt (pt p k) (pt p i)=vD)->
  ∀m,Bo lt (kas_place p k f l r)=m->m<=k/\(∀i,i<m->lt (pt p k) (pt p i)=vE)/\(∀i,m<=i->i<k->lt (pt p k) (pt p i)=vD)
 |0,l,r,hf,hlr,hr,h1,h2,m,e=>by have e':l=m:=e;subst e';exact⟨by lia,h1,λi hi hk=>h2 i (by lia) hk⟩
 | f+1,l,r,hf,hlr,hr,h1,h2,m,e=>by
  unfold kas_place at e;split at e
  ·have e':l=m:=e;subst e';exact⟨by lia,h1,λi hi hk=>h2 i (by lia) hk⟩
  ·rename_i hlt;have e':Bo lt (if lt (pt p k) (pt p ((l+r)/2))=vD then kas_place p k f l ((l+r)/2)else kas_place p k f ((l+r)/2+1) r)=m:=e;cases hc:lt (pt p k) (pt p ((l+r)/2))with
   |true=>
    rw[hc,if_pos rfl]at e';refine Xw o p k hs f l ((l+r)/2) (by lia) (by lia) (by lia) h1 (λi hi hk=>?_) m e';rcases o.neg _ (pt p i) _ hc with z|z
    ·exact z
    ·rw[hs _ i hi hk]at z;cases z
   |false=>
    rw[hc,if_neg (by simp)]at e';exact Xw o p k hs f ((l+r)/2+1) r (by lia) (by lia) hr (λi hi=>o.tr (hs i ((l+r)/2) (by lia) (by lia)) hc) h2 m e'
theorem ZDw(o:WO lt):∀f(p:Array Nat)k,k+f=p.size->Srt lt p k->(Bo lt (kas_bin f p k)).Perm p/\Srt lt (Bo lt (kas_bin f p k)) p.size
 |0,p,k,hz,hs=>⟨.refl _,by
  have:k=p.size:=by lia
  rw[<-this];exact hs⟩
 | f + 1,p,k,hz,hs=>by
  unfold kas_bin;rw[Ml];obtain⟨hm,h1,h2⟩:=Xw o p k hs k 0 k (by lia) (by lia) (zW _) (λi hi=>by lia) (λi hi hk=>by lia) _ rfl
  revert hm h1 h2
  generalize Bo lt (kas_place p k k 0 k)=m;intro hm h1 h2;have sz:(bubble p k (k-m)).size=p.size:=bubble_size ..;have hk:k<p.size:=by lia
  have e:∀j,pt (bubble p k (k-m)) j=if j=m then pt p k else if m<j/\j<=k then pt p (j-1)else pt p j:=λj=>by
   rw[ZHe hk (by lia)];have:k-(k-m)=m:=by lia
   rw[this]
  obtain⟨a,b⟩:=ZDw o f (bubble p k (k-m)) (k+1) (by lia) (λi j hij hj=>by
   rw[e i,e j];by_cases ji:j=m
   ·rw[if_pos ji];by_cases ii:i=m
    ·rw[if_pos ii];exact o.refl _
    ·rw[if_neg ii,if_neg (by lia)];exact h1 i (by lia)
   ·rw[if_neg ji];by_cases jm:m<j
    ·rw[if_pos ⟨jm,by lia⟩];by_cases ii:i=m
     ·rw[if_pos ii];exact o.asy _ _ (h2 _ (by lia) (by lia))
     ·rw[if_neg ii];by_cases im:m<i
      ·rw[if_pos ⟨im,by lia⟩];exact hs _ _ (by lia) (by lia)
      ·rw[if_neg (by lia)];exact hs _ _ (by lia) (by lia)
    ·rw[if_neg (by lia),if_neg (by lia),if_neg (by lia)];exact hs i j hij (by lia))
  rw[sz]at b;exact⟨a.trans (bubble_perm ..),b⟩
theorem ZFe(o:WO lt){n:Nat}(hn:1<=n):(Bo lt (kas_sort n)).toList.Perm (zk n)/\Srt lt (Bo lt (kas_sort n)) n:=by
 unfold kas_sort;rw[Ml];obtain⟨a,b,c,d⟩:=ZLv o (p:=(zk n).toArray) (nrem:=n) hn (by simp) _ rfl
 revert a b c d
 generalize Bo lt (kas_count n (zk n).toArray)=x;intro a b c d;have hx:x.2.size=n:=by rw[a.size_eq];simp
 split
 ·have e:max x.1 1=x.1:=by lia
  rw[e];obtain⟨a',b'⟩:=ZDw o (n-x.1) x.2 x.1 (by lia) d;rw[hx]at b';exact⟨by simpa using(a'.trans a).toList,b'⟩
 ·have e:x.1=n:=by lia
  rw[e]at d;exact⟨by simpa[Bo]using a.toList,d⟩
end
end _D
namespace _D
open PySem PySem.Spec _L
open PyProof.Rows hiding St
variable{vA:List (jT×Obj)}{σ:St}{H:Hp}{s:xW}{w:xq}{elts:List xQ}{i:Nat}{a:Wd}{ta:DA}
section
variable{X:Cx}{vA:List (jT×Obj)}{σ:St}{H:Hp}{s:xW}{h':Heap}
theorem Zf{t':Nat}{fp:List jT}(I:Inv X vA σ H s)(k:∀b o,b∉fp->s.heap.get? b=vB o->h'.get? b=vB o)(hf:∀b∈fp,FpOk X vA H b):Inv X vA σ H {s with heap:=h',toks:=t'}:=by
 have nit:∀b u,H b=vB u->b∉fp:=λb u e z=>by rw[(hf b z).1]at e;cases e
 refine I.step (g':=s.gens) (d':=s.drawn) (ch:=fp) (λb hb=>?_) (λb o _ _ hc e _=>k b o hc e) (λb o _ _ hc e _=>⟨o.slots,k b o hc e⟩) (λ_ _ _ _ n=>n)
  (λb o hc e=>⟨o,k b o hc e⟩) (λ_ _ e=>e) (λ_ _ _ e=>e) (λb ps e=>⟨#[],by rw[e];simp⟩) (λm hm=>?_) (λb u e=>?_) I.bare
 ·obtain⟨f0,f1,f2,f3,f4,f5⟩:=hf b hb;exact⟨f3,f1,f4,f5⟩
 ·obtain⟨o,es,ep,ho,r⟩:=hm;exact⟨o,es,ep,k _ o (λz=>(hf _ z).2.1 rfl) ho,r⟩
 ·refine(I.hok b u e).stay (λc v hc q=>k c v ?_ q) (λ_ q=>q) λ_ _ q=>q
  rcases hc with z|z
  ·rw[z];exact nit b u e
  ·exact nit c _ z
theorem ZFk{t':Nat}{fp:List jT}{p:jT}{xs:List V}{its:List xY}(I:Inv X vA σ H s)(k:∀b o,b∉fp->s.heap.get? b=vB o->h'.get? b=vB o)(hf:∀b∈fp,FpOk X vA H b)(hp:s.heap.objs.size<=p)
  (hz:xs.length<=sizeLine) (r:Vals xs its) (ht:Tp h' p its):Inv X vA σ (upd H p (.tup xs)) {s with heap:=h',toks:=t'}:=by
 obtain⟨g0,g1,g2,g3,g4,g5⟩:=I.Im (H':=H) hp (I.hok.fresh hp);exact X3 (Zf I k hf) g0 (zC I.sz hp) g1 g4 g5 ⟨hz,its,r,_,ht,rfl,_,rfl⟩
end
def Src.sq(K:PySem.W.Frag)(H:Hp)(xs:List V):Src->Prop
 |.l a=>SqL K H a xs
 |.t a=>SqT K H a xs
variable{sr:Src}{ls:List Src}
theorem Src.sq.val{X:Cx}{xs:List V}(I:Inv X vA σ H s)(h:sr.sq X.K H xs):∃its:List xY,Vals xs its/\sr.val s.heap its.toArray/\xs.length<=sizeLine:=by
 cases sr with
 |l a=>obtain⟨its,r,p,hz⟩:=I.list h;exact⟨its,r,p.isList,hz⟩
 |t a=>obtain⟨its,r,p,hz⟩:=I.tuple h;exact⟨its,r,p,hz⟩
theorem Src.sq.inj{X:Cx}{xs ys:List V}(I:Inv X vA σ H s)(h:sr.sq X.K H xs)(h':sr.sq X.K H ys):xs=ys:=by
 cases sr with
 |l a=>exact I.Zq h h'
 |t a=>exact I.Xx h h'
def Ite(K:PySem.W.Frag)(sr:Src)(n:Int):It:=
 ⟨λi H=>∃xs x,sr.sq K H xs/\xs[i]?=vB x,λi H v H'=>∃p x,v=.ref p/\H p=vC/\H'=upd H p (.tup [.int (n+i),x])/\∀xs,sr.sq K H xs->xs[i]?=vB x,λi H=>∃xs,sr.sq K H xs/\xs.length<=i⟩
theorem ZE9{P:xX}{K:PySem.W.Frag}{x1}{pos:Pos}(sr:Src)(n:Int)(e it:jT)(hne:e≠it):
  Turn P w K (.Tuple elts x1 pos) (Ite K sr n) [e,it] e (λi h=>∃g old,En h e it .none (n+i) g old/\Gv (n+i) g/\sr.it h it i) where
 mem:=by simp
 obj:=λi h st b hb=>by
  obtain⟨g,old,he,_,o,ho,_,hd⟩:=st;rcases(show b=e∨b=it by simpa using hb)with rfl|rfl
  ·exact⟨_,he,λv z=>by cases z⟩
  ·exact⟨o,ho,λv z=>by rw[hd]at z;cases z⟩
 keep:=λi h h' st k=>by obtain⟨g,old,he,hg,hi⟩:=st;exact⟨g,old,k e (by simp) _ he,hg,hi.at λo q=>k it (by simp) o q⟩
 item:=by
  intro X hP hw hK hc i vA s σ H E I hf st hg;subst hP hw hK;obtain⟨xs,x,hq,hx⟩:=hg;obtain⟨its,rv,hv,hz⟩:=Src.sq.val I hq;obtain⟨u,hu,ru⟩:=rv.get hx;obtain⟨g,old,he,hgv,hi⟩:=st;refine ZKv he hgv hi hv (x:=u) (by simpa using hu) hne λh1 t tk e1 i1 t1 z1 k1=>⟨_,rfl,?_⟩
  refine ZOB (s:={s with heap:=h1,toks:=tk}) e1 λh2 e2 sb=>?_
  have hpe:s.heap.objs.size≠e:=qU (zY he);have I2:Inv X vA σ (upd H s.heap.objs.size (.tup [.int (n+i),x])) {s with heap:=h2,toks:=tk}:=
   ZFk (fp:=[e,it]) (its:=[.int (n+i) t,u]) I (λb o hb q=>by
    have hb':b≠e/\b≠it:=by simpa using hb
    exact sb.extBut b o hb'.1 (k1 b o hb'.1 hb'.2 q)) hf (zW _) (by show 2<=sizeLine;decide) (.cons ⟨t,rfl⟩ (.cons ru .nil)) (sb.extBut _ _ hpe t1)
  have hfr:H s.heap.objs.size=vC:=I.hok.fresh (zW _);refine⟨.ref s.heap.objs.size,_,I2,rfl,⟨_,x,rfl,hfr,rfl,λys hy=>by rw[Src.sq.inj I hy hq];exact hx⟩,⟨.none,u,?_,.inl rfl,i1.at λo q=>sb.extBut _ _ (Ne.symm hne) q⟩,λb hb=>?_⟩
  ·have ee:n+(i:Int)+1=n+((i+1:Nat):Int):=by lia
   rw[<-ee];exact e2
  ·have hb':b=e∨b=it:=by simpa using hb
   rw[Ay (λz=>?_)]
   ·exact(hf b hb).1
   ·rcases hb' with rfl|rfl
    ·exact hpe z.symm
    ·have hlt:=Src.it.lt hi;rw[z]at hlt;exact zS _ hlt
 done:=by
  intro X hP hw hK hc i vA s σ H E I hf st hg;subst hP hw hK;obtain⟨xs,hq,hx⟩:=hg;obtain⟨its,rv,hv,hz⟩:=Src.sq.val I hq;obtain⟨g,old,he,hgv,hi⟩:=st;have hl:=rv.length;refine ZJn (I.ok.hd hc) he hi hv (by simp;lia) λh1 xb=>⟨rfl,?_⟩
  exact Zf (t':=s.toks) (fp:=[e,it]) I (λb o hb q=>xb b o (λz=>hb (by simp[z])) q) hf
 self:=λ_ _ _ _ _ st h=>by obtain⟨g,old,he,_⟩:=st;exact ZAp he h
section
variable{X:Cx}{E:XK}
theorem ZMV{prog:xX}{A:jU}{E:xY->xW->Prop}{xs:Array xY}{Q:xY->xW->Prop}(hv:sr.val s.heap xs)
  (h:∀h',En h' (s.heap.objs.size+1) s.heap.objs.size .none 0 .none .none->sr.it h' s.heap.objs.size 0->(∀b o,s.heap.get? b=vB o->h'.get? b=vB o)->Q (.ref (s.heap.objs.size+1)) {s with heap:=h'}):
  vX (xS prog w) A (call (.type "enumerate") [.ref sr.adr]) Q E s:=by
 have g:Meets (Builtin.«enumerate.__new__» ⟨[.type "enumerate",.ref sr.adr],[]⟩) (λ_ R s=>sr.val s.heap xs/\
   R (.ok (.ret (.ref (s.heap.push {cls:=.type sr.itn,data:=.fields #[.ref sr.adr,.int 0 0]}).objs.size)))
    {s with heap:=(s.heap.push {cls:=.type sr.itn,data:=.fields #[.ref sr.adr,.int 0 0]}).push {cls:=.type "enumerate",data:=.fields #[.none,.bool vE,.ref s.heap.objs.size,xT 0,.none,.none]}}):=
  .of_wp λprog w A R s h=>by
   obtain⟨hp,g,d,tk,os⟩:=s;obtain⟨hl,h⟩:=h;have hsub:=sub_enumerate;have hL:sr.val (Shared.heap ⟨hp,g,d,tk,os⟩) xs:=hl
   wp_walk
   refine wpAny_stack_any λst=>v4 ?_
   split
   ·rename_i c _ _ _ _ _
    cases(c==Value.type "enumerate")<;>(wp_walk using Src.iter hL;exact⟨_,rfl,h⟩)
   ·wp_walk using Src.iter hL
    exact⟨_,rfl,h⟩
 refine callType_new PySem.F.called_enumerate (by decide) (PySem.F.typeCall_enumerate_1 _) (PySem.F.newCall_enumerate_1 _) (λobj=>PySem.F.args_object_init_2 obj _) PySem.F.entry_enumerate_new g ⟨hv,?_⟩;have hz:(s.heap.push {cls:=.type sr.itn,data:=.fields #[.ref sr.adr,.int 0 0]}).objs.size=s.heap.objs.size+1:=qw ..;show _/\_;rw[hz];have he:En ((s.heap.push {cls:=.type sr.itn,data:=.fields #[.ref sr.adr,.int 0 0]}).push {cls:=.type "enumerate",data:=.fields #[.none,.bool vE,.ref s.heap.objs.size,xT 0,.none,.none]}) (s.heap.objs.size+1) s.heap.objs.size .none 0 .none .none:=by
  have:=zy (s.heap.push {cls:=.type sr.itn,data:=.fields #[.ref sr.adr,.int 0 0]}) (o:={cls:=.type "enumerate",data:=.fields #[.none,.bool vE,.ref s.heap.objs.size,xT 0,.none,.none]}) rfl;rw[hz]at this;exact this
 exact⟨⟨_,he,rfl⟩,h _ he ⟨_,zQ _ (zy _ rfl),rfl,rfl⟩ λb o x=>zQ _ (zQ _ x)⟩
def ZMB(K:PySem.W.Frag)(ta:TA):TI:=λσ H R=>ta σ H λvs H1=>∃sr xs,vs=[.ref (Src.adr sr)]/\sr.sq K H1 xs/\R (Ite K sr 0) H1
theorem ZLT{elts:List xQ}{x1}{tp:Pos}{a:xQ}{ta:TA}{p pos:Pos}(hg:Gl X "enumerate")(hm:X.mg "enumerate"=vC)(ha:PA X [a] ta)(hs:vZ [a] X.env=[(vE,eval a X.env)]:=by rfl):PI X (.Tuple elts x1 tp) (.Call (.Name "enumerate" p) [a] [] pos) (ZMB X.K ta):=by
 intro vA s σ H R I h;refine Call_ (Ht I hg hm PyProof.Rows.boot_enumerate (PyProof.Rows.callWith_type1 (thn (ha pos vA s σ H _ I h) λus s1 ⟨vs,H1,I1,r1,q1⟩=>?_) hs rfl));obtain⟨sr,xs,e,hq,q⟩:=q1;subst e;cases r1 with
 |cons r rr=>
  cases rr;cases r;obtain⟨its,rv,hv,hz⟩:=Src.sq.val I1 hq;refine ZMV hv λh' he hi kp=>?_
  refine ZAp he ?_;have I2:Inv X vA σ H1 {s1 with heap:=h'}:=I1.kept (t':=s1.toks) kp;refine⟨s1.heap.objs.size+1,[s1.heap.objs.size+1,s1.heap.objs.size],_,_,H1,rfl,I2,ZE9 sr 0 _ _ (Nat.succ_ne_self _),⟨.none,.none,by simpa using he,.inl rfl,hi⟩,λb hb=>?_,q⟩;have hb':b=s1.heap.objs.size+1∨b=s1.heap.objs.size:=by simpa using hb
  have hle:s1.heap.objs.size<=b:=by rcases hb' with rfl|rfl<;>lia
  exact I1.Im hle (I1.hok.fresh hle)
end
inductive DrV (K:PySem.W.Frag) (H:Hp) (i:Nat):List Src->List V->Prop where
 |nil:DrV K H i [] []
 |cons {sr r v us xs} (hq:Src.sq K H xs sr) (hx:xs[i]?=vB v) (t:DrV K H i r us):DrV K H i (sr::r) (v::us)
inductive StV (K:PySem.W.Frag) (H:Hp) (i:Nat):List Src->Prop where
 |here {sr r xs} (hq:Src.sq K H xs sr) (hx:xs.length<=i):StV K H i (sr::r)
 |there {sr r v xs} (hq:Src.sq K H xs sr) (hx:xs[i]?=vB v) (t:StV K H i r):StV K H i (sr::r)
def Itz(K:PySem.W.Frag)(ls:List Src):It:=
 ⟨λi H=>∃us,DrV K H i ls us,λi H v H'=>∃p us,v=.ref p/\H p=vC/\H'=upd H p (.tup us)/\∀us',DrV K H i ls us'->us'=us,λi H=>StV K H i ls⟩
theorem DrV.length{K:PySem.W.Frag}{us:List V}(d:DrV K H i ls us):us.length=ls.length:=by
 induction d with
 |nil=>rfl
 |cons _ _ _ ih=>simp[ih]
section
variable{X:Cx}{vA:List (jT×Obj)}{σ:St}{H:Hp}{s:xW}
theorem DrV.inj(I:Inv X vA σ H s):∀{ls:List Src}{us us':List V},DrV X.K H i ls us->DrV X.K H i ls us'->us=us'
 |[],_,_,d,d'=>by cases d;cases d';rfl
 | sr::ls,_,_,d,d'=>by
  cases d with
  | cons hq hx t=>
   cases d' with
   |cons hq' hx' t'=>
    have e:=Src.sq.inj I hq hq';subst e;rw[hx]at hx';cases hx';rw[DrV.inj I t t']
theorem DrV.drw(I:Inv X vA σ H s):∀{l:List (Src×jT)}{us:List V},DrV X.K H i (l.map (·.1)) us->(∀q∈l,q.1.it s.heap q.2 i)->∃ws,Drw s.heap i l ws/\Vals us ws
 |[],us,d,h=>by cases d;exact⟨[],.nil,.nil⟩
 | (sr,p)::l,us,d,h=>by
  cases d with
  |cons hq hx t=>
   obtain⟨its,rv,hv,hz⟩:=Src.sq.val I hq;obtain⟨u,hu,ru⟩:=rv.get hx;obtain⟨ws,d',r'⟩:=DrV.drw I t λq hq=>h q (zJ _ hq)
   exact⟨u::ws,.cons (h (sr,p) zX) hv (by simpa using hu) d',.cons ru r'⟩
theorem StV.drw(I:Inv X vA σ H s):∀{l:List (Src×jT)},StV X.K H i (l.map (·.1))->(∀q∈l,q.1.it s.heap q.2 i)->DrwE s.heap i l
 |[],d,h=>by cases d
 | (sr,p)::l,d,h=>by
  cases d with
  |here hq hx=>
   obtain⟨its,rv,hv,hz⟩:=Src.sq.val I hq;have hl:=rv.length;exact .here (h (sr,p) zX) hv (by simp;lia)
  |there hq hx t=>
   obtain⟨its,rv,hv,hz⟩:=Src.sq.val I hq;obtain⟨u,hu,ru⟩:=rv.get hx;exact .there (h (sr,p) zX) hv (by simpa using hu) (StV.drw I t λq hq=>h q (zJ _ hq))
end
theorem ZJZ{P:xX}{K:PySem.W.Frag}{x1}{pos:Pos}(l:List (Src×jT))(z TI TO:jT)(a:ApZ TO l)(zz:z≠TO/\(∀q∈l,q.2≠z/\q.1.adr≠z))(tt:TI≠z/\TI≠TO/\∀q∈l,q.2≠TI)(hsz:l.length<=1000000)(hne:l≠[]):
  Turn P w K (.Tuple elts x1 pos) (Itz K (l.map (·.1))) (z::TI::TO::l.map (·.2)) z
   (λi h=>IsZip h z TI TO .none/\Tp h TI (l.map λq=>Value.ref q.2)/\(∃os,Tp h TO os/\os.length=l.length)/\∀q∈l,q.1.it h q.2 i) where
 mem:=by simp
 obj:=λi h st b hb=>by
  obtain⟨hz,hTI,⟨os,hTO,_⟩,hi⟩:=st;rcases zw.mp hb with rfl|hb
  ·exact⟨_,hz,λv z=>by cases z⟩
  ·rcases zw.mp hb with rfl|hb
   ·exact⟨_,hTI,λv z=>by cases z⟩
   ·rcases zw.mp hb with rfl|hb
    ·exact⟨_,hTO,λv z=>by cases z⟩
    ·obtain⟨q,hq,rfl⟩:=zF.mp hb;obtain⟨o,ho,_,hd⟩:=hi q hq;exact⟨o,ho,λv z=>by rw[hd]at z;cases z⟩
 keep:=λi h h' st k=>by obtain⟨hz,hTI,⟨os,hTO,ho⟩,hi⟩:=st;exact⟨k z (by simp) _ hz,k TI (by simp) _ hTI,⟨os,k TO (by simp) _ hTO,ho⟩,λq hq=>(hi q hq).at λo e=>k q.2 (by simp only[zw];exact .inr (.inr (.inr (zF.mpr ⟨q,hq,rfl⟩)))) o e⟩
 item:=by
  intro X hP hw hK hc i vA s σ H E I hf st hg;subst hP hw hK;obtain⟨us,dv⟩:=hg;obtain⟨hz,hTI,⟨os,hTO,ho⟩,hi⟩:=st;obtain⟨ws,dw,rv⟩:=DrV.drw I dv hi;refine ZGh hz hTI hTO ho hsz hne a zz dw λh1 z1 t1 i1 p1 s1 k1=>⟨_,rfl,?_⟩
  refine wpAny_letOwnedTupleGo_zip (s:={s with heap:=h1}) z1 λh2 z2 sb=>?_
  have hpz:s.heap.objs.size≠z:=qU (zY hz);have hul:us.length<=sizeLine:=by rw[dv.length,qJ];exact zC hsz size6
  have I2:Inv X vA σ (upd H s.heap.objs.size (.tup us)) {s with heap:=h2}:=
   ZFk (t':=s.toks) (fp:=z::TI::TO::l.map (·.2)) (its:=ws) I (λb o hb q=>by simp only[zw,not_or]at hb;exact sb.extBut b o hb.1 (k1 b o hb.1 hb.2.2.1 hb.2.2.2 q)) hf (zW _) hul rv (sb.extBut _ _ hpz p1)
  have hfr:H s.heap.objs.size=vC:=I.hok.fresh (zW _)
  have up:∀b o,b≠z->b≠TO->b∉l.map (·.2)->s.heap.get? b=vB o->h2.get? b=vB o:=λb o b1 b2 b3 q=>sb.extBut b o b1 (k1 b o b1 b2 b3 q)
  refine⟨.ref s.heap.objs.size,_,I2,rfl,⟨_,us,rfl,hfr,rfl,λus' d'=>DrV.inj I d' dv⟩,⟨z2,up TI _ tt.1 tt.2.1 (λhm=>?_) hTI,⟨ws,sb.extBut _ _ (Ne.symm zz.1) t1,dw.length⟩,λq hq=>(i1 q hq).at λo e=>sb.extBut _ _ (zz.2 q hq).1 e⟩,λb hb=>?_⟩
  ·obtain⟨q,hq,e⟩:=zF.mp hm;exact tt.2.2 q hq e
  ·rw [Ay (λe=>?_)]
   ·exact(hf b hb).1
   ·have lt:b<s.heap.objs.size:=by
     rcases zw.mp hb with rfl|hb
     ·exact zY hz
     ·rcases zw.mp hb with rfl|hb
      ·exact zY hTI
      ·rcases zw.mp hb with rfl|hb
       ·exact zY hTO
       ·obtain⟨q,hq,rfl⟩:=zF.mp hb;exact(hi q hq).lt
    rw[e]at lt;exact zS _ lt
 done:=by
  intro X hP hw hK hc i vA s σ H E I hf st hg;subst hP hw hK;obtain⟨hz,hTI,⟨os,hTO,ho⟩,hi⟩:=st;have dw:=StV.drw I hg hi;refine ZG9 (I.ok.hd hc) hz hTI hTO ho hsz hne a zz dw λh1 k1=>⟨rfl,?_⟩
  exact Zf (t':=s.toks) (fp:=z::TI::TO::l.map (·.2)) I (λb o hb q=>by simp only[zw,not_or]at hb;exact k1 b o hb.1 hb.2.2.1 hb.2.2.2 q) hf
 self:=λ_ _ _ _ _ st h=>wpAny_pyIter_zip st.1 h
def Gh (G:DH) (j:Nat):List D->Option (Option (List D))
 |[]=>vB (vB [])
 | d::r=>match Bk d G with
  |none=>vC
  | some xs=>match xs[j]? with
   |none=>vB vC
   |some x=>match Gh G j r with
    |some (vB ys)=>vB (vB (x::ys))
    |o=>o
def Ft(ds:List D)(j:Nat)(G:DH):Option (Option D):=(Gh G j ds).map λo=>o.map D.tup
def lenOf(G:DH)(d:D):Nat:=match Bk d G with
 |some xs=>xs.length
 |none=>0
def Jb(G:DH)(d:D):Bool:=(Bk d G).isSome
def Dh(n:Int)(d:D)(j:Nat)(G:DH):Option (Option D):=match Bk d G with
 |none=>vC
 |some xs=>vB (xs[j]?.map λx=>.tup [.int (n+j),x])
def Gu(ds:List D)(G:DH):R ItD:=match ds with
 |[d]=>if Jb G d=vD then .ok (.fn (lenOf G d) (Dh 0 d)) G else .bad
 |_=>.bad
def Gz(n:Nat)(ds:List D)(G:DH):R ItD:=if ds.all (Jb G)=vD/\ds.length=n then .ok (.fn (lenOf G (ds.headD .non)) (Ft ds)) G else .bad
section
variable{X:Cx}{E:XK}
theorem ZAs{G:DH}{d:D}{v:V}{xs:List D}(s:Sim a G)(r:Rep a d v)(h:Bk d G=vB xs):
  ∃sr:Src,v=.ref sr.adr/\(∃vs,sr.sq a.K a.H vs)/\∀b:Wd,Ext a b->∀G',Sim b G'->∀ys,Bk d G'=vB ys->∃us,sr.sq b.K b.H us/\Reps b ys us:=by
 cases d with
 |tup ds=>
  obtain⟨p,vs,rfl,hq,rv⟩:=r;refine⟨.t p,rfl,⟨vs,hq⟩,λb x G' s' ys hy=>?_⟩
  cases(show vB ds=vB ys from hy)
  exact⟨vs,x.sqT hq,rv.mono x⟩
 |fl ds=>
  obtain⟨p,vs,rfl,hq,rv⟩:=r;refine⟨.l p,rfl,⟨vs,hq.sq⟩,λb x G' s' ys hy=>?_⟩
  cases(show vB ds=vB ys from hy)
  exact⟨vs,(x.fzL hq).sq,rv.mono x⟩
 | ref i=>
  obtain⟨hi,rfl⟩:=r;have hx:∃zs,G[i]?=vB (.lst zs):=by
   unfold Bk at h;dsimp only at h;split at h
   ·rename_i zs hz;exact⟨zs,hz⟩
   ·cases h
  obtain⟨zs,hz⟩:=hx;obtain⟨vs,e1,_⟩:=s.lst hz;refine⟨.l (a.m i),rfl,⟨vs,.of e1⟩,λb x G' s' ys hy=>?_⟩;unfold Bk at hy;dsimp only at hy;split at hy
  ·rename_i zs' hz';cases hy;obtain⟨us,e2,r2⟩:=s'.lst hz';rw[x.m i hi]at e2;exact⟨us,.of e2,r2⟩
  ·cases hy
 |_=>cases h
theorem ZIU{G:DH}{d:D}{v:V}(hk:a.K=X.K)(rd:∀b:Wd,Ext a b->∀G',Sim b G'->∀ys,Bk d G'=vB ys->∃us,sr.sq b.K b.H us/\Reps b ys us)(n:Nat):RepI a (.fn n (Dh 0 d)) (Ite X.K sr 0):=by
 intro b x G' s' i;have kb:b.K=X.K:=x.k.trans hk;constructor
 ·intro e he;unfold Dh at he;split at he
  ·cases he
  ·rename_i ys hy;obtain⟨us,hq,ru⟩:=rd b x G' s' ys hy;rw[kb]at hq;cases hyi:ys[i]? with
   |none=>rw[hyi]at he;cases he
   |some y=>
    rw[hyi]at he;have he':D.tup [.int (0+i),y]=e:=by simpa using he
    subst he';obtain⟨u,hu,rx⟩:=ru.get hyi;refine⟨⟨us,u,hq,hu⟩,?_⟩;rintro w H' ⟨p,u',rfl,hp,rfl,hu'⟩;refine⟨b.put p (.tup [.int (0+i),u']),rfl,Ext.put hp,s'.put hp,p,_,rfl,.of Eo,?_⟩;have e1:=hu' us hq;rw[hu]at e1;cases e1;exact⟨_,_,rfl,rfl,Reps.cons (rx.mono (Ext.put hp)) rfl⟩
 ·intro he;unfold Dh at he;split at he
  ·cases he
  ·rename_i ys hy;obtain⟨us,hq,ru⟩:=rd b x G' s' ys hy;rw[kb]at hq;cases hyi:ys[i]? with
   |none=>exact⟨us,hq,by rw[<-ru.length];exact qP.mp hyi⟩
   |some y=>rw[hyi]at he;cases he
theorem Qt{elts:List xQ}{x1}{tp:Pos}{e:xQ}{p pos:Pos}(hg:Gl X "enumerate")(hm:X.mg "enumerate"=vC)(ha:QA X E [e] ta)(hs:vZ [e] X.env=[(vE,eval e X.env)]:=by rfl):
  QI X E (.Tuple elts x1 tp) (.Call (.Name "enumerate" p) [e] [] pos) (Dr Gu ta):=(ZLT hg hm ha hs).mono λσ H Q h=>by
 obtain⟨a,S,G,hk,rfl,s,r,h⟩:=h;refine⟨a,S,G,hk,rfl,s,r,(Oq h).imp ?_⟩;rintro vs _ ⟨b,ds,G1,rfl,x,s1,q,-,h1⟩;unfold Gu at h1;split at h1
 ·rename_i d;split at h1
  ·rename_i hok;obtain⟨v,r,e1,q1,q2⟩:=q
   cases(show r=[]from q2)
   subst e1
   obtain⟨xs,hx⟩:=jK.mp (show(Bk d G1).isSome=vD from hok)
   obtain⟨sr,rfl,⟨us,hq⟩,rd⟩:=ZAs s1 q1 hx;have kb:b.K=X.K:=x.k.trans hk;exact⟨sr,us,rfl,by rw[<-kb];exact hq,h1 b _ (Ext.refl b) s1 (ZIU (G:=G1) (v:=.non) kb rd _)⟩
  ·exact h1.elim
 ·exact h1.elim
theorem ZFO{G:DH}(s:Sim a G):∀{ds:List D}{vs:List V},Reps a ds vs->ds.all (Jb G)=vD->∃ls:List Src,vs=ls.map (λsr=>V.ref sr.adr)/\(∀sr∈ls,∃us,sr.sq a.K a.H us)/\
   ∀b:Wd,Ext a b->∀G',Sim b G'->∀i,(∀ys,Gh G' i ds=vB (vB ys)->∃us,DrV b.K b.H i ls us/\Reps b ys us)/\(Gh G' i ds=vB vC->StV b.K b.H i ls)
 |[],vs,r,_=>by
  cases(show vs=[]from r)
  refine⟨[],rfl,(λ_ h=>nomatch h),λb x G' s' i=>⟨λys h=>?_,λh=>?_⟩⟩
  ·cases h;exact⟨[],.nil,rfl⟩
  ·cases h
 | d::ds,vs,r,h=>by
  rw[j2,zB]at h;obtain⟨v,vr,rfl,q1,q2⟩:=r
  obtain⟨xs,hx⟩:=jK.mp (show(Bk d G).isSome=vD from h.1)
  obtain⟨sr,rfl,hq,rd⟩:=ZAs s q1 hx;obtain⟨ls,rfl,hqs,rds⟩:=ZFO s q2 h.2;refine⟨sr::ls,rfl,λsr' hm=>?_,λb x G' s' i=>⟨λys hy=>?_,λhy=>?_⟩⟩
  ·rcases zw.mp hm with rfl|hm
   ·exact hq
   ·exact hqs sr' hm
  ·unfold Gh at hy;split at hy
   ·cases hy
   ·rename_i zs hz;obtain⟨us,hu,ru⟩:=rd b x G' s' zs hz;split at hy
    ·cases hy
    ·rename_i y hyi;obtain⟨u,hui,rx⟩:=ru.get hyi;split at hy
     ·rename_i ys' hys;cases hy;obtain⟨us',d',r'⟩:=(rds b x G' s' i).1 ys' hys;exact⟨u::us',.cons hu hui d',Reps.cons rx r'⟩
     ·rename_i hno;exact absurd hy (hno _)
  ·unfold Gh at hy;split at hy
   ·cases hy
   ·rename_i zs hz;obtain⟨us,hu,ru⟩:=rd b x G' s' zs hz;split at hy
    ·rename_i hyi;exact .here hu (by rw[<-ru.length];exact qP.mp hyi)
    ·rename_i y hyi;obtain⟨u,hui,rx⟩:=ru.get hyi;split at hy
     ·cases hy
     ·exact .there hu hui ((rds b x G' s' i).2 hy)
theorem ZKg{ds:List D}(hk:a.K=X.K)(rd:∀b:Wd,Ext a b->∀G',Sim b G'->∀i,(∀ys,Gh G' i ds=vB (vB ys)->∃us,DrV b.K b.H i ls us/\Reps b ys us)/\(Gh G' i ds=vB vC->StV b.K b.H i ls))(n:Nat):
  RepI a (.fn n (Ft ds)) (Itz X.K ls):=by
 intro b x G' s' i;have kb:b.K=X.K:=x.k.trans hk;constructor
 ·intro e he;unfold Ft at he;cases hz:Gh G' i ds with
  |none=>rw[hz]at he;cases he
  | some o=>
   cases o with
   |none=>rw[hz]at he;cases he
   |some ys=>
    rw[hz]at he;have he':D.tup ys=e:=by simpa using he
    subst he';obtain⟨us,d,ru⟩:=(rd b x G' s' i).1 ys hz;rw[kb]at d;refine⟨⟨us,d⟩,?_⟩;rintro w H' ⟨p,us',rfl,hp,rfl,hu'⟩;cases hu' us d;exact⟨b.put p (.tup us),rfl,Ext.put hp,s'.put hp,p,us,rfl,.of Eo,ru.mono (Ext.put hp)⟩
 ·intro he;unfold Ft at he;cases hz:Gh G' i ds with
  |none=>rw[hz]at he;cases he
  | some o=>
   cases o with
   |none=>
    have:=(rd b x G' s' i).2 hz;rw[kb]at this;exact this
   |some ys=>rw[hz]at he;cases he
def ZAl(n:Nat)(K:PySem.W.Frag)(ta:TA):TI:=λσ H R=>ta σ H λvs H1=>∃ls:List Src,vs=ls.map (λsr=>V.ref sr.adr)/\(∀sr∈ls,∃us,sr.sq K H1 us)/\ls.length=n/\R (Itz K ls) H1
theorem ZAJ:∀{ls:List Src}{us:List xY},Vals (ls.map λsr=>V.ref sr.adr) us->us=ls.map λsr=>Value.ref sr.adr
 |[],us,h=>by cases h;rfl
 | sr::ls,us,h=>by
  rw[zG]at h;cases h with
  |cons r rr=>
   cases r;rw[ZAJ rr]
   rfl
theorem Ro{n:Nat}{q:Src×Nat}(h:q∈ls.zipIdx n):q.1∈ls/\n<=q.2/\q.2<n+ls.length:=by obtain⟨i,hi,rfl⟩:=qK h;simp only[List.length_zipIdx]at hi;simp only[List.getElem_zipIdx];exact⟨qx hi,by lia,by lia⟩
theorem ZGZ{x1}{tp:Pos}{R:It->Hp->Prop}(I:Inv X vA σ H s)(hq:∀sr∈ls,∃us,sr.sq X.K H us)(hne:ls≠[])(hl:ls.length<=1000000)
  (hct:checkTypeCall "zip" ⟨ls.map λsr=>Value.ref sr.adr,[]⟩=pure ()) (hcn:xC "zip.__new__" ⟨.type "zip"::ls.map λsr=>Value.ref sr.adr,[]⟩=pure ()) (hok:∀obj,argsOk "object.__init__" ⟨obj::ls.map λsr=>Value.ref sr.adr,[]⟩)
  (q:R (Itz X.K ls) H):vX (xS X.prog X.w) X.A (call (.type "zip") (ls.map λsr=>Value.ref sr.adr)) (λv s1=>vX (xS X.prog X.w) X.A (pyIter v) (PIE X vA σ (.Tuple elts x1 tp) R) X.xe s1) X.xe s:=by
 have hv:∀sr∈ls,∃xs,sr.val s.heap xs:=λsr hm=>by obtain⟨us,h⟩:=hq sr hm;obtain⟨its,_,h',_⟩:=Src.sq.val I h;exact⟨_,h'⟩
 have hlt:∀sr∈ls,sr.adr<s.heap.objs.size:=λsr hm=>by obtain⟨xs,h⟩:=hv sr hm;obtain⟨o,n,ho,_⟩:=h.obj;exact zY ho
 refine ZIe hv hl hct hcn hok λh' n hn hz hTI hTO hi kp=>?_
 refine wpAny_pyIter_zip hz ?_;have I2:Inv X vA σ H {s with heap:=h'}:=I.kept (t':=s.toks) kp
 have em:(ls.zipIdx s.heap.objs.size).map (·.1)=ls:=by refine qF (by simp) λi h1 h2=>by simp
 have e2:(ls.zipIdx s.heap.objs.size).map (·.2)=List.range' s.heap.objs.size ls.length:=by refine qF (by simp) λi h1 h2=>by simp[Nat.add_comm]
 have qb:∀q∈ls.zipIdx s.heap.objs.size,q.1.adr<s.heap.objs.size/\s.heap.objs.size<=q.2/\q.2<n:=λq hm=>⟨hlt _ (Ro hm).1,(Ro hm).2.1,by rw[hn];exact(Ro hm).2.2⟩
 have hsn:s.heap.objs.size<=n:=by rw[hn];exact jI _ _
 have ap:ApZ (n+1) (ls.zipIdx s.heap.objs.size):=⟨by rw[e2];exact List.nodup_range',λq hm=>zE (zV (qb q hm).1 (Nat.le_succ_of_le hsn)),λq hm r hr=>zE (zV (qb q hm).1 (qb r hr).2.1),λq hm=>zE (qM (qb q hm).2.2)⟩;have T:=ZJZ (P:=X.prog) (w:=X.w) (K:=X.K) (elts:=elts) (x1:=x1) (pos:=tp) (ls.zipIdx s.heap.objs.size) (n+2) n (n+1) ap ⟨Nat.succ_ne_self (n+1),λq hm=>⟨zE (zV (qb q hm).2.2 (jI n 2)),zE (zV (qb q hm).1 (zC hsn (jI n 2)))⟩⟩
  ⟨zE (Nat.lt_add_of_pos_right (by decide)),zE (qX n),λq hm=>zE (qb q hm).2.2⟩ (by simpa using hl) (by intro e;apply hne;rw[<-em,e];rfl)
 rw [em]at T;refine⟨n+2,_,_,_,H,rfl,I2,T,⟨hz,hTI,⟨_,hTO,by simp⟩,hi⟩,λb hb=>?_,q⟩;have hle:s.heap.objs.size<=b:=by
  rcases zw.mp hb with rfl|hb
  ·exact zC hsn (jI n 2)
  ·rcases zw.mp hb with rfl|hb
   ·exact hsn
   ·rcases zw.mp hb with rfl|hb
    ·exact Nat.le_succ_of_le hsn
    ·obtain⟨q,hq,rfl⟩:=zF.mp hb;exact(Ro hq).2.1
 exact I.Im hle (I.hok.fresh hle)
theorem ZOx(a b c:xY):checkTypeCall "zip" ⟨[a,b,c],[]⟩=pure ():=by kernel_rfl
theorem ZIw(a b c:xY):xC "zip.__new__" ⟨[.type "zip",a,b,c],[]⟩=pure ():=by kernel_rfl
theorem ZL1(a b c d:xY):argsOk "object.__init__" ⟨[a,b,c,d],[]⟩:=by unfold argsOk;rw[signature?_of (id:="object.__init__") (n:=['_','_','t','i','n','i','_','_']) (o:=['t','c','e','j','b','o']) (by kernel_rfl) PySem.F.owner_object];kernel_rfl
theorem ZMN{elts:List xQ}{x1}{tp:Pos}{a b:xQ}{ta:TA}{p pos:Pos}(hg:Gl X "zip")(hm:X.mg "zip"=vC)(ha:PA X [a,b] ta)(hs:vZ [a,b] X.env=[(vE,eval a X.env),(vE,eval b X.env)]:=by rfl)(hs2:vZ [b] X.env=[(vE,eval b X.env)]:=by rfl):
  PI X (.Tuple elts x1 tp) (.Call (.Name "zip" p) [a,b] [] pos) (ZAl 2 X.K ta):=by
 intro vA s σ H R I h;refine Call_ (Ht I hg hm PyProof.Rows.boot_zip (PyProof.Rows.callWith_type1 (thn (ha pos vA s σ H _ I h) λus s1 ⟨vs,H1,I1,r1,q1⟩=>?_) (by rw[hs,hs2]) (by rw[hs2];rfl)));obtain⟨ls,rfl,hq,hl,q⟩:=q1;cases ZAJ r1
 match ls,hl with
 |[x,y],_=>exact ZGZ I1 hq (by simp) (by simp) (PySem.F.typeCall_zip_2 _ _) (PySem.F.newCall_zip_2 _ _) (λobj=>PySem.F.args_object_init_3 obj _ _) q
theorem ZJP{elts:List xQ}{x1}{tp:Pos}{a b c:xQ}{ta:TA}{p pos:Pos}(hg:Gl X "zip")(hm:X.mg "zip"=vC)(ha:PA X [a,b,c] ta)(hs:vZ [a,b,c] X.env=[(vE,eval a X.env),(vE,eval b X.env),(vE,eval c X.env)]:=by rfl)
  (hs2:vZ [b,c] X.env=[(vE,eval b X.env),(vE,eval c X.env)]:=by rfl):PI X (.Tuple elts x1 tp) (.Call (.Name "zip" p) [a,b,c] [] pos) (ZAl 3 X.K ta):=by
 intro vA s σ H R I h;refine Call_ (Ht I hg hm PyProof.Rows.boot_zip (PyProof.Rows.callWith_type1 (thn (ha pos vA s σ H _ I h) λus s1 ⟨vs,H1,I1,r1,q1⟩=>?_) (by rw[hs,hs2]) (by rw[hs2];rfl)));obtain⟨ls,rfl,hq,hl,q⟩:=q1;cases ZAJ r1
 match ls,hl with
 |[x,y,z],_=>exact ZGZ I1 hq (by simp) (by simp) (ZOx _ _ _) (ZIw _ _ _) (λobj=>ZL1 obj _ _ _) q
theorem ZFs{K:PySem.W.Frag}{n:Nat}{Q:It->Hp->Prop}(hK:K=X.K)(h:lI K E (Dr (Gz n) ta) σ H Q):ZAl n K (lA K E ta) σ H Q:=by
 subst hK;obtain⟨a,S,G,hk,rfl,s,r,h⟩:=h;refine⟨a,S,G,hk,rfl,s,r,(Oq h).imp ?_⟩;rintro vs _ ⟨b,ds,G1,rfl,x,s1,q,-,h1⟩;unfold Gz at h1;split at h1
 ·rename_i hok;obtain⟨ls,e,hq,rd⟩:=ZFO s1 q hok.1;have kb:b.K=X.K:=x.k.trans hk;have hl:ls.length=n:=by have:=q.length;rw[e,qJ]at this;lia
  exact⟨ls,e,λsr hm=>by rw[<-kb];exact hq sr hm,hl,h1 b _ (Ext.refl b) s1 (ZKg kb rd _)⟩
 ·exact h1.elim
theorem ZDg{elts:List xQ}{x1}{tp:Pos}{a b:xQ}{p pos:Pos}(hg:Gl X "zip")(hm:X.mg "zip"=vC)(ha:QA X E [a,b] ta)(hs:vZ [a,b] X.env=[(vE,eval a X.env),(vE,eval b X.env)]:=by rfl)(hs2:vZ [b] X.env=[(vE,eval b X.env)]:=by rfl):
  QI X E (.Tuple elts x1 tp) (.Call (.Name "zip" p) [a,b] [] pos) (Dr (Gz 2) ta):=(ZMN hg hm ha hs hs2).mono λσ H Q h=>ZFs rfl h
theorem ZHC{elts:List xQ}{x1}{tp:Pos}{a b c:xQ}{p pos:Pos}(hg:Gl X "zip")(hm:X.mg "zip"=vC)(ha:QA X E [a,b,c] ta)(hs:vZ [a,b,c] X.env=[(vE,eval a X.env),(vE,eval b X.env),(vE,eval c X.env)]:=by rfl)
  (hs2:vZ [b,c] X.env=[(vE,eval b X.env),(vE,eval c X.env)]:=by rfl):QI X E (.Tuple elts x1 tp) (.Call (.Name "zip" p) [a,b,c] [] pos) (Dr (Gz 3) ta):=(ZJP hg hm ha hs hs2).mono λσ H Q h=>ZFs rfl h
end
def ixL:D->D->DH->R D
 | .ref p,.int k,G=>match G[p]? with
  |some (.lst xs)=>match atI xs k with
   |some v=>.ok v G
   |none=>.bad
  |_=>.bad
 |_,_,_=>.bad
def Nu(to ti te:DE)(f:D->D->DH->R D):DS:=λS G=>(to S G).toS λo G1=>(ti S G1).toS λi G2=>(ixL o i G2).toS λx G3=>(te S G3).toS λy G4=>(f x y G4).toS λz G5=>(Jt o i z G5).toS λ_ G6=>.nx S G6
noncomputable def Zr:DS:=λ_ _=>.bad
section
variable{X:Cx}{E:XK}
theorem ZFY{st:xK}:QS X E st Zr:=λvA s σ H W I h=>by obtain⟨a,S,G,hk,rfl,sm,r,h⟩:=h;exact h.elim
theorem Th{o i e:xQ}{op:Operator}{to ti te:DE}{f:D->D->DH->R D}{tpos pos:Pos}(ho:QE X E o to)(hi:QE X E i ti)(he:QE X E e te)(hop:OpR X (inplaceOp op) (lR2 X.K E f))
  (ha:∀ov iv new,augStore i ov iv new=(do holding [new,ov,iv] (setItem ov iv new);release [new,ov,iv] [];pure .next):=by intros;rfl):QS X E (.AugAssign (.Subscript o i tpos) op e pos) (Nu to ti te f):=by
 intro vA s σ H W I h;obtain⟨a,S,G,hk,rfl,sm,r,h⟩:=h;refine wpAny_AugAssign_SubscriptAny (thn (ho vA s σ a.H _ I ⟨a,S,G,hk,rfl,sm,r,Ge h⟩) ?_) ha;rintro ov s1 ⟨vo,H1,I1,ro,b1,o,G1,rfl,x1,m1,q1,_,h1⟩;have k1:=x1.k.trans hk;refine thn (hi vA s1 σ b1.H _ I1 ⟨b1,S,G1,k1,rfl,m1,r.mono x1,Ge h1⟩) ?_;rintro iv s2 ⟨vi,H2,I2,ri,b2,i,G2,rfl,x2,m2,q2,_,h2⟩;have k2:=x2.k.trans k1;have q1':=q1.mono x2;cases i with
 | int k=>
  cases o with
  | ref p=>
   obtain⟨hp,rfl⟩:=q1'
   cases(show vi=V.int k from q2)
   cases ro;obtain⟨t,rfl⟩:=ri;unfold ixL at h2;dsimp only at h2;split at h2
   ·rename_i xs hx';obtain⟨vs,e1,r1⟩:=m2.lst hx';split at h2
    ·rename_i d hd;obtain⟨v,ev,rd⟩:=ZEx r1 hd;have h2':Br E b2 ((te S G2).toS λy G4=>(f d y G4).toS λz G5=>(Jt (.ref p) (.int k) z G5).toS λ_ G6=>.nx S G6) W:=h2;obtain⟨its,rv,pl,hz⟩:=I2.list (.of e1);obtain⟨j,g1,g2,g3,g4,g5⟩:=Uu ev;obtain⟨w,ew,rw'⟩:=rv.get g2;have hl:=rv.length;have hn:=line63;have fin:vX (xS X.prog X.w) X.A (getItem (.ref (b2.m p)) (.int k t)) (λold s3=>old=w/\s3=s2) X.xe s2:=by
      by_cases h0:0<=k
      ·have hj:k.toNat=j:=by rw[seqIndex_of h0 g5]at g1;exact Option.some.inj g1
       exact wpAny_getItem_list pl.isList h0 (by lia) (by rw[hj];simpa using ew) ⟨rfl,rfl⟩
      ·have hj:(k+(its.toArray.size:Int)).toNat=j:=by rw[seqIndex_neg (by lia) g4]at g1;rw[zK,<-hl];exact Option.some.inj g1
       exact wpAny_getItem_list_neg pl.isList (by lia) (by rw[zK]<;>lia) (by lia) (by rw[hj];simpa using ew) ⟨rfl,rfl⟩
     refine thn fin ?_;rintro old s3 ⟨rfl,rfl⟩;refine thn (he vA s3 σ b2.H _ I2 ⟨b2,S,G2,k2,rfl,m2,(r.mono x1).mono x2,Ge h2'⟩) ?_;rintro yv s4 ⟨vy,H4,I4,ry,b4,y,G4,rfl,x4,m4,q4,_,h4⟩;have k4:=x4.k.trans k2;refine thn (hop vA s4 σ b4.H v vy old yv _ I4 rw' ry ⟨b4,G4,d,y,k4,rfl,m4,rd.mono x4,q4,Ge h4⟩) ?_;rintro new s5 ⟨vn,H5,I5,rn,b5,z,G5,rfl,x5,m5,q5,_,h5⟩;unfold Jt at h5;dsimp only at h5;split at h5
     ·rename_i ys hy;split at h5
      ·rename_i jj hjj;obtain⟨ws,e5,r5⟩:=m5.lst hy;have hp5:p<b5.n:=zV hp (zC x4.n x5.n);have em:b5.m p=b2.m p:=(x5.m p (zV hp x4.n)).trans (x4.m p hp);obtain⟨x6,m6⟩:=Vg m5 hp5 e5 (r5.set q5 jj);refine thn (set_list vA s5 σ b5.H (.ref (b2.m p)) (.int k) vn (.ref (b2.m p)) (.int k t) new (λH'=>W.nx σ H') I5 rfl ⟨t,rfl⟩ rn ⟨b5.m p,ws,k,jj,by rw[em],rfl,e5,by rw[<-r5.length];exact hjj,?_⟩) ?_
       ·exact h5 _ σ x6 m6 (((((r.mono x1).mono x2).mono x4).mono x5).mono x6)
       ·rintro _ s6 ⟨H6,I6,q6⟩;exact⟨σ,H6,I6,q6⟩
      ·exact h5.elim
     ·exact h5.elim
    ·exact h2.elim
   ·exact h2.elim
  |_=>exact(show False from h2).elim
 |_=>cases o<;>exact(show False from h2).elim
end
def Mq(ds:List D)(G:DH):R D:=match ds with
 | [d]=>match Bk d G with
  |some xs=>match Fy xs with
   |some (n::ns)=>.ok (.int (ns.foldl min n)) G
   |_=>.bad
  |none=>.bad
 |_=>.bad
theorem U4:∀(ns:List Int)(n:Int),ns.foldl min n<=n/\(∀x∈ns,ns.foldl min n<=x)/\(ns.foldl min n=n∨ns.foldl min n∈ns)
 |[],n=>⟨qE _,λx h=>(by cases h),.inl rfl⟩
 | m::ns,n=>by
  obtain⟨h1,h2,h3⟩:=U4 ns (min n m);rw[List.foldl_cons];refine⟨by lia,λx hx=>?_,?_⟩
  ·rcases zw.mp hx with rfl|hx
   ·lia
   ·exact h2 x hx
  ·rcases h3 with h|h
   ·by_cases e:n<=m
    ·exact .inl (by rw[h];lia)
    ·exact .inr (by rw[h];rw[show min n m=m by lia];exact zX)
   ·exact .inr (zJ _ h)
section
variable{X:Cx}{E:XK}
theorem intAt{ns:List Int}{its:List xY}{w:xY}(hv:Vals (ns.map V.int) its)(hw:its.toArray[i]?=vB w):i<ns.length/\∃t,w=.int (ns.getD i 0) t:=by
 have hw':its[i]?=vB w:=by simpa using hw
 have hl:i<(ns.map V.int).length:=by rw[hv.length];exact(zH.mp hw').1
 have hl':i<ns.length:=by simpa using hl
 obtain⟨u,hu,ru⟩:=hv.get (i:=i) (x:=V.int ns[i]) (by simp[hl']);rw[hw']at hu;cases hu;obtain⟨t,rfl⟩:=ru;exact⟨hl',t,by simp[hl']⟩
theorem ZNL(hc:X.calm=vD):CallR X (.builtin "min") (lRn X.K E Mq):=by
 intro vA s σ H vs us Q I rs h;obtain⟨a,G,ds,hk,rfl,sm,r,q⟩:=h;unfold Mq at q;split at q
 ·rename_i d;obtain⟨v,rfl,rv⟩:=reps1 r;split at q
  ·rename_i xs hs;split at q
   ·rename_i n ns hn;cases ZAz hn;obtain⟨p,ws,rfl,h1,r1⟩:=M8 sm rv hs;cases ZDL r1;rw[hk]at h1;obtain⟨u,rfl,ru⟩:=vals1 rs;cases ru;refine call_min_walk (ZHn I hc h1 λit fp wr its St s₂ hv W st hfp fin=>⟨it,fp,wr,its.toArray.size,_,St,_,rfl,W,st,hfp,?_,CmpOf.ints_lt (λi=>(n::ns).getD i 0) (λi w hw=>(intAt hv hw).2),λw h' tk hw kk=>?_⟩)
    ·rw[zK,<-hv.length];simp
    ·obtain⟨hl,t,rfl⟩:=intAt hv hw;obtain⟨b1,b2⟩:=argBest_lt (λi=>(n::ns).getD i 0) (its.toArray.size-1);refine⟨.int (ns.foldl min n),a.H,fin h' tk kk,⟨t,?_⟩,q a _ (Ext.refl a) sm rfl⟩;have hsz:its.toArray.size=ns.length+1:=by rw[zK,<-hv.length];simp
     obtain⟨m1,m2,m3⟩:=U4 ns n;have hle:∀x∈n::ns,ns.foldl min n<=x:=λx hx=>by
      rcases zw.mp hx with rfl|hx
      ·exact m1
      ·exact m2 x hx
     have hin:ns.foldl min n∈n::ns:=by
      rcases m3 with h|h
      ·rw[h];exact zX
      ·exact zJ _ h
     obtain⟨j,hj,ej⟩:=qK hin;have c1:=b2 j (by simp at hj;lia);have c2:=hle _ (qx hl);have e1:(n::ns).getD j 0=ns.foldl min n:=by rw[zA,zZ hj];exact ej
     have e2:(n::ns).getD (argBest (λi j=>decide ((λi=>(n::ns).getD i 0) i<(λi=>(n::ns).getD i 0) j)) (its.toArray.size-1)) 0=(n::ns)[argBest (λi j=>decide ((λi=>(n::ns).getD i 0) i<(λi=>(n::ns).getD i 0) j)) (its.toArray.size-1)]:=by rw[zA,zZ hl];rfl
     have c1':=c1;rw[e1]at c1';rw[<-e2]at c2
     congr 1
     exact Int.le_antisymm c1' c2
   ·exact q.elim
  ·exact q.elim
 ·exact q.elim
def Jd:D->D->DH->R D
 |.ref p,.int k,G=>match G[p]? with
  |some (.lst xs)=>if -(2^63)<=k/\k<2^63/\xs.length*k.toNat<=1000000 then .ok (.ref G.length) (G++[.lst (zx k.toNat xs).flatten])else .bad
  |_=>.bad
 |_,_,_=>.bad
theorem Reps.rep{ds:List D}{vs:List V}(r:Reps a ds vs):∀k,Reps a (zx k ds).flatten (zx k vs).flatten
 |0=>rfl
 |k+1=>by rw[qW,qW,qH,qH];exact r.append (Reps.rep r k)
theorem ZCE:OpR X (x9 .Mult) (lR2 X.K E Jd):=ZJd.mono λx y H Q h=>by
 obtain⟨a,G,d,e,hk,rfl,s,rd,re,q⟩:=h;cases d with
 | ref p=>
  cases e with
  | int k=>
   unfold Jd at q;dsimp only at q;split at q
   ·rename_i xs hx;split at q
    ·rename_i hc;obtain⟨vs,e1,r1⟩:=s.lst hx;obtain⟨hp,rfl⟩:=rd;refine⟨a.m p,k,vs,rfl,re,e1,hc.1,hc.2.1,?_,λp hp=>K5 s (Reps.rep r1 k.toNat) q p hp⟩;rw[<-r1.length];exact zC hc.2.2 size6
    ·exact q.elim
   ·exact q.elim
  |_=>exact(show False from q).elim
 |_=>exact(show False from q).elim
end
end _D
namespace _D
open PySem PySem.W PyProof.Rows
def Safe(n:Nat){α:Type}(P:α->Prop):KasT α->Prop
 |.ret a=>P a
 |.ask i j k=>i<n/\j<n/\∀b,Safe n P (k b)
theorem Safe.bind{n:Nat}{α β:Type}{f:α->KasT β}{P:α->Prop}{Q:β->Prop}(h2:∀a,P a->Safe n Q (f a)):∀{t:KasT α},Safe n P t->Safe n Q (t.bind f)
 |.ret a,h=>h2 a h
 |.ask _ _ _,h=>⟨h.1,h.2.1,λb=>Safe.bind h2 (h.2.2 b)⟩
def Ents(n:Nat)(p:Array Nat):Prop:=0<n/\p.Perm (zk n).toArray
theorem Ents.lt{n:Nat}{p:Array Nat}(h:Ents n p){x:Nat}(hx:x∈p):x<n:=by have:=h.2.mem_iff.mp hx;simpa using this
theorem Ents.pt{n:Nat}{p:Array Nat}(h:Ents n p)(k:Nat):p.getD k 0<n:=by
 by_cases hk:k<p.size
 ·have:p.getD k 0=p[k]:=by simp[Array.getD,hk]
  rw[this];exact h.lt (Array.getElem_mem hk)
 ·have:p.getD k 0=0:=by simp[Array.getD,hk]
  rw[this];exact h.1
theorem Ents.perm{n:Nat}{p q:Array Nat}(h:Ents n p)(e:q.Perm p):Ents n q:=⟨h.1,e.trans h.2⟩
theorem Yw{n:Nat}{p:Array Nat}(h:Ents n p):∀f m,Safe n (λ_=>True) (kas_asc p f m)
 |0,m=>trivial
 | f+1,m=>⟨h.pt _,h.pt _,λb=>by
   cases b with
   |true=>exact trivial
   |false=>exact Yw h f (m+1)⟩
theorem Su{n:Nat}:∀f{p:Array Nat}m q,Ents n p->Safe n (λr=>Ents n r.1) (kas_desc f p m q)
 |0,p,m,q,h=>h
 | f+1,p,m,q,h=>⟨h.pt _,h.pt _,λb=>by
   cases b with
   |true=>
    by_cases hq:q>0
    ·simp only[if_true,if_pos hq];exact Su f _ _ (h.perm (mirror_perm ..))
    ·simp only[if_true,if_neg hq];exact Su f _ _ h
   |false=>
    refine⟨h.pt _,h.pt _,λd=>?_⟩;cases d with
    |true=>exact h
    |false=>exact Su f _ _ h⟩
theorem ZFw{n:Nat}{p:Array Nat}(h:Ents n p)(m k:Nat):Safe n (λr=>Ents n r.2) (kas_tail3 m k p):=by unfold kas_tail3;refine Safe.bind (P:=λ_=>True) (λa _=>?_) (Yw (h.perm (mirror_perm ..)) _ _);exact h.perm (mirror_perm ..)
theorem ZDk{n:Nat}{p:Array Nat}(h:Ents n p)(m k:Nat):Safe n (λr=>Ents n r.2) (kas_descPart m k p):=
 Safe.bind (P:=λr=>Ents n r.1) (λa ha=>by
  split
  ·exact ZFw (ha.perm (mirror_perm ..)) _ _
  ·exact ZFw ha _ _) (Su _ _ _ h)
theorem ZDW{n:Nat}{p:Array Nat}(h:Ents n p)(k:Nat):Safe n (λr=>Ents n r.2) (kas_count k p):=
 Safe.bind (P:=λ_=>True) (λa _=>by
  split
  ·exact h
  ·split
   ·refine⟨h.pt _,h.pt _,λc=>?_⟩;cases c with
    |true=>exact h
    |false=>exact ZDk (h.perm (mirror_perm ..)) _ _
   ·exact ZDk h _ _) (Yw h _ _)
theorem Vs{n:Nat}{p:Array Nat}(h:Ents n p)(k:Nat):∀f l r,Safe n (λ_=>True) (kas_place p k f l r)
 |0,l,r=>trivial
 | f+1,l,r=>by
  unfold kas_place;split
  ·trivial
  ·refine⟨h.pt _,h.pt _,λc=>?_⟩;cases c with
   |true=>exact Vs h k f _ _
   |false=>exact Vs h k f _ _
theorem ZCT{n:Nat}:∀f{p:Array Nat}k,Ents n p->Safe n (λ_=>True) (kas_bin f p k)
 |0,p,k,h=>trivial
 |f+1,p,k,h=>Safe.bind (P:=λ_=>True) (λa _=>ZCT f _ (h.perm (bubble_perm ..))) (Vs h k _ _ _)
theorem ZON{n:Nat}(hn:0<n):Safe n (λ_=>True) (kas_sort n):=
 Safe.bind (P:=λr=>Ents n r.2) (λa ha=>by
  split
  ·exact ZCT _ _ ha
  ·trivial) (ZDW ⟨hn,Array.Perm.refl _⟩ _)
end _D
namespace _D
open PySem PySem.Spec _L
open PyProof.Rows hiding St
variable{a:Wd}{d:D}{v:V}{xs ys:List D}{G:DH}{vs:List V}{te:DE}{g:DG}{k:Nat}{us:List (Str×V)}{F:List D->DH->R D}{CX:CXT}{fd:xZ}{ps:List Str}{e:xQ}{ta:DA}{T:String}
def ltL:List D->List D->Option Bool
 |[],[]=>vB vE
 |[],_::_=>vB vD
 |_::_,[]=>vB vE
 |.int a::r,.int b::r'=>if a=b then ltL r r' else vB (decide (a<b))
 |.str a::r,.str b::r'=>if a=b then ltL r r' else vB (decide (a.cps.toList<b.cps.toList))
 |_::_,_::_=>vC
def ltD:D->D->Option Bool
 |.tup xs,.tup ys=>ltL xs ys
 |_,_=>vC
def ltI(xs:List D)(i j:Nat):Bool:=(ltD (xs.getD i .non) (xs.getD j .non)).getD vE
noncomputable def isIt:D->Bool
 |.tup (.int _::_)=>vD
 |_=>vE
noncomputable def Rj:D->Bool
 |.tup (.str _::_)=>vD
 |_=>vE
def M6(xs:List D):Bool:=(xs.all isIt||xs.all Rj)&&xs.all λx=>xs.all λy=>(ltD x y).isSome
def Jp(xs:List D):List D:=if xs.length<2 then xs else(Bo (ltI xs) (PySem.W.kas_sort xs.length)).toList.map λi=>xs.getD i .non
def P0(ds:List D)(G:DH):R D:=match ds with
 |[d]=>match G9 d G with
  |some xs=>if(xs.length<64/\(Jp xs).length<64)/\M6 xs=vD then .ok (.ref G.length) (G++[.lst (Jp xs)])else .bad
  |none=>.bad
 |_=>.bad
theorem ZEB{n:Nat}{cmp:Nat->Nat->(Bool->xW->Prop)->xW->Prop}{lt:Nat->Nat->Bool}{s:xW}(h:∀i j,i<n->j<n->∀C:Bool->xW->Prop,C (lt i j) s->cmp i j C s){α:Type}{P:α->Prop}{Q:α->xW->Prop}:
  ∀{t:PySem.W.KasT α},Safe n P t->Q (Bo lt t) s->t.kasWp cmp Q s
 |.ret _,_,hq=>hq
 |.ask i j k,hs,hq=>h i j hs.1 hs.2.1 _ (ZEB h (hs.2.2 (lt i j)) hq)
section
variable{prog:xX}{w:xq}{A:jU}{s:xW}
theorem ZKj{c:Bool}{a b:Int}{t u:Tok}{Q:Bool->xW->Prop}{E:xY->xW->Prop}(h:Q (decide (a<b)) s):vX (xS prog w) A (oneLt' c (.int a t) (.int b u)) Q E s:=by
 cases c with
 |true=>exact oneLt_int h
 |false=>exact PySem.W.kat_one _ _ (lt_int (Q:=PySem.W.BoolBack Q) h)
theorem ZMe{c:Bool}{a b:Str}{t u:Tok}{Q:Bool->xW->Prop}{E:xY->xW->Prop}(h:Q (decide (a.cps.toList<b.cps.toList)) s):vX (xS prog w) A (oneLt' c (.str a t) (.str b u)) Q E s:=by
 cases c with
 |true=>exact oneLt_str h
 |false=>exact PySem.W.kat_one _ _ (lt_str (Q:=PySem.W.BoolBack Q) h)
theorem Z0{Q:Bool->xW->Prop}{fin:Bool}:∀{xs ys:List D}{vs ws:List V}{us zs:List xY}{i:Nat}{k:Bool},Reps a xs vs->Reps a ys ws->Vals vs us->Vals ws zs->ltL xs ys=vB k->fin=decide (us.length<zs.length)->Q k s->
  PySem.W.KatLex prog w A vD fin Q (us.zip zs) i s
 |[],[],vs,ws,us,zs,i,k,r1,r2,v1,v2,h,hf,hq=>by
  cases(show vs=[]from r1);cases(show ws=[]from r2);cases v1;cases v2
  cases h;subst hf;exact PySem.W.kat_nil hq
 |[],y::ys,vs,ws,us,zs,i,k,r1,r2,v1,v2,h,hf,hq=>by
  cases(show vs=[]from r1);cases v1
  obtain⟨w1,wr,rfl,_,_⟩:=r2;cases v2;cases h;subst hf;exact PySem.W.kat_nil (by simpa using hq)
 |x::xs,[],vs,ws,us,zs,i,k,r1,r2,v1,v2,h,hf,hq=>by
  cases(show ws=[]from r2);cases v2
  obtain⟨w1,wr,rfl,_,_⟩:=r1;cases v1;have hk:k=vE:=by cases x<;>(simp[ltL]at h;exact h)
  subst hk;subst hf;exact PySem.W.kat_nil (by simpa using hq)
 | x::xs,y::ys,vs,ws,us,zs,i,k,r1,r2,v1,v2,h,hf,hq=>by
  have hcase:(∃m n,x=.int m/\y=.int n)∨(∃m n,x=.str m/\y=.str n):=by
   cases x<;>cases y<;>first
    |exact .inl ⟨_,_,rfl,rfl⟩
    |exact .inr ⟨_,_,rfl,rfl⟩
    |(exfalso;simp[ltL]at h)
  obtain⟨v0,vr,rfl,e1,r1⟩:=r1;obtain⟨w0,wr,rfl,e2,r2⟩:=r2;rcases hcase with⟨m,n,rfl,rfl⟩|⟨m,n,rfl,rfl⟩
  ·cases(show v0=V.int m from e1)
   cases(show w0=V.int n from e2)
   cases v1 with
   | cons q1 v1=>
    cases v2 with
    | cons q2 v2=>
     obtain⟨t,rfl⟩:=q1;obtain⟨u,rfl⟩:=q2;rw[List.zip_cons_cons];refine PySem.W.kat_cons (wpAny_eqBool_int (PySem.W.kat_go (λhe=>?_) λhe=>?_))
     ·have e:m=n:=by simpa using he
      rw[show ltL (.int m::xs) (.int n::ys)=if m=n then ltL xs ys else vB (decide (m<n))from rfl,if_pos e]at h
      exact PySem.W.kat_yes (Z0 r1 r2 v1 v2 h (by simpa using hf) hq)
     ·have e:m≠n:=by simpa using he
      rw[show ltL (.int m::xs) (.int n::ys)=if m=n then ltL xs ys else vB (decide (m<n))from rfl,if_neg e]at h
      cases h;exact PySem.W.kat_no (ZKj hq)
  ·cases(show v0=V.str m from e1)
   cases(show w0=V.str n from e2)
   cases v1 with
   | cons q1 v1=>
    cases v2 with
    | cons q2 v2=>
     obtain⟨t,rfl⟩:=q1;obtain⟨u,rfl⟩:=q2;rw[List.zip_cons_cons];refine PySem.W.kat_cons (wpAny_eqBool_str (PySem.W.kat_go (λhe=>?_) λhe=>?_))
     ·have e:m=n:=by simpa using he
      rw[show ltL (.str m::xs) (.str n::ys)=if m=n then ltL xs ys else vB (decide (m.cps.toList<n.cps.toList))from rfl,if_pos e]at h
      exact PySem.W.kat_yes (Z0 r1 r2 v1 v2 h (by simpa using hf) hq)
     ·have e:m≠n:=by simpa using he
      rw[show ltL (.str m::xs) (.str n::ys)=if m=n then ltL xs ys else vB (decide (m.cps.toList<n.cps.toList))from rfl,if_neg e]at h
      cases h;exact PySem.W.kat_no (ZMe hq)
end
section
variable{X:Cx}{E:XK}{vA:List (jT×Obj)}{σ:St}{s:xW}{H:Hp}{h':Heap}
theorem ZBp{t':Nat}(I:Inv X vA σ H s)(k:∀b o,b≠X.env.locals->s.heap.get? b=vB o->h'.get? b=vB o)(ns:∀m,s.heap.Ns X.env.locals m->h'.Ns X.env.locals m):Inv X vA σ H {s with heap:=h',toks:=t'}:=by
 refine I.step (g':=s.gens) (d':=s.drawn) (ch:=[]) (λ_ z=>nomatch z) (λb o hL _ _ e _=>k b o hL e) (λb o hL _ _ e _=>⟨o.slots,k b o hL e⟩) (λ_ _ _ _ n=>n) (λb o _ e=>?_) (λ_ _ e=>e) (λ_ _ _ e=>e)
  (λb ps e=>⟨#[],by rw[e];simp⟩) ns (λb u e=>?_) I.bare
 ·by_cases hb:b=X.env.locals
  ·obtain⟨m,hn,_⟩:=I.loc;obtain⟨o',_,_,ho',_⟩:=ns m hn;exact⟨o',by rw[hb];exact ho'⟩
  ·exact⟨o,k b o hb e⟩
 ·have nL:∀c w,H c=vB w->c≠X.env.locals:=λc w e z=>by rw[z,I.free]at e;cases e
  refine(I.hok b u e).stay (λc v hc q=>k c v ?_ q) (λ_ q=>q) λ_ _ q=>q
  rcases hc with z|z
  ·rw[z];exact nL b u e
  ·exact nL c _ z
end
section
variable{prog:xX}{w:xq}{A:jU}{E:xY->xW->Prop}{s:xW}
theorem ZLz{l:jT}{vs:List xY}{Q:xY->xW->Prop}(hl:s.heap.IsList l vs.toArray)(hz:vs.length<64)
  (h:∀h1,h1.get? (s.heap.objs.size+1)=vB (seqObj "list" vs.toArray 0)->(∀b o,s.heap.get? b=vB o->h1.get? b=vB o)->
   vX (xS prog w) A.in1.in1 (Builtin.«list.sort» ⟨[.ref (s.heap.objs.size+1)],[]⟩) (λfin s'=>fin=.done (.ret .none)/\Q (.ref (s.heap.objs.size+1)) s') E {s with heap:=h1}):
  vX (xS prog w) A (call (.builtin "sorted") [.ref l]) Q E s:=by
 have h64:vs.length<=sizeLine:=by rw[xU];lia
 refine Calls.call_function_entry kind_sorted plain_sorted entry_sorted (args_sorted1 _) ?_;unfold Builtin.«sorted»;refine vW (m:=checkCount "sorted" 1 1 _) (v4 (vW (collect_list hl (vW (wpAny_newList ?_ h64)) h64)))
 generalize hh:(s.heap.push (seqObj "list" #[] 0)).update s.heap.objs.size (Obj.mapSeq (·++vs.toArray))=h0
 have e0:h0.objs.size=s.heap.objs.size+1:=by rw[<-hh,Heap.size_update,size_push']
 have k0:∀b o,s.heap.get? b=vB o->h0.get? b=vB o:=λb o q=>by have hlt:b<s.heap.objs.size:=zY q;rw[<-hh,Heap.get?_update_ne _ _ _ _ (zE hlt),Heap.get?_push_ne _ _ _ (zE hlt)];exact q
 have hD:(h0.push (seqObj "list" vs.toArray 0)).get? (s.heap.objs.size+1)=vB (seqObj "list" vs.toArray 0):=by rw[<-e0];exact zy _ rfl
 have hq:=h (h0.push (seqObj "list" vs.toArray 0)) hD λb o q=>zQ _ (k0 b o q)
 show vX _ _ _ _ _ {s with heap:=h0.push (seqObj "list" vs.toArray 0)};rw[e0];refine vW (vz (vY slot_list_sort ⟨_,hD,rfl⟩ entry_list_sort ?_ (args_list_sort _)));refine vj hq (λfin s' hf=>?_) λ_ _ x=>x
 exact⟨_,hf.1,v4 ⟨_,rfl,hf.2⟩⟩
theorem ZMW{a:jT}{vs:List xY}{n:Nat}{P:Fin->xW->Prop}(ho:s.heap.get? a=vB (seqObj "list" vs.toArray n))(h2:vs.length<2)
  (h:∀h' c,h'.get? a=vB (seqObj "list" vs.toArray c)->(∀b o,b≠a->s.heap.get? b=vB o->h'.get? b=vB o)->P (.done (.ret .none)) {s with heap:=h'}):vX (xS prog w) A (Builtin.«list.sort» ⟨[.ref a],[]⟩) P E s:=by
 have ha:a<s.heap.objs.size:=zY ho;have s1:=qy.update s.heap a (Obj.mapSeq λ_=>(#[]:Array xY));obtain⟨e1,ho1⟩:∃e1,(s.heap.update a (Obj.mapSeq λ_=>(#[]:Array xY))).get? a=vB (seqObj "list" #[] e1):=⟨_,get?_update_seq ho λ_=> #[]⟩;rw[list_sort_plain];refine vW (listItems_at ho rfl (vW (listUpdate_at ho rfl ?_ (by rw[zK,xU];lia) (j6 _))))
 refine vW (seqEpoch_at ho1 rfl (vW (wpAny_newTuple (vW (wpAny_newList (vz ?_) (j6 _))) (by show vs.length<=_;rw[xU];lia))));dsimp only;have hn2:vs.toArray.size<2:=by rw[zK];lia
 rw[if_pos hn2,if_pos hn2];refine vW (v4 (vW (wpAny_of_eq (a:=((),SortSt.mk' general' (vs.toArray.zip vs.toArray) #[] 7 vC)) rfl ?_)));dsimp only
 have hout:(arrOf (SortSt.mk' general' (vs.toArray.zip vs.toArray) #[] 7 vC)).map (·.2)=vs.toArray:=by
  show(vs.toArray.zip vs.toArray).map (·.2)=vs.toArray
  refine Array.ext (by simp) λi h1 h2=>by simp
 rw[hout];generalize hh:((s.heap.update a (Obj.mapSeq λ_=>(#[]:Array xY))).push {cls:=.type "tuple",data:=.seq vs.toArray.toList.toArray}).push {cls:=.type "list",data:=.seq ([]:List xY).toArray}=h3;have ho3:h3.get? a=vB (seqObj "list" #[] e1):=by rw[<-hh];exact zQ _ (zQ _ ho1)
 have k3:∀b o,b≠a->s.heap.get? b=vB o->h3.get? b=vB o:=λb o hb q=>by rw[<-hh];exact zQ _ (zQ _ (s1.extBut b o hb q))
 refine vW (seqEpoch_at (o:=seqObj "list" #[] e1) ?_ rfl ?_)
 ·exact ho3
 have s2:=qy.update h3 a (Obj.mapSeq λ_=>vs.toArray);obtain⟨c2,hc2⟩:∃c2,(h3.update a (Obj.mapSeq λ_=>vs.toArray)).get? a=vB (seqObj "list" vs.toArray c2):=⟨_,get?_update_seq ho3 λ_=>vs.toArray⟩;refine vW (listUpdate_at ho3 rfl ?_ (j6 _) (by show vs.toArray.size<=_;rw[zK,xU];lia));simp only[bne_self_eq_false,jA,if_false];exact v4 (h _ c2 hc2 λb o hb q=>s2.extBut b o hb (k3 b o hb q))
end
theorem ZJo:xA "sorted"=vB (.builtin "sorted"):=by decide +kernel
section
variable{X:Cx}{E:XK}{vA:List (jT×Obj)}{σ:St}{s:xW}{H:Hp}
theorem Vk(I:Inv X vA σ a.H s)(hk:a.K=X.K){u:xY}(r:Rep a d v)(ru:RelV v u)(h:d=.tup xs):∃p o vs us n,u=.ref p/\s.heap.get? p=vB o/\o.cls=.type "tuple"/\o.data=.seq us n/\Vals vs us.toList/\Reps a xs vs:=by subst h;obtain⟨p,vs,rfl,hq,rv⟩:=r;cases ru;rw[hk]at hq;obtain⟨its,rr,⟨o,ho,hc,n,hd⟩,hz⟩:=I.tuple hq;exact⟨p,o,vs,its.toArray,n,rfl,ho,hc,hd,by simpa using rr,rv⟩
theorem ZGw(h:isIt d=vD):∃i r,d=.tup (.int i::r):=by
 unfold isIt at h;split at h
 ·exact⟨_,_,rfl⟩
 ·cases h
theorem ZIb(h:Rj d=vD):∃i r,d=.tup (.str i::r):=by
 unfold Rj at h;split at h
 ·exact⟨_,_,rfl⟩
 ·cases h
theorem ZGM(I:Inv X vA σ a.H s)(hk:a.K=X.K):∀{xs:List D}{vs:List V}{us:List xY},Reps a xs vs->Vals vs us->xs.all isIt=vD->∃fs,PySem.W.KatTups s.heap us fs/\fs.length=us.length/\∀v∈fs,∃i t,v=.int i t
 |[],vs,us,r,v,h=>by
  cases(show vs=[]from r);cases v
  exact⟨[],.nil,rfl,λ_ hm=>nomatch hm⟩
 | d::xs,vs,us,r,v,h=>by
  rw[j2,zB]at h;obtain⟨v0,vr,rfl,e1,r1⟩:=r;cases v with
  | cons q1 v1=>
   obtain⟨i,rr,rfl⟩:=ZGw h.1;obtain⟨p,o,ws,zs,n,rfl,ho,hc,hd,hv,hr⟩:=Vk I hk e1 q1 rfl;obtain⟨w0,wr,rfl,g1,g2⟩:=hr
   cases(show w0=V.int i from g1)
   obtain⟨fs,k1,k2,k3⟩:=ZGM I hk r1 v1 h.2;have hz:∃t,zs[0]?=vB (.int i t):=by
    cases hz:zs.toList with
    |nil=>rw[hz]at hv;cases hv
    | cons z zr=>
     rw[hz]at hv;cases hv with
     |cons q _=>
      obtain⟨t,rfl⟩:=q;exact⟨t,by rw[<-qR,hz];rfl⟩
   obtain⟨t,hz⟩:=hz;refine⟨.int i t::fs,.cons ho hc hd hz k1,by simp[k2],λv hm=>?_⟩;rcases zw.mp hm with rfl|hm
   ·exact⟨i,t,rfl⟩
   ·exact k3 v hm
theorem ZCR(I:Inv X vA σ a.H s)(hk:a.K=X.K):∀{xs:List D}{vs:List V}{us:List xY},Reps a xs vs->Vals vs us->xs.all Rj=vD->∃fs,PySem.W.KatTups s.heap us fs/\fs.length=us.length/\∀v∈fs,∃i t,v=.str i t
 |[],vs,us,r,v,h=>by
  cases(show vs=[]from r);cases v
  exact⟨[],.nil,rfl,λ_ hm=>nomatch hm⟩
 | d::xs,vs,us,r,v,h=>by
  rw[j2,zB]at h;obtain⟨v0,vr,rfl,e1,r1⟩:=r;cases v with
  | cons q1 v1=>
   obtain⟨i,rr,rfl⟩:=ZIb h.1;obtain⟨p,o,ws,zs,n,rfl,ho,hc,hd,hv,hr⟩:=Vk I hk e1 q1 rfl;obtain⟨w0,wr,rfl,g1,g2⟩:=hr
   cases(show w0=V.str i from g1)
   obtain⟨fs,k1,k2,k3⟩:=ZCR I hk r1 v1 h.2;have hz:∃t,zs[0]?=vB (.str i t):=by
    cases hz:zs.toList with
    |nil=>rw[hz]at hv;cases hv
    | cons z zr=>
     rw[hz]at hv;cases hv with
     |cons q _=>
      obtain⟨t,rfl⟩:=q;exact⟨t,by rw[<-qR,hz];rfl⟩
   obtain⟨t,hz⟩:=hz;refine⟨.str i t::fs,.cons ho hc hd hz k1,by simp[k2],λv hm=>?_⟩;rcases zw.mp hm with rfl|hm
   ·exact⟨i,t,rfl⟩
   ·exact k3 v hm
theorem ZGV{ws:List V}{us:List xY}{Q:VK}{h2:Heap}{c:Nat}(I:Inv X vA σ a.H s)(sm:Sim a G)(q:out E a (.ok (.ref G.length) (G++[.lst ys])) Q)(r:Reps a ys ws)(v:Vals ws us)(hz:us.length<64)
  (hD:h2.get? (s.heap.objs.size+1)=vB (seqObj "list" us.toArray c)) (k:∀b o,b≠X.env.locals->s.heap.get? b=vB o->h2.get? b=vB o) (ns:∀m,s.heap.Ns X.env.locals m->h2.Ns X.env.locals m):
  EP X vA σ Q (.ref (s.heap.objs.size+1)) {s with heap:=h2}:=by
 have hle:s.heap.objs.size<=s.heap.objs.size+1:=jX _;obtain⟨g0,g1,g2,g3,g4,g5⟩:=I.Im (H':=a.H) hle (I.hok.fresh hle);have I2:Inv X vA σ a.H {s with heap:=h2}:=ZBp (t':=s.toks) I k ns;refine⟨.ref (s.heap.objs.size+1),_,X3 I2 g0 (zC I.sz hle) g1 g4 g5 (o:=.lst ws) ⟨?_,us,c,v,hD⟩,rfl,K5 sm r q _ g0⟩;rw[v.length,xU];lia
end
section
variable{X:Cx}{E:XK}
theorem ZIt(h:M6 xs=vD){x y:D}(hx:x∈xs)(hy:y∈xs):∃k,ltD x y=vB k:=by unfold M6 at h;rw[zB]at h;exact jK.mp (qA.mp (qA.mp h.2 x hx) y hy)
theorem ZO3{x y:D}{k:Bool}(h:ltD x y=vB k):∃xs ys,x=.tup xs/\y=.tup ys/\ltL xs ys=vB k:=by
 unfold ltD at h;split at h
 ·exact⟨_,_,rfl,rfl,h⟩
 ·cases h
theorem ZGY(r:Reps a xs vs):∀l:List Nat,(∀i∈l,i<xs.length)->Reps a (l.map λi=>xs.getD i .non) (l.map λi=>vs.getD i .non)
 |[],_=>rfl
 |i::l,h=>by
  have hi:i<xs.length:=h i zX;obtain⟨v,ev,rv⟩:=r.get (i:=i) (d:=xs[i]) (zZ hi);refine⟨vs.getD i .non,_,rfl,?_,ZGY r l λj hj=>h j (zJ _ hj)⟩;have e1:xs.getD i .non=xs[i]:=by simp[hi]
  have e2:vs.getD i .non=v:=by rw[zA,ev];rfl
  show Rep a (xs.getD i .non) (vs.getD i .non);rw[e1,e2];exact rv
theorem ZFT{us:List xY}(r:Vals vs us):∀l:List Nat,(∀i∈l,i<vs.length)->Vals (l.map λi=>vs.getD i .non) (l.map λi=>us.getD i .none)
 |[],_=>.nil
 |i::l,h=>by
  have hi:i<vs.length:=h i zX;obtain⟨u,eu,ru⟩:=r.get (i:=i) (x:=vs[i]) (zZ hi);rw[zG,zG];have e1:vs.getD i .non=vs[i]:=by simp[hi]
  have e2:us.getD i .none=u:=by rw[zA,eu];rfl
  rw[e1,e2];exact .cons ru (ZFT r l λj hj=>h j (zJ _ hj))
theorem ZED{n:Nat}{lt:Nat->Nat->Bool}{P:Array Nat->Prop}:∀{t:PySem.W.KasT (Array Nat)},Safe n P t->P (Bo lt t)
 |.ret _,h=>h
 |.ask i j k,h=>ZED (t:=k (lt i j)) (h.2.2 (lt i j))
theorem ZBv{n:Nat}:∀f{p:Array Nat}k,Ents n p->Safe n (Ents n) (PySem.W.kas_bin f p k)
 |0,p,k,h=>h
 |f+1,p,k,h=>Safe.bind (P:=λ_=>True) (λa _=>ZBv f _ (h.perm (bubble_perm ..))) (Vs h k _ _ _)
theorem ZGP{n:Nat}(hn:0<n):Safe n (Ents n) (PySem.W.kas_sort n):=
 Safe.bind (P:=λr=>Ents n r.2) (λa ha=>by
  split
  ·exact ZBv _ _ ha
  ·exact ha) (ZDW ⟨hn,Array.Perm.refl _⟩ _)
theorem ZHi:CallR X (.builtin "sorted") (lRn X.K E P0):=by
 intro vA s σ H vs us Q I rs h;obtain⟨a,G,ds,hk,rfl,sm,r,q⟩:=h;unfold P0 at q;split at q
 ·rename_i d;obtain⟨v,rfl,rv⟩:=reps1 r;split at q
  ·rename_i xs hs;split at q
   ·rename_i hc;obtain⟨p,ws,rfl,h1,r1⟩:=Pb sm rv hs;rw[hk]at h1;obtain⟨u,rfl,ru⟩:=vals1 rs;cases ru;obtain⟨its,hv,pl,hz⟩:=I.list h1;have hlx:xs.length=its.length:=r1.length.trans hv.length;refine ZLz pl.isList (by lia) λh1 hD k1=>?_
    obtain⟨m,hn,_⟩:=id I.loc;have hns1:h1.Ns X.env.locals m:=hn.keeps k1;have hDL:s.heap.objs.size+1≠X.env.locals:=qU (qM I.lt);have nsAll:∀{h2:Heap},h2.Ns X.env.locals m->∀m',s.heap.Ns X.env.locals m'->h2.Ns X.env.locals m':=λ{h2}hh m' hm'=>by have e1:=hn.eq_nsMap;have e2:=hm'.eq_nsMap;rw[e2,<-e1];exact hh
    by_cases hlen:xs.length<2
    ·refine ZMW (s:={s with heap:=h1}) hD (by lia) λh2 c hD2 k2=>⟨rfl,?_⟩
     have es:Jp xs=xs:=by unfold Jp;rw[if_pos hlen]
     rw[es]at q;refine ZGV I sm q r1 hv (by lia) hD2 (λb o hb e=>k2 b o ?_ (k1 b o e)) (nsAll (hns1.at λo e=>k2 _ o (Ne.symm hDL) e));exact zE (qM (zY e))
    ·have es:Jp xs=(Bo (ltI xs) (PySem.W.kas_sort xs.length)).toList.map λi=>xs.getD i .non:=by unfold Jp;rw[if_neg hlen]
     rw[es]at q;refine PySem.W.kat_list_sort (s:={s with heap:=h1}) (Att.ZKi hns1) (news:=Att.ledger h1 X.env.locals (s.heap.objs.size+1)) ?_ hD hDL (Att.ZBL _ _) (λ⟨_,_⟩ hp=>(Att.Pn.mp hp).2.1) (by lia) (by lia) λe1 h2 F2 N2=>?_
     ·rintro⟨b,o⟩ hp;obtain⟨n1,n2,e⟩:=Att.Pn.mp hp;exact⟨e,n1,Att.ZBL _ _⟩
     have k2:∀b o,b≠X.env.locals->s.heap.get? b=vB o->h2.get? b=vB o:=λb o hb e=>
      (N2 (b,o) (zJ _ (Att.Pn.mpr ⟨hb,zE (qM (zY e)),k1 b o e⟩))).1
     have I2:Inv X vA σ a.H {s with heap:=h2}:=ZBp (t':=s.toks) I k2 (nsAll F2.ns);have hpos:0<its.length:=by lia
     have fin:(PySem.W.kas_sort its.length).kasWp (PySem.W.kas_ask X.prog X.w X.A.in1.in1 (tuples' vD) its) (λp s''=>PySem.W.KasFin (Att.U6 h1) X.env.locals m (s.heap.objs.size+1) e1 (p.toList.map λi=>its.getD i Value.none) (λs3=>PySem.Fin.done (.ret .none)=PySem.Fin.done (.ret .none)/\EP X vA σ Q (.ref (s.heap.objs.size+1)) s3) s'') {s with heap:=h2}:=by
      refine ZEB (lt:=ltI xs) (λi j hi hj C hC=>?_) (ZGP hpos) ?_
      ·have hxi:i<xs.length:=by lia
       have hxj:j<xs.length:=by lia
       obtain⟨v1,ev1,rv1⟩:=r1.get (i:=i) (d:=xs[i]) (zZ hxi);obtain⟨v2,ev2,rv2⟩:=r1.get (i:=j) (d:=xs[j]) (zZ hxj);obtain⟨u1,eu1,ru1⟩:=hv.get ev1;obtain⟨u2,eu2,ru2⟩:=hv.get ev2;obtain⟨k,hlt⟩:=ZIt hc.2 (qx hxi) (qx hxj);obtain⟨as,bs,ea,eb,hlL⟩:=ZO3 hlt;obtain⟨p1,o1,vs1,us1,n1,rfl,ho1,_,hd1,hv1,hr1⟩:=Vk I2 hk rv1 ru1 ea;obtain⟨p2,o2,vs2,us2,n2,rfl,ho2,_,hd2,hv2,hr2⟩:=Vk I2 hk rv2 ru2 eb
       have hC':C k {s with heap:=h2}:=by
        have:ltI xs i j=k:=by
         unfold ltI;have e1:xs.getD i .non=xs[i]:=by simp[hxi]
         have e2:xs.getD j .non=xs[j]:=by simp[hxj]
         rw[e1,e2,hlt];rfl
        rw[<-this];exact hC
       unfold PySem.W.kas_ask;have g1:its.getD i Value.none=.ref p1:=by rw[zA,eu1];rfl
       have g2:its.getD j Value.none=.ref p2:=by rw[zA,eu2];rfl
       rw[g1,g2];exact PySem.W.kat_lt ho1 hd1 ho2 hd2 (Z0 hr1 hr2 hv1 hv2 hlL (by simp) hC')
      ·have hen:Ents its.length (Bo (ltI xs) (PySem.W.kas_sort its.length)):=ZED (ZGP hpos);rw[hlx]at q;refine PySem.W.KasFin.intro F2 N2 (.head λ⟨_,_⟩ hp=>(Att.Pn.mp hp).2.1) λh3 c F3 N3=>⟨rfl,?_⟩
       have hin:∀i∈(Bo (ltI xs) (PySem.W.kas_sort its.length)).toList,i<its.length:=λi hi=>hen.lt (by simpa using hi)
       refine ZGV I sm q (ZGY r1 _ λi hi=>by rw[hlx];exact hin i hi) (ZFT hv _ λi hi=>by rw[hv.length];exact hin i hi) ?_ (N3 _ zX).1 (λb o hb e=>?_) (nsAll F3.ns)
       ·rw[hlx]at es;have:=hc.1.2;rw[es]at this;simpa using this
       ·exact(N3 (b,o) (zJ _ (Att.Pn.mpr ⟨hb,zE (qM (zY e)),k1 b o e⟩))).1
     unfold M6 at hc;rw[zB,j8]at hc;rcases hc.2.1 with hall|hall
     ·obtain⟨fs,t1,t2,t3⟩:=ZGM I2 hk r1 hv hall;refine PySem.W.kat_kind (T:=.type "int") t1 (by lia) (λv hm=>?_) (by decide) ?_
      ·obtain⟨i,t,rfl⟩:=t3 v hm;exact PySem.W.Looks.now
      ·exact fin
     ·obtain⟨fs,t1,t2,t3⟩:=ZCR I2 hk r1 hv hall;refine PySem.W.kat_kind (T:=.type "str") t1 (by lia) (λv hm=>?_) (by decide) ?_
      ·obtain⟨i,t,rfl⟩:=t3 v hm;exact PySem.W.Looks.now
      ·exact fin
   ·exact q.elim
  ·exact q.elim
 ·exact q.elim
end
section
variable{S:DSt}{G:DH}
@[simp]theorem ZPi{to ti:DE}{f:D->D->DH->R D}:Nu to ti te f S G=(to S G).toS λo G1=>(ti S G1).toS λi G2=>(ixL o i G2).toS λx G3=>(te S G3).toS λy G4=>(f x y G4).toS λz G5=>(Jt o i z G5).toS λ_ G6=>.nx S G6:=id rfl
theorem Uy{p:Nat}{k:Int}(h:G[p]?=vB (.lst xs))(e:atI xs k=vB d):ixL (.ref p) (.int k) G=.ok d G:=by unfold ixL;simp only;rw[h];simp only;rw[e]
noncomputable def Cp(xs:List D):List D:=xs.zipIdx.map λq=>.tup [.int q.2,q.1]
noncomputable def M7(xs ys:List D):List D:=(xs.zip ys).map λq=>.tup [q.1,q.2]
theorem ZDd{f:Nat->DH->Option (Option D)}{b:DS}(h:∀j G,f j G=vB xs[j]?):∀(n j:Nat),j+n=xs.length->∀S G,Cq f g b n j S G=Bm g b (xs.drop j) S G
 |0,j,e,S,G=>by
  unfold Cq;rw[h,zD (by lia),zO (by lia)]
  rfl
 |n+1,j,e,S,G=>by
  have hj:j<xs.length:=by lia
  unfold Cq;rw[h,zZ hj,zM hj,Et];have:Cq f g b n (j+1)=Bm g b (xs.drop (j+1)):=by funext S G;exact ZDd h n (j+1) (by lia) S G
  rw[this]
theorem Qv{f:Nat->DH->Option (Option D)}{b:DS}{n:Nat}(h:∀j G,f j G=vB xs[j]?)(hn:n=xs.length):Cq f g b n 0 S G=Bm g b xs S G:=by rw[ZDd h n 0 (by lia)];rfl
theorem Tu(j:Nat)(G:DH):Dh 0 (.fl xs) j G=vB (Cp xs)[j]? :=by
 unfold Dh Cp;simp only[Bk,zq,List.getElem?_zipIdx]
 cases xs[j]?<;>simp
theorem ZNR(j:Nat)(G:DH):Dh 0 (.tup xs) j G=vB (Cp xs)[j]? :=by
 unfold Dh Cp;simp only[Bk,zq,List.getElem?_zipIdx]
 cases xs[j]?<;>simp
theorem Ip:(Cp xs).length=xs.length:=by simp[Cp]
@[simp]theorem ZPo:Gu [.fl xs] G=.ok (.fn xs.length (Dh 0 (.fl xs))) G:=by simp[Gu,Jb,Bk,lenOf]
@[simp]theorem ZLy{b:DS}:Cq (Dh 0 (.fl xs)) g b xs.length 0 S G=Bm g b (Cp xs) S G:=Qv Tu Ip.symm
@[simp]theorem ZPy{b:DS}:Cq (Dh 0 (.tup xs)) g b xs.length 0 S G=Bm g b (Cp xs) S G:=Qv ZNR Ip.symm
theorem ZGI{f:Nat->DH->Option (Option D)}{c:DB}{F:D->Option D}(hf:∀j,f j G=vB xs[j]?)(h:∀x∈xs,CStep g c te S G x (F x)):
  ∀(n j:Nat),xs.length<=j+n->Cm f g c te S n j G=.ok ((xs.drop j).filterMap F) G
 |0,j,hj=>by
  unfold Cm;rw[hf,zD (by lia)];simp only;rw[zO (by lia)]
  rfl
 | n+1,j,hj=>by
  unfold Cm;rw[hf];by_cases hlt:j<xs.length
  ·have ih:=ZGI hf h n (j+1) (by lia);obtain⟨S1,h1,h2⟩:=h xs[j] (qx hlt);rw[zZ hlt];simp only[h1,R.Hr];rw[zM hlt,zU];rcases h2 with⟨h2,h3⟩|⟨h2,d,h3,h4⟩
   ·simp[h2,h3,ih]
   ·simp[h2,h3,h4,ih]
  ·rw[zD (by lia),zO (by lia)]
   rfl
theorem W0{f:Nat->DH->Option (Option D)}{c:DB}{F:D->Option D}{n:Nat}(hf:∀j,f j G=vB xs[j]?)(h:∀x∈xs,CStep g c te S G x (F x))(hn:xs.length<=n):
  Cm f g c te S n 0 G=.ok (xs.filterMap F) G:=ZGI hf h n 0 (by lia)
theorem ZGB{e:D}(hd:Bk d G=vB xs)(he:Bk e G=vB ys)(j:Nat):Ft [d,e] j G=vB (M7 xs ys)[j]? :=by
 unfold Ft M7;simp only[Gh,hd,he,zq,List.getElem?_zip_eq_some]
 have ez:(xs.zip ys)[j]?=match xs[j]?,ys[j]? with
  |some x,vB y=>vB (x,y)
  |_,_=>vC:=by
  rw[List.zip,List.getElem?_zipWith]
  cases xs[j]?<;>cases ys[j]?<;>rfl
 rw[ez];cases xs[j]? with
 |none=>rfl
 |some x=>
  cases ys[j]? with
  |none=>rfl
  |some y=>rfl
theorem ZEU{e:D}(hd:Bk d G=vB xs)(he:Bk e G=vB ys):Gz 2 [d,e] G=.ok (.fn xs.length (Ft [d,e])) G:=by simp[Gz,Jb,hd,he,lenOf]
@[simp]theorem ZDF:Bk (.fl xs) G=vB xs:=id rfl
@[simp]theorem T7:Bk (.tup xs) G=vB xs:=id rfl
theorem ZME{i:Nat}(h:G[i]?=vB (.lst xs)):Bk (.ref i) G=vB xs:=by simp[Bk,h]
theorem ZKe{n:Int}{ns:List Int}(h:Bk d G=vB ((n::ns).map D.int)):Mq [d] G=.ok (.int (ns.foldl min n)) G:=by simp only[Mq,h,ZEb]
theorem ZCV{p:Nat}(h:G[p]?=vB (.lst [d]))(hk:k<=1000000):Jd (.ref p) (.int (k:Int)) G=.ok (.ref G.length) (G++[.lst (zx k d)]):=by
 unfold Jd;simp only;rw[h];simp only;have e:(zx k [d]).flatten=zx k d:=by
  induction k with
  |zero=>rfl
  |succ k ih=>rw[qW,qH,ih (by lia),qW];rfl
 rw[if_pos ⟨by lia,by lia,by simpa using hk⟩,Int.toNat_natCast,e]
end
def Bts(i:Int):Prop:=i.natAbs.log2<33554432
def MulB(i j:Int):Prop:=CMul i j∨(Bts i/\Bts j)
noncomputable instance (i:Int):Decidable (Bts i):=by unfold Bts;infer_instance
noncomputable instance (i j:Int):Decidable (MulB i j):=by unfold MulB;infer_instance
theorem MulB.ok{i j:Int}(h:MulB i j):IntMulOk i j:=by
 rcases h with h|⟨h1,h2⟩
 ·exact h.ok
 ·have b:∀k:Int,Bts k->Builtin.Int.intBits k<=33554432:=λk hk=>by
   unfold Builtin.Int.intBits;split
   ·exact j6 _
   ·exact hk
  have c1:=b i h1;have c2:=b j h2;have h:Builtin.Int.intTooBig (Builtin.Int.intBits i+Builtin.Int.intBits j)=vE:=by unfold Builtin.Int.intTooBig bitsLine;exact decide_eq_false (by lia)
  unfold IntMulOk;rw[h];simp
section
variable{X:Cx}{E:XK}
theorem ZHs:OpR X (x9 .Mult) (rI MulB λi j=>.int (i*j)):=opI λ_ _ _ _ _ _ _ hc q=>mul_int q hc.ok
end
section
variable{i j:Int}{G:DH}
end
section
variable{X:Cx}{E:XK}
end
def Fp(f:Str)(v:D):List (Str×D)->List (Str×D)
 |[]=>[(f,v)]
 |(g,x)::r=>if g=f then(g,v)::r else(g,x)::Fp f v r
theorem RepF.mono{b:Wd}(x:Ext a b){fs:List (Str×D)}(h:RepF a fs us):RepF b fs us:=⟨h.1,h.2.mono x⟩
theorem RepF.cons{g:Str}{fs:List (Str×D)}(h:Rep a d v)(r:RepF a fs us):RepF a ((g,d)::fs) ((g,v)::us):=
 ⟨by simp[r.1],v,us.map (·.2),rfl,h,r.2⟩
theorem RepF.uncons{g:Str}{fs:List (Str×D)}(h:RepF a ((g,d)::fs) us):∃v us',us=(g,v)::us'/\Rep a d v/\RepF a fs us':=by
 obtain⟨h1,h2⟩:=h;cases us with
 |nil=>simp at h1
 |cons q us=>
  obtain⟨g',y⟩:=q;simp only[zG,List.cons.injEq]at h1;obtain⟨rfl,h1⟩:=h1;obtain⟨v,r,e1,r1,r2⟩:=h2;simp only[zG,List.cons.injEq]at e1;obtain⟨rfl,rfl⟩:=e1;exact⟨y,us,rfl,r1,h1,r2⟩
theorem RepF.nil'(h:RepF a [] us):us=[]:=by
 obtain⟨h1,_⟩:=h;cases us with
 |nil=>rfl
 |cons q us=>simp at h1
theorem lkc{α:Type}{f g:Str}{x:α}{fs:List (Str×α)}:jQ f ((g,x)::fs)=if(f==g)=vD then vB x else fs.lookup f:=by
 show(match f==g with
  |true=>vB x
  |false=>jQ f fs)=_
 cases f==g<;>rfl
theorem RepF.look{f:Str}:∀{fs:List (Str×D)}{us:List (Str×V)},RepF a fs us->fs.lookup f=vB d->∃u,us.lookup f=vB u/\Rep a d u
 |[],us,h,e=>by simp at e
 |(g,x)::fs,us,h,e=>by
  obtain⟨v,us',rfl,hv,hr⟩:=h.uncons;rw[lkc]at e⊢;by_cases q:(f==g)=vD
  ·rw[if_pos q]at e⊢;cases e;exact⟨v,rfl,hv⟩
  ·rw[if_neg q]at e⊢;exact RepF.look hr e
theorem RepF.ZBe{f:Str}:∀{fs:List (Str×D)}{us:List (Str×V)},RepF a fs us->fs.lookup f=vC->us.lookup f=vC
 |[],us,h,e=>by rw[h.nil'];rfl
 |(g,x)::fs,us,h,e=>by
  obtain⟨v,us',rfl,hv,hr⟩:=h.uncons;rw[lkc]at e⊢;by_cases q:(f==g)=vD
  ·rw[if_pos q]at e;cases e
  ·rw[if_neg q]at e⊢;exact RepF.ZBe hr e
theorem RepF.put{f:Str}(q:Rep a d v):∀{fs:List (Str×D)}{us:List (Str×V)},RepF a fs us->RepF a (Fp f d fs) (Dv f v us)
 |[],us,h=>by rw[h.nil'];exact RepF.cons (fs:=[]) (us:=[]) q ⟨rfl,rfl⟩
 |(g,x)::fs,us,h=>by
  obtain⟨w,us',rfl,hv,hr⟩:=h.uncons;unfold Fp Dv;by_cases e:g=f
  ·rw[if_pos e,if_pos e];exact .cons q hr
  ·rw[if_neg e,if_neg e];exact .cons hv (RepF.put q hr)
theorem RepF.len{fs:List (Str×D)}(h:RepF a fs us):us.length=fs.length:=by have:=congrArg List.length h.1;simpa using this.symm
theorem Ext.wrI{p C dx:jT}{ho:HO}(h:a.H p=vB (.ins C dx us)):Ext a (a.put p ho):=
 ⟨rfl,zW _,λ_ _=>rfl,λq xs e=>by
  show upd a.H p ho q=_;rw[Ay (λz=>by subst z;rw[h]at e;cases e)];exact e,λq o u e=>by
  show upd a.H p ho q=_;rw[Ay (λz=>by subst z;rw[h]at e;cases e)];exact e,λ_ t=>t.mono (λq ps e=>by show upd a.H p ho q=_;rw[Ay (λz=>by subst z;rw[h]at e;cases e)];exact e) (λq o u e=>by show upd a.H p ho q=_;rw[Ay (λz=>by subst z;rw[h]at e;cases e)];exact e)⟩
theorem Sim.wrI(s:Sim a G){i:Nat}(hi:i<a.n){c:Str}{C dx:jT}{us':List (Str×V)}{fs':List (Str×D)}(hn:PySem.W.nsIn a.K xR c=vB (vB (.ref C)))(h:a.H (a.m i)=vB (.ins C dx us))(r:RepF (a.put (a.m i) (.ins C dx us')) fs' us'):
  Sim (a.put (a.m i) (.ins C dx us')) (G.set i (.ins c fs')):=by
 refine⟨by rw[jz];exact s.len,s.inj,λj o e=>?_,λj hj=>?_⟩
 ·rw[qL]at e;show ORep _ o (upd a.H (a.m i) (.ins C dx us') (a.m j));by_cases hij:i=j
  ·subst hij;rw[if_pos rfl,if_pos (by rw[s.len];exact hi)]at e;cases e;rw[Eo];exact⟨C,dx,us',hn,rfl,r⟩
  ·rw[if_neg hij]at e;rw[Ay λz=>hij (s.inj _ _ (s.lt e) hi z).symm];exact(s.obj j o e).mono (Ext.wrI h)
 ·show upd a.H (a.m i) (.ins C dx us') (a.m j)≠vC;by_cases hij:a.m j=a.m i
  ·rw[hij,Eo];simp
  ·rw[Ay hij];exact s.tr j hj
def I8(c:Str)(d:D)(G:DH):Option (List (Str×D)):=match d with
 |.ref i=>match G[i]? with
  |some (.ins c' fs)=>if c'=c then vB fs else vC
  |_=>vC
 |_=>vC
theorem Sim.ins{x:V}{c:Str}{fs:List (Str×D)}(s:Sim a G)(r:Rep a d x)(h:I8 c d G=vB fs):
  ∃i C dx us,d=.ref i/\i<a.n/\x=.ref (a.m i)/\G[i]?=vB (.ins c fs)/\PySem.W.nsIn a.K xR c=vB (vB (.ref C))/\a.H (a.m i)=vB (.ins C dx us)/\RepF a fs us:=by
 unfold I8 at h;split at h
 ·rename_i i;split at h
  ·rename_i c' fs' e;split at h
   ·rename_i hc;subst hc;cases h;obtain⟨l,ev⟩:=r;obtain⟨C,dx,us,n,e1,r1⟩:=s.obj i _ e;exact⟨i,C,dx,us,rfl,l,ev,e,n,e1,r1⟩
   ·cases h
  ·cases h
 ·cases h
def Dm(c:Str)(t:DE)(f:Str):DE:=λS G=>(t S G).bind λd G1=>match I8 c d G1 with
 |some fs=>match fs.lookup f with
  |some v=>.ok v G1
  |none=>.bad
 |none=>.bad
def Es(c:Str)(to tv:DE)(f:Str):DS:=λS G=>(tv S G).toS λd G1=>(to S G1).toS λo G2=>match o with
 |.ref i=>match I8 c o G2 with
  |some fs=>if fs.length<1000 then .nx S (G2.set i (.ins c (Fp f d fs)))else .bad
  |none=>.bad
 |_=>.bad
def Gw(c:Str)(m:Str)(F:List D->DH->R D)(to:DE)(t:DA):DE:=λS G=>(to S G).bind λo G1=>match I8 c o G1 with
 |some fs=>match fs.lookup m with
  |none=>(t S G1).bind λds G2=>F (o::ds) G2
  |some _=>.bad
 |none=>.bad
def ZAZ(c:Str)(F:List D->DH->R D)(t:DA):DE:=λS G=>(t S G).bind λds G1=>(F (.ref G1.length::ds) (G1++[.ins c []])).bind λv G2=>match v with
 |.non=>.ok (.ref G1.length) G2
 |_=>.bad
section
variable{X:Cx}{E:XK}{c f m:Str}{C:jT}{e o:xQ}{es:List xQ}{t ta tv:DE}{tr:DA}{pos apos pos':Pos}
theorem Ds(hn:PySem.W.nsIn X.K xR c=vB (vB (.ref C)))(hc:Cls X.K C)(hf:NoAttr X.K C f)(ha:QE X E e t)(hb:xj e f X.env (eval e X.env)=eval e X.env:=by rfl):QE X E (.Attribute e f pos) (Dm c t f):=
 (ZGm ha hb).mono λσ H Q h=>by
  obtain⟨a,S,G,hk,rfl,s,r,h⟩:=h;refine⟨a,S,G,hk,rfl,s,r,(Ei h).imp ?_⟩;rintro v _ ⟨b,d,G1,rfl,x,s1,q,-,h1⟩;split at h1
  ·rename_i fs hi;obtain⟨i,C',dx,us,rfl,_,rfl,_,n',e1,r1⟩:=s1.ins q hi;have hCC:C'=C:=by
    rw[x.k,hk,hn]at n';cases n'
    rfl
   subst hCC;split at h1
   ·rename_i d' hd;obtain⟨u,eu,ru⟩:=r1.look hd;exact⟨b.m i,C',dx,us,u,rfl,e1,hc,hf,eu,h1 b u (Ext.refl b) s1 ru⟩
   ·exact h1.elim
  ·exact h1.elim
theorem Kw(hn:PySem.W.nsIn X.K xR c=vB (vB (.ref C)))(hc:Cls X.K C)(hf:NoAttr X.K C f)(ha:QE X E o ta)(hv:QE X E e tv)(hs:swapsWith e (vB (.Attribute o f pos')) pos.line X.env=pure vE:=by rfl):
  QS X E (.Assign [.Attribute o f pos'] e pos) (Es c ta tv f):=
 (ZHP ha hv hs).mono λW σ H h=>by
  obtain⟨a,S,G,hk,rfl,s,r,h⟩:=h;refine⟨a,S,G,hk,rfl,s,r,(Ge h).imp ?_⟩;rintro v _ ⟨b,d,G1,rfl,x,s1,q,-,h1⟩;refine⟨b,S,G1,x.k.trans hk,rfl,s1,r.mono x,(Ge h1).imp ?_⟩;rintro v2 _ ⟨b2,d2,G2,rfl,x2,s2,q2,-,h2⟩;split at h2
  ·rename_i i;split at h2
   ·rename_i fs hi;split at h2
    ·rename_i hl;obtain⟨i',C',dx,us,ei,li,rfl,eg,n',e1,r1⟩:=s2.ins q2 hi;cases ei;have hCC:C'=C:=by
      rw[x2.k,x.k,hk,hn]at n';cases n'
      rfl
     subst hCC;have x3:Ext b2 (b2.put (b2.m i) (.ins C' dx (Dv f v us))):=Ext.wrI e1;have s3:=s2.wrI (fs':=Fp f d fs) li n' e1 (RepF.put ((q.mono x2).mono x3) (r1.mono x3));exact⟨b2.m i,C',dx,us,rfl,e1,hc,hf,by rw[r1.len];exact hl,h2 _ σ x3 s3 (((r.mono x).mono x2).mono x3)⟩
    ·exact h2.elim
   ·exact h2.elim
  ·exact h2.elim
theorem ZGp{sp:List D->DH->R D}{σ:St}{H:Hp}{Q:VK}(hn:PySem.W.nsIn X.K xR c=vB (vB (.ref C)))(h:lE X.K E0 (Gw c m F ta tr) σ H Q):Zn C m (lF X.K F) [] E0 (lE X.K E0 ta) (lA X.K E0 tr) σ H Q:=by
 obtain⟨a,S,G,hk,rfl,s,r,h⟩:=h;refine⟨a,S,G,hk,rfl,s,r,(Ei h).imp ?_⟩;rintro v _ ⟨b,d,G1,rfl,x,s1,q,-,h1⟩;split at h1
 ·rename_i fs hi;obtain⟨i,C',dx,us,rfl,_,rfl,_,n',e1,r1⟩:=s1.ins q hi;have hCC:C'=C:=by
   rw[x.k,hk,hn]at n';cases n'
   rfl
  subst hCC;split at h1
  ·rename_i hm;refine⟨b.m i,dx,us,rfl,e1,r1.ZBe hm,b,S,G1,x.k.trans hk,rfl,s1,r.mono x,(La h1).imp ?_⟩;rintro vs _ ⟨b2,ds,G2,rfl,x2,s2,q2,-,h2⟩;exact⟨b2,G2,.ref i::ds,(x2.k.trans x.k).trans hk,rfl,s2,⟨.ref (b.m i),vs,by rw[q8],q.mono x2,q2⟩,h2⟩
  ·exact h1.elim
 ·exact h1.elim
theorem O7{g:jT}{pl:Sem Bool}(hn:PySem.W.nsIn X.K xR c=vB (vB (.ref C)))(hc:Cls X.K C)(hm:Meth X.K C m g)(FF:FnOk X.prog X.w X.K X.mg X.base CX k g fd ps (lF X.K F))(hr:Room k X.A)(hb:Binds X.K fd ps [])
  (hx:Passes CX X E0) (ho:QE X E0 o ta) (ha:QA X E0 (e::es) tr) (he:notStar e=vD:=by rfl) (hpl:es.all notStar=vD:=by rfl)
  (ht:eval (.Call (.Attribute o m apos) (e::es) [] pos) X.env=(do
   let ov<-eval o X.env
   standAt apos.atName
   let(f,first)<-holding [ov] (getMethod ov m pl)
   callWith pos f first (xk pos (vZ (e::es) X.env)) (xy pos (xO [] X.env))):=by rfl):QE X E0 (.Call (.Attribute o m apos) (e::es) [] pos) (Gw c m F ta tr):=
 (ZNr (pl:=pl) ho hc hm FF hr hb .nil hx ha (Hw e es X.env he) (Jv pos X.env es hpl) ht).mono λσ H Q h=>ZGp (sp:=F) hn h
theorem ZCv{g:jT}{pl:Sem Bool}(hn:PySem.W.nsIn X.K xR c=vB (vB (.ref C)))(hc:Cls X.K C)(hm:Meth X.K C m g)(FF:FnOk X.prog X.w X.K X.mg X.base CX k g fd ps (lF X.K F))(hr:Room k X.A)(hb:Binds X.K fd ps [])
  (hx:Passes CX X E0) (ho:QE X E0 o ta)
  (ht:eval (.Call (.Attribute o m apos) [] [] pos) X.env=(do
   let ov<-eval o X.env
   standAt apos.atName
   let(f,first)<-holding [ov] (getMethod ov m pl)
   callWith pos f first (xk pos (vZ [] X.env)) (xy pos (xO [] X.env))):=by rfl):QE X E0 (.Call (.Attribute o m apos) [] [] pos) (Gw c m F ta Ad):=
 (ZI1 (pl:=pl) ho hc hm FF hr hb .nil hx ht).mono λσ H Q h=>by
  obtain⟨a,S,G,hk,rfl,s,r,h⟩:=h;refine⟨a,S,G,hk,rfl,s,r,(Ei h).imp ?_⟩;rintro v _ ⟨b,d,G1,rfl,x,s1,q,-,h1⟩;split at h1
  ·rename_i fs hi;obtain⟨i,C',dx,us,rfl,_,rfl,_,n',e1,r1⟩:=s1.ins q hi;have hCC:C'=C:=by
    rw[x.k,hk,hn]at n';cases n'
    rfl
   subst hCC;split at h1
   ·rename_i hm;exact⟨b.m i,dx,us,rfl,e1,r1.ZBe hm,b,G1,[.ref i],x.k.trans hk,rfl,s1,⟨.ref (b.m i),[],rfl,q,rfl⟩,h1⟩
   ·exact h1.elim
  ·exact h1.elim
theorem ZNE{ds:List D}{Q:VK}(hk:a.K=X.K)(hn:PySem.W.nsIn X.K xR c=vB (vB (.ref C)))(s:Sim a G)(q:Reps a ds vs)
  (h:out E0 a ((F (.ref G.length::ds) (G++[.ins c []])).bind λv G2=>match v with
   |.non=>.ok (.ref G.length) G2
   |_=>.bad) Q):∀x dx,a.H x=vC->a.H dx=vC->dx≠x->lF X.K F (.ref x::(vs++[])) (upd (upd a.H dx (.own x)) x (.ins C dx [])) (λv H2=>v=.non/\Q (.ref x) H2) E:=λp dx hp hdx hne=>by
 have x1:Ext a (a.put dx (.own p)):=Ext.put hdx;have s1:Sim (a.put dx (.own p)) G:=s.put hdx;have hp1:(a.put dx (.own p)).H p=vC:=by show upd a.H dx (.own p) p=vC;rw[Ay λz=>hne z.symm];exact hp
 have x2:Ext (a.put dx (.own p)) ((a.put dx (.own p)).push p (.ins C dx [])):=Ext.push hp1;have s2:Sim ((a.put dx (.own p)).push p (.ins C dx [])) (G++[.ins c []]):=s1.push hp1 ⟨C,dx,[],by show PySem.W.nsIn a.K xR c=_;rw[hk];exact hn,rfl,rfl,rfl⟩;have hgl:G.length=a.n:=s.len;have mnew:((a.put dx (.own p)).push p (.ins C dx [])).m a.n=p:=by show(if a.n=a.n then p else a.m a.n)=p;rw[if_pos rfl]
 have rp:Rep ((a.put dx (.own p)).push p (.ins C dx [])) (.ref G.length) (.ref p):=by rw[hgl];exact⟨qX _,by rw[mnew]⟩
 refine⟨(a.put dx (.own p)).push p (.ins C dx []),_,.ref G.length::ds,hk,rfl,s2,⟨.ref p,vs,by rw[q8],rp,(q.mono x1).mono x2⟩,(Ei (out.mono (x1.trans x2) h)).imp ?_⟩;rintro v _ ⟨b,d,G1,rfl,x3,s3,q3,-,h3⟩;split at h3
 ·have:v=.non:=q3;exact⟨this,h3 b _ (Ext.refl b) s3 (rp.mono x3)⟩
 ·exact h3.elim
theorem ZK7{g:jT}{p:Pos}(hn:PySem.W.nsIn X.K xR c=vB (vB (.ref C)))(M:Mk X.K C g)(FF:FnOk X.prog X.w X.K X.mg X.base CX k g fd ps (lF X.K F))(hr:Room (k+1) X.A)(hg:Gl X c)(hm:X.mg c=vB (.ref C))(hb:Binds X.K fd ps [])
  (hx:Passes CX X E0) (ha:QA X E0 (e::es) tr) (hdb:(c==("__debug__":Str))=vE:=by decide) (he:notStar e=vD:=by rfl) (hpl:es.all notStar=vD:=by rfl):QE X E0 (.Call (.Name c p) (e::es) [] pos) (ZAZ c F tr):=
 (ZJf M FF hr hg hm hb .nil hx ha hdb (Hw e es X.env he) (Jv pos X.env es hpl)).mono λσ H Q h=>by obtain⟨a,S,G,hk,rfl,s,r,h⟩:=h;refine⟨a,S,G,hk,rfl,s,r,(La h).imp ?_⟩;rintro vs _ ⟨b,ds,G1,rfl,x,s1,q,-,h1⟩;exact ZNE (x.k.trans hk) hn s1 q h1
end
def N5(d:D)(ds:List D)(G:DH):R D:=match ds with
 | [.int k]=>match G9 d G with
  |some xs=>match Fy xs with
   |some ns=>if k∈ns/\ns.length<=1000000 then .ok (.int (ns.idxOf k)) G else .bad
   |none=>.bad
  |none=>.bad
 |_=>.bad
theorem ZC2:∀{ns:List Int}{vs:List V},Reps a (ns.map D.int) vs->vs=ns.map V.int
 |[],vs,h=>h
 |n::ns,vs,h=>by
  obtain⟨v,r,e,h1,h2⟩:=h
  cases(show v=V.int n from h1)
  rw[e,ZC2 h2]
  rfl
theorem Ri:∀{ns:List Int}{us:List xY},Vals (ns.map V.int) us->us.length=ns.length/\∀(j:Nat)(u:xY),us[j]?=vB u->∃t,∃h:j<ns.length,u=.int ns[j] t
 |[],us,h=>by cases h;exact⟨rfl,λj u e=>by simp at e⟩
 | n::ns,us,h=>by
  cases h with
  | cons r rr=>
   obtain⟨h1,h2⟩:=Ri rr;obtain⟨t,rfl⟩:=r;refine⟨by simp[h1],λj u e=>?_⟩;cases j with
   |zero=>simp at e;exact⟨t,by simp,by simpa using e.symm⟩
   |succ j=>
    obtain⟨t',hj,e'⟩:=h2 j u (by simpa using e);exact⟨t',by simpa using hj,by simpa using e'⟩
section
variable{X:Cx}{E:XK}
theorem ZKK:MtM X "list.index" (lRm X.K E N5):=by
 intro vA s σ H x xs v us Q I rx rxs h;obtain⟨a,G,d,ds,hk,rfl,sm,rd,rds,q⟩:=h;unfold N5 at q;split at q
 ·rename_i k;split at q
  ·rename_i ys hy;split at q
   ·rename_i ns hns;split at q
    ·rename_i hk';obtain⟨hmem,hlen⟩:=hk';obtain⟨p,vs,rfl,hq,rv⟩:=Pb sm rd hy;rw[ZAz hns]at rv;rw[ZC2 rv,hk]at hq;cases rx;obtain⟨v1,rfl,rv1⟩:=reps1 rds
     cases(show v1=V.int k from rv1)
     obtain⟨u,rfl,ru⟩:=rxs.one;obtain⟨t,rfl⟩:=ru;obtain⟨its,rits,⟨o,n,ho,hc,hdi,hd⟩,hz⟩:=I.list hq;obtain⟨hl1,hl2⟩:=Ri rits;have hlt:ns.idxOf k<ns.length:=jk hmem;have hjs:ns.idxOf k<its.toArray.size:=by simpa[hl1]using hlt
     have hob:o={cls:=.type "list",dict:=o.dict,data:=.seq its.toArray n,slots:=o.slots}:=by
      obtain⟨c1,c2,c3,c4⟩:=o;simp only at hc hd;subst hc;subst hd
      rfl
     rw[hob]at ho
     refine call_meets PySem.F.slot_list_index ⟨_,ho,rfl⟩ PySem.F.entry_list_index (PySem.F.args_list_index_2 _ _) (SeqAt.list_indexAt p its.toArray n o.dict o.slots (.int k t) (λy=>match y with | .int i _=>i==k|_=>vE) (ns.idxOf k) hjs (by lia) ?_ ?_) ⟨ho,λy hy=>?_,?_⟩
     ·have hg:its[ns.idxOf k]?=vB its.toArray[ns.idxOf k]:=by simp[zZ (by simpa[hl1]using hlt:ns.idxOf k<its.length)]
      obtain⟨t',h3,e3⟩:=hl2 _ _ hg;rw[e3];simp
     ·intro m hm hlt2;have hml:m<its.length:=by simpa using hm
      have hg:its[m]?=vB its.toArray[m]:=by simp[zZ hml]
      obtain⟨t',h3,e3⟩:=hl2 _ _ hg;rw[e3];have:=List.not_of_lt_findIdx (p:=λx=>x==k) (xs:=ns) hlt2;simpa using this
     ·have hy2:y∈its:=by simpa using hy
      obtain⟨m,hm,e⟩:=qK hy2;obtain⟨t',h3,e3⟩:=hl2 m y (by rw[zZ hm,e]);rw[e3];exact SeqAt.EqAt.int_int _ _ _ _
     ·exact⟨.int (ns.idxOf k),a.H,I.tok _,⟨_,rfl⟩,q a _ (Ext.refl a) sm rfl⟩
    ·exact q.elim
   ·exact q.elim
  ·exact q.elim
 ·exact q.elim
def tLR(ta:TA):TE:=λσ H Q=>ta σ H λvs H1=>∃j:Int,vs=[.int j]/\ -(2^62)<=j/\j<=1000000/\∀l,H1 l=vC->Q (.ref l) (upd H1 l (.lst ((zk j.toNat).map λ(i:Nat)=>V.int (i:Int))))
theorem ZNy{acc:Array xY}{n:Nat}(h:ItemsOf (λi v=>∃t,v=.int ((0:Int)+i*1) t) acc n):Vals ((zk n).map λ(i:Nat)=>V.int (i:Int)) acc.toList:=by
 obtain⟨h1,h2⟩:=h;refine Xy (by simp[h1]) λi v u hv hu=>?_
 have hi:i<n:=by have:=(zH.mp hv).1;simpa using this
 rw[zq,zP hi]at hv;have ev:v=V.int (i:Int):=by simpa using hv.symm
 obtain⟨t,e⟩:=h2 i u (by rw[<-qR];exact hu);subst ev;refine⟨t,?_⟩;rw[e]
 congr 1
 lia
theorem ZOE{ta:TA}{p p' pos pos':Pos}(hc:X.calm=vD)(hg:Gl X "list")(hm:X.mg "list"=vC)(hg2:Gl X "range")(hm2:X.mg "range"=vC)(ha:PA X [e] ta)(hs:vZ [e] X.env=[(vE,eval e X.env)]:=by rfl)
  (hs2:vZ [.Call (.Name "range" p') [e] [] pos'] X.env=[(vE,eval (.Call (.Name "range" p') [e] [] pos') X.env)]:=by rfl):PE X (.Call (.Name "list" p) [.Call (.Name "range" p') [e] [] pos'] [] pos) (tLR ta):=by
 intro vA s σ H Q I h;refine Call_ (Ht I hg hm Q8 (PyProof.Rows.callWith_type1 ?_ hs2 rfl));rw[hs2];refine Calls.spliced_cons (Call_ (Ht I hg2 hm2 PyProof.Rows.boot_range (PyProof.Rows.callWith_type1 (thn (ha pos' vA s σ H _ I h) λus s1 ⟨vs,H1,I1,r1,q1⟩=>?_) hs rfl)));obtain⟨j,rfl,b1,b2,q⟩:=q1;obtain⟨u,rfl,ru⟩:=r1.one;obtain⟨t,rfl⟩:=ru;refine call_range_1 (Calls.spliced_nil ?_)
 have hsz:Builtin.Range.rangeSize 0 j 1=(j.toNat:Int):=by rw[rangeSize_one];split <;> lia
 refine call_list_range (I.ok.hd hc) (IsRange.new ..) (small_one (by decide) (by decide) b1 (by lia)) hsz (by lia) λh' tk acc' c' hk hS' hacc=>?_
 have I2:=I1.kept (t':=s1.toks+1+1) (h':=s1.heap.push {cls:=.type "range",data:=.fields #[.int 0 s1.toks,.int j t,.int 1 (s1.toks+1)]}) λb o e=>zQ _ e
 refine⟨.ref _,_,I2.laid (o:=.lst ((zk j.toNat).map λ(i:Nat)=>V.int (i:Int))) (t':=tk) hk (zW _) ⟨?_,acc'.toList,c',ZNy hacc,by simpa using hS'⟩,rfl,q _ (I2.hok.fresh (zW _))⟩;rw[qJ,List.length_range,xU];lia
def dLR(t:DA):DE:=λS G=>(t S G).bind λds G1=>match ds with
 |[.int j]=>if inR j/\j<=1000000 then .ok (.ref G1.length) (G1++[.lst (Do 0 j.toNat)])else .bad
 |_=>.bad
theorem ZKl{p p' pos pos':Pos}(hc:X.calm=vD)(hg:Gl X "list")(hm:X.mg "list"=vC)(hg2:Gl X "range")(hm2:X.mg "range"=vC)(ha:QA X E [e] ta)(hs:vZ [e] X.env=[(vE,eval e X.env)]:=by rfl)
  (hs2:vZ [.Call (.Name "range" p') [e] [] pos'] X.env=[(vE,eval (.Call (.Name "range" p') [e] [] pos') X.env)]:=by rfl):QE X E (.Call (.Name "list" p) [.Call (.Name "range" p') [e] [] pos'] [] pos) (dLR ta):=
 (ZOE hc hg hm hg2 hm2 ha hs hs2).mono λσ H Q h=>by
  obtain⟨a,S,G,hk,rfl,s,r,h⟩:=h;refine⟨a,S,G,hk,rfl,s,r,(La h).imp ?_⟩;rintro vs _ ⟨b,ds,G1,rfl,x,s1,q,-,h1⟩;split at h1
  ·rename_i j;split at h1
   ·rename_i hj;obtain⟨v,rfl,rv⟩:=reps1 q
    cases(show v=V.int j from rv)
    refine⟨j,rfl,hj.1.1,hj.2,λl hl=>K5 s1 ?_ h1 l hl⟩;unfold Do;generalize zk j.toNat=L
    induction L with
    |nil=>exact rfl
    |cons k L ih=>exact⟨_,_,rfl,(by show V.int (k:Int)=V.int (0+(k:Int));rw[Int.zero_add]),ih⟩
   ·exact h1.elim
  ·exact h1.elim
noncomputable def Itd(lo:Int)(n:Nat):It:=⟨λi _=>i<n,λi H x H'=>H'=H/\x=.int (lo-i),λi _=>n<=i⟩
theorem ZMI{P:xX}{w:xq}{K:PySem.W.Frag}{tg:xQ}(it:jT)(lo:Int)(n:Nat):Turn P w K tg (Itd lo n) [it] it (λi h=>IsRangeIter h it (lo+(i:Nat)*(-1)) ((n:Int)-(i:Nat)) (-1)) where
 mem:=by simp
 obj:=λi h st b hb=>by
  have e:b=it:=by simpa using hb
  subst e;exact⟨_,st,λv z=>by have z':Data.fields _=Data.cell v:=z;cases z'⟩
 keep:=λi h h' st k=>k it (by simp) _ st
 item:=by
  intro X hP hw hK hc i vA s σ H E I hf st hg;subst hP hw hK;obtain⟨f0,f1,f2,f3,f4,f5⟩:=hf it (by simp);have W:=Walks.range (prog:=X.prog) (w:=X.w) (I.ok.hd hc) it lo (-1) n;refine W.item i s _ _ hg st λv h' tk hv st' kk=>?_
  obtain⟨t,rfl⟩:=hv;have I1:Inv X vA σ H {s with heap:=h',toks:=tk}:=I.turned (λb o hb e=>kk b o (by simpa using hb) e) f0 f1 f3 f4 f5;refine⟨_,rfl,Nz (s:={s with heap:=h',toks:=tk}) (n:="range_iterator") st' rfl rfl (by decide) ⟨.int (lo-i),H,I1,⟨t,?_⟩,⟨rfl,rfl⟩,st',λb hb=>(hf b hb).1⟩⟩
  congr 1
  lia
 done:=by intro X hP hw hK hc i vA s σ H E I hf st hg;subst hP hw hK;obtain⟨f0,f1,f2,f3,f4,f5⟩:=hf it (by simp);exact wpAny_pyNext_range_end (I.ok.hd hc) st (by have:n<=i:=hg;lia) λh' eb=>⟨rfl,I.turned (t':=s.toks) (λb o hb e=>eb b o hb e) f0 f1 f3 f4 f5⟩
 self:=λ_ _ _ _ _ st h=>wpAny_pyIter_rangeiter st h
theorem rangeSize_down(a b:Int):Builtin.Range.rangeSize a b (-1)=if b<a then a-b else 0:=by
 unfold Builtin.Range.rangeSize;rw[if_neg (by decide)];have e:(- (-1:Int))=1:=by decide
 rw[e,Int.ediv_one]
 split <;> lia
theorem small_down{a b:Int}(ha: -(2^62)<=a)(ha':a<2^62)(hb: -(2^62)<=b)(hb':b<2^62):Builtin.Range.small a b (-1)=vD:=by
 unfold Builtin.Range.small;rw[rangeSize_down];simp only[Builtin.Range.rangeFitsLong,zB,j8,decide_eq_true_eq,beq_iff_eq,show¬((-1:Int)>0) by decide,if_false]
 split <;> lia
def iDn(ta:TA):TI:=λσ H R=>ta σ H λvs H1=>∃i j:Int,vs=[.int i,.int j,.int (-1)]/\(-(2^62)<=i/\i<2^62/\ -(2^62)<=j/\j<2^62)/\R (Itd i (i-j).toNat) H1
theorem ZK1{tg a b c:xQ}{ta:TA}{p pos:Pos}(hg:Gl X "range")(hm:X.mg "range"=vC)(ha:PA X [a,b,c] ta)(hs:vZ [a,b,c] X.env=(vE,eval a X.env)::vZ [b,c] X.env:=by rfl)(hs2:(xk pos (vZ [b,c] X.env)).any (·.1)=vE:=by rfl):
  PI X tg (.Call (.Name "range" p) [a,b,c] [] pos) (iDn ta):=by
 intro vA s σ H R I h;refine Call_ (Ht I hg hm PyProof.Rows.boot_range (PyProof.Rows.callWith_type1 (thn (ha pos vA s σ H _ I h) λus s1 ⟨vs,H1,I1,r1,q1⟩=>?_) hs hs2));obtain⟨i,j,e,⟨q1,q2,q3,q4⟩,q⟩:=q1;subst e;cases r1 with
 | cons r rr=>
  cases rr with
  | cons r' rr=>
   cases rr with
   | cons r'' rr=>
    cases rr;obtain⟨t,rfl⟩:=r;obtain⟨t',rfl⟩:=r';obtain⟨t'',rfl⟩:=r'';refine call_range_3 (by decide) ?_ (.inl (PyProof.noPylong_small (by lia)));refine wpAny_pyIter_range (IsRange.new ..) (small_down q1 q2 q3 q4) ?_;have I2:Inv X vA σ H1 {s1 with heap:=s1.heap.push {cls:=.type "range",data:=.fields #[.int i t,.int j t',.int (-1) t'']},toks:=s1.toks}:=I1.kept λb o e=>zQ _ e
    refine⟨(s1.heap.push {cls:=.type "range",data:=.fields #[.int i t,.int j t',.int (-1) t'']}).objs.size,[(s1.heap.push {cls:=.type "range",data:=.fields #[.int i t,.int j t',.int (-1) t'']}).objs.size],_,_,H1,rfl,
     I2.kept (t':=s1.toks) λb o e=>zQ _ e,ZMI _ i (i-j).toNat,?_,λb hb=>?_,q⟩
    ·have e1:i+((0:Nat):Int)*(-1)=i:=by simp
     have e2:(((i-j).toNat:Nat):Int)-((0:Nat):Int)=Builtin.Range.rangeSize i j (-1):=by rw[rangeSize_down];split <;> lia
     show IsRangeIter _ _ (i+((0:Nat):Int)*(-1)) ((((i-j).toNat:Nat):Int)-((0:Nat):Int)) (-1);rw[e1,e2];exact zy _ rfl
    ·have e:b=(s1.heap.push {cls:=.type "range",data:=.fields #[.int i t,.int j t',.int (-1) t'']}).objs.size:=by simpa using hb
     subst e;exact I2.Im (zW _) (I2.hok.fresh (zW _))
noncomputable def Iz(lo:Int)(n:Nat):List D:=(zk n).map λ(k:Nat)=>D.int (lo-(k:Int))
def rng3(ds:List D)(G:DH):R ItD:=match ds with
 |[.int i,.int j,.int k]=>if inR i/\inR j/\k= -1 then .ok (.pure (Iz i (i-j).toNat)) G else .bad
 |_=>.bad
theorem ZMd(lo:Int)(n:Nat):RepI a (.pure (Iz lo n)) (Itd lo n):=by
 refine⟨(zk n).map λ(k:Nat)=>V.int (lo-(k:Int)),?_,λb x i=>⟨λv hv=>?_,λhl=>?_⟩⟩
 ·unfold Iz;generalize zk n=l
  induction l with
  |nil=>exact rfl
  |cons k l ih=>exact⟨_,_,rfl,rfl,ih⟩
 ·rw[zq]at hv;by_cases hi:i<n
  ·rw[zP hi]at hv;have hv':V.int (lo-(i:Int))=v:=by simpa using hv
   exact⟨hi,λw H' y=>⟨y.2.trans hv',y.1⟩⟩
  ·rw[zD (by simpa using hi)]at hv;cases hv
 ·show n<=i;simpa using hl
theorem ZGl{tg e' e'':xQ}{p pos:Pos}(hg:Gl X "range")(hm:X.mg "range"=vC)(ha:QA X E [e,e',e''] ta)(hs:vZ [e,e',e''] X.env=(vE,eval e X.env)::vZ [e',e''] X.env:=by rfl)(hs2:(xk pos (vZ [e',e''] X.env)).any (·.1)=vE:=by rfl):
  QI X E tg (.Call (.Name "range" p) [e,e',e''] [] pos) (Dr rng3 ta):=
 (ZK1 hg hm ha hs hs2).mono λσ H Q h=>by
  obtain⟨a,S,G,hk,rfl,s,r,h⟩:=h;refine⟨a,S,G,hk,rfl,s,r,(Oq h).imp ?_⟩;rintro vs _ ⟨b,ds,G1,rfl,x,s1,q,-,h1⟩;unfold rng3 at h1;split at h1
  ·rename_i i j k;split at h1
   ·rename_i hj;obtain⟨hi,hj,rfl⟩:=hj;obtain⟨v,r,e1,q1,v2,r2,e2,q2,v3,r3,e3,q3,q4⟩:=q
    cases(show v=V.int i from q1)
    cases(show v2=V.int j from q2)
    cases(show v3=V.int (-1)from q3)
    cases(show r3=[]from q4)
    subst e3;subst e2;exact⟨i,j,e1,⟨hi.1,hi.2,hj.1,hj.2⟩,h1 b _ (Ext.refl b) s1 (ZMd i (i-j).toNat)⟩
   ·exact h1.elim
  ·exact h1.elim
end
theorem ZOL(a b:xY):checkTypeCall "enumerate" ⟨[a],[("start",b)]⟩=pure ():=by kernel_rfl
theorem ZJA(a b:xY):xC "enumerate.__new__" ⟨[.type "enumerate",a],[("start",b)]⟩=pure ():=by kernel_rfl
theorem ZKG(o a b:xY):argsOk "object.__init__" ⟨[o,a],[("start",b)]⟩:=by
 unfold argsOk;rw[signature?_of (id:="object.__init__") (n:=['_','_','t','i','n','i','_','_']) (o:=['t','c','e','j','b','o']) (by kernel_rfl) PySem.F.owner_object]
 kernel_rfl
section
variable{prog:xX}{w:xq}{A:jU}{E:xY->xW->Prop}{s:xW}
theorem ZId{newId:String}{self a:xY}{kw:List (Str×xY)}(hl:typeLookup (.type T) "__init__"=pure (vB (.builtin "object.__init__")))(hm:Bind.madeBy (.type T)=pure (vB newId))(hne:(vB newId != vB "object.__new__")=vD):
  Meets (Builtin.«object.__init__» ⟨[self,a],kw⟩) (λ_ R s=>s.TypeIs self T/\R (.ok (.ret .none)) s):=by
 refine Meets.of_wp λprog w A R s hs=>?_
 obtain⟨hT,hq⟩:=hs
 repeat (any_goals (first|assumption|wp_step))
 exact⟨_,rfl,hq⟩
theorem ZKp{newId initId:String}{Bn Bi:Builtin}{args:List xY}{kw:List (Str×xY)}{S:PySem.Spec}{Q Q₁:xY->xW->Prop}(ft:TypeCalled T newId initId)
  (hct:checkTypeCall T ⟨args,kw⟩=pure ()) (hcn:xC newId ⟨.type T::args,kw⟩=pure ())
  (entryN:entryFor table newId=vB Bn) (entryI:entryFor table initId=vB Bi) (g:Meets (Bn ⟨.type T::args,kw⟩) S) (h:S A.in1 (wants Q₁ E) s)
  (hnext:∀obj s₁,Q₁ obj s₁->s₁.TypeIs obj T/\argsOk initId ⟨obj::args,kw⟩/\∃Si,Meets (Bi ⟨obj::args,kw⟩) Si/\Si A.in1 (wants (λr s₂=>r=.none/\Q obj s₂) E) s₁):
  vX (xS prog w) A (call (.type T) args kw) Q E s:=by
 obtain⟨c,tl,hmro⟩:=ft.mro;have hmade:=ft.made;have hsub:=ft.sub;refine wpAny_call (codeAny_of_tree ?_);show vX _ _ (callAny (.type T) _) _ _ _;refine v4 ⟨Code.quiet_builtin _ (by decide +kernel),codeAny_builtin PySem.F.entry_type_call ?_⟩;rw[Around.under_plain (weight_type_call_type T args kw) (units_type_call_type T args kw)];have h1:=ft.notType;have h2:=ft.canCreate
 repeat (any_goals (first|assumption|wp_step))
 refine xD (codeAny_call_builtin ft.plain entryN (wpAny_of_eq hcn (g prog w A.in1 _ s h))) λr s₁ hr=>?_
 cases r with
 |error e=>exact hr
 | ok fl=>
  cases fl with
  | ret obj=>
   obtain⟨hT,hok,Si,gi,hsi⟩:=hnext _ _ hr;have hli:=ft.init.lookup;have hbi:=ft.init.bind obj
   repeat (any_goals (first|assumption|wp_step))
   refine xD (codeAny_call_builtin ft.init.plain entryI (ft.init.check _ _ _ _ _ _ _ _ hT hok (gi prog w A.in1 _ s₁ hsi))) λr₂ s₂ hr₂=>?_
   cases r₂ with
   |error e=>exact hr₂
   | ok fl₂=>
    cases fl₂ with
    |ret r=>
     obtain⟨rfl,hq⟩:=hr₂
     repeat (any_goals (first|assumption|wp_step))
    |_=>exact hr₂.elim
  |_=>exact hr.elim
theorem ZKC{sr:Src}{xs:Array xY}{n:Int}{t:Tok}{Q:xY->xW->Prop}(hv:sr.val s.heap xs)
  (h:∀h' tk g,Gv n g->En h' (s.heap.objs.size+1) s.heap.objs.size .none n g .none->sr.it h' s.heap.objs.size 0->(∀b o,s.heap.get? b=vB o->h'.get? b=vB o)->Q (.ref (s.heap.objs.size+1)) {s with heap:=h',toks:=tk}):
  vX (xS prog w) A (call (.type "enumerate") [.ref sr.adr] [("start",.int n t)]) Q E s:=by
 have g:Meets (Builtin.«enumerate.__new__» ⟨[.type "enumerate",.ref sr.adr],[("start",.int n t)]⟩) (λ_ R s=>sr.val s.heap xs/\∀g tk,Gv n g->
   R (.ok (.ret (.ref (s.heap.push {cls:=.type sr.itn,data:=.fields #[.ref sr.adr,.int 0 0]}).objs.size)))
    {s with heap:=(s.heap.push {cls:=.type sr.itn,data:=.fields #[.ref sr.adr,.int 0 0]}).push {cls:=.type "enumerate",data:=.fields #[.none,.bool vE,.ref s.heap.objs.size,xT n,g,.none]},toks:=tk}):=
  .of_wp λprog w A R s h=>by
   obtain⟨hp,g,d,tk,os⟩:=s;obtain⟨hl,h⟩:=h;have hsub:=sub_enumerate;have hL:sr.val (Shared.heap ⟨hp,g,d,tk,os⟩) xs:=hl
   wp_walk
   refine wpAny_stack_any λst=>v4 ?_
   cases hf:Builtin.SmallTypes.fitsIndex n
   ·split
    ·rename_i c _ _ _ _ _
     cases(c==Value.type "enumerate")<;>(wp_walk using Src.iter hL;exact⟨_,rfl,h _ _ (.inr ⟨t,rfl⟩)⟩)
    ·wp_walk using Src.iter hL
     exact⟨_,rfl,h _ _ (.inr ⟨t,rfl⟩)⟩
   ·split
    ·rename_i c _ _ _ _ _
     cases(c==Value.type "enumerate")<;>(wp_walk using Src.iter hL;exact⟨_,rfl,h _ _ (.inl rfl)⟩)
    ·wp_walk using Src.iter hL
     exact⟨_,rfl,h _ _ (.inl rfl)⟩
 refine ZKp (Q₁:=λobj s₁=>s₁.TypeIs obj "enumerate"/\Q obj s₁) PySem.F.called_enumerate (ZOL _ _) (ZJA _ _) PySem.F.entry_enumerate_new PySem.F.entry_object_init g ⟨hv,λg tk hg=>?_⟩ λobj s₁ hq=>⟨hq.1,ZKG obj _ _,_,ZId PySem.F.called_enumerate.init.lookup PySem.F.called_enumerate.made (by decide),hq.1,rfl,hq.2⟩
 have hz:(s.heap.push {cls:=.type sr.itn,data:=.fields #[.ref sr.adr,.int 0 0]}).objs.size=s.heap.objs.size+1:=qw ..;show _/\_;rw[hz];have he:En ((s.heap.push {cls:=.type sr.itn,data:=.fields #[.ref sr.adr,.int 0 0]}).push {cls:=.type "enumerate",data:=.fields #[.none,.bool vE,.ref s.heap.objs.size,xT n,g,.none]}) (s.heap.objs.size+1) s.heap.objs.size .none n g .none:=by
  have:=zy (s.heap.push {cls:=.type sr.itn,data:=.fields #[.ref sr.adr,.int 0 0]}) (o:={cls:=.type "enumerate",data:=.fields #[.none,.bool vE,.ref s.heap.objs.size,xT n,g,.none]}) rfl;rw[hz]at this;exact this
 exact⟨⟨_,he,rfl⟩,h _ tk g hg he ⟨_,zQ _ (zy _ rfl),rfl,rfl⟩ λb o x=>zQ _ (zQ _ x)⟩
theorem ZOV{M:Model}{A:jU}{E:xY->xW->Prop}{s:xW}{env:Env}{pos:Pos}{rest:List xQ}{kws:List Keyword}{Q:xY->xW->Prop}
  (hall:(xy pos (xO kws env)).all (·.1.isSome)=vD)
  (h:vX M A (spliced (xk pos (vZ (e::rest) env))) (λvs s₁=>vX M A (evalAll ((xy pos (xO kws env)).map (·.2)))
   (λks s₂=>vX M A (call (.type T) vs (((xy pos (xO kws env)).filterMap (·.1)).zip ks)) Q E s₂) E s₁) E s)
  (hplain:(xk pos (vZ (e::rest) env)).any (·.1)=vE) (hkw:(xy pos (xO kws env)).any (·.1.isNone)=vE) (he:vZ (e::rest) env=(vE,eval e env)::vZ rest env):
  vX M A (callWith pos (.type T) [] (xk pos (vZ (e::rest) env)) (xy pos (xO kws env))) Q E s:=by
 unfold callWith;refine vW (vz (vj (PyProof.Rows.evalArgs_kw2 (Q:=λa s₁=>vX M A (call (.type T) ([]++a.pos) a.kw) Q E s₁) hall h he) (λa s₁ h₁=>vW (wpAny_standAt ?_)) λ_ _ x=>x));simp only[hplain,hkw,Bool.or_false];refine vW (v4 ?_);exact vW (vj h₁ (λr s₂ hr=>vW (vz (wpAny_point (v4 hr)))) λ_ _ x=>x)
end
section
variable{X:Cx}{E:XK}
def ZHg(K:PySem.W.Frag)(ta tk:TA):TI:=λσ H R=>ta σ H λvs H1=>tk σ H1 λws H2=>∃sr xs n,vs=[.ref (Src.adr sr)]/\ws=[.int n]/\sr.sq K H2 xs/\R (Ite K sr n) H2
theorem ZN7{elts:List xQ}{x1}{tp:Pos}{a b:xQ}{ta tk:TA}{p pos kp:Pos}(hg:Gl X "enumerate")(hm:X.mg "enumerate"=vC)(ha:PA X [a] ta)(hk:PK X [⟨vB "start",b,kp⟩] tk)(hs:vZ [a] X.env=[(vE,eval a X.env)]:=by rfl):
  PI X (.Tuple elts x1 tp) (.Call (.Name "enumerate" p) [a] [⟨vB "start",b,kp⟩] pos) (ZHg X.K ta tk):=by
 intro vA s σ H R I h;refine vV (Ht I hg hm PyProof.Rows.boot_enumerate (ZOV rfl (thn (ha pos vA s σ H _ I h) λus s1 ⟨vs,H1,I1,r1,q1⟩=>thn (hk pos vA s1 σ H1 _ I1 q1) λus2 s2 ⟨ws,H2,I2,r2,q2⟩=>?_) (by rw[hs];rfl) rfl hs));obtain⟨sr,xs,n,e,e2,hq,q⟩:=q2;subst e;subst e2;cases r1 with
 |cons r rr=>
  cases rr;cases r;obtain⟨u,rfl,ru⟩:=r2.one;obtain⟨t,rfl⟩:=ru;obtain⟨its,rv,hv,hz⟩:=Src.sq.val I2 hq;refine ZKC hv λh' tk g hg he hi kp=>?_
  refine ZAp he ?_;have I3:Inv X vA σ H2 {s2 with heap:=h',toks:=tk}:=I2.kept (t':=tk) kp;refine⟨s2.heap.objs.size+1,[s2.heap.objs.size+1,s2.heap.objs.size],_,_,H2,rfl,I3,ZE9 sr n _ _ (Nat.succ_ne_self _),⟨g,.none,by simpa using he,by simpa using hg,hi⟩,λb hb=>?_,q⟩;have hb':b=s2.heap.objs.size+1∨b=s2.heap.objs.size:=by simpa using hb
  have hle:s2.heap.objs.size<=b:=by rcases hb' with rfl|rfl<;>lia
  exact I2.Im hle (I2.hok.fresh hle)
theorem ZNb{sr:Src}{n0:Int}(hk:a.K=X.K)(rd:∀b:Wd,Ext a b->∀G',Sim b G'->∀ys,Bk d G'=vB ys->∃us,sr.sq b.K b.H us/\Reps b ys us)(n:Nat):RepI a (.fn n (Dh n0 d)) (Ite X.K sr n0):=by
 intro b x G' s' i;have kb:b.K=X.K:=x.k.trans hk;constructor
 ·intro e he;unfold Dh at he;split at he
  ·cases he
  ·rename_i ys hy;obtain⟨us,hq,ru⟩:=rd b x G' s' ys hy;rw[kb]at hq;cases hyi:ys[i]? with
   |none=>rw[hyi]at he;cases he
   |some y=>
    rw[hyi]at he;have he':D.tup [.int (n0+i),y]=e:=by simpa using he
    subst he';obtain⟨u,hu,rx⟩:=ru.get hyi;refine⟨⟨us,u,hq,hu⟩,?_⟩;rintro w H' ⟨p,u',rfl,hp,rfl,hu'⟩;refine⟨b.put p (.tup [.int (n0+i),u']),rfl,Ext.put hp,s'.put hp,p,_,rfl,.of Eo,?_⟩;have e1:=hu' us hq;rw[hu]at e1;cases e1;exact⟨_,_,rfl,rfl,Reps.cons (rx.mono (Ext.put hp)) rfl⟩
 ·intro he;unfold Dh at he;split at he
  ·cases he
  ·rename_i ys hy;obtain⟨us,hq,ru⟩:=rd b x G' s' ys hy;rw[kb]at hq;cases hyi:ys[i]? with
   |none=>exact⟨us,hq,by rw[<-ru.length];exact qP.mp hyi⟩
   |some y=>rw[hyi]at he;cases he
def ZA5(ta:DA)(tb:DE):DI:=λS G=>(ta S G).bind λds G1=>(tb S G1).bind λk G2=>match ds,k with
 |[d],.int n=>match Bk d G2 with
  |some xs=>.ok (.fn xs.length (Dh n d)) G2
  |none=>.bad
 |_,_=>.bad
theorem ZNc{b:xQ}{nm:Option Str}{kp:Pos}{tb:DE}(hb:QE X E b tb):PK X [⟨nm,b,kp⟩] (Qn (lE X.K E tb) Pz):=ZHq hb ZIj
theorem ZH3{E:XK}{r:R D}{f:D->DH->R ItD}{Q:It->Hp->Prop}(h:outI E a (r.bind f) Q):
  out E a r (λv H=>∃(b:Wd)(d:D)(G:DH),b.H=H/\Ext a b/\Sim b G/\Rep b d v/\outI E b (f d G) Q):=by
 cases r with
 |ok d G=>exact λb v x s q=>⟨b,d,G,rfl,x,s,q,outI.mono x h⟩
 |err e G=>exact h
 |bad=>exact h
theorem ZJp{elts:List xQ}{x1}{tp:Pos}{b:xQ}{tb:DE}{p pos kp:Pos}(hg:Gl X "enumerate")(hm:X.mg "enumerate"=vC)(ha:QA X E [e] ta)(hb:QE X E b tb)(hs:vZ [e] X.env=[(vE,eval e X.env)]:=by rfl):
  QI X E (.Tuple elts x1 tp) (.Call (.Name "enumerate" p) [e] [⟨vB "start",b,kp⟩] pos) (ZA5 ta tb):=(ZN7 hg hm ha (ZNc hb) hs).mono λσ H Q h=>by
 obtain⟨a,S,G,hk,rfl,s,r,h⟩:=h;refine⟨a,S,G,hk,rfl,s,r,(Oq h).imp ?_⟩;rintro vs _ ⟨b,ds,G1,rfl,x,s1,q,-,h1⟩;refine⟨b,S,G1,x.k.trans hk,rfl,s1,r.mono x,(ZH3 h1).imp ?_⟩;rintro v _ ⟨c,k,G2,rfl,y,s2,q2,h2⟩;split at h2
 ·rename_i d n;split at h2
  ·rename_i xs hx;obtain⟨w,r,e1,q1,q3⟩:=q
   cases(show r=[]from q3)
   subst e1
   cases(show v=V.int n from q2)
   obtain⟨sr,rfl,⟨us,hq⟩,rd⟩:=ZAs s2 (q1.mono y) hx;have kb:c.K=X.K:=(y.k.trans x.k).trans hk;exact⟨sr,us,n,rfl,rfl,by rw[<-kb];exact hq,h2 c _ (Ext.refl c) s2 (ZNb kb rd _)⟩
  ·exact h2.elim
 ·exact h2.elim
end
end _D
namespace _D
open PySem PySem.Spec _L
variable{d:D}
def Ii(c f:Str)(d:D)(G:DH):R D:=match I8 c d G with
 |some fs=>match fs.lookup f with
  |some v=>.ok v G
  |none=>.bad
 |none=>.bad
def Nt(c f:Str)(o d:D)(S:DSt)(G:DH):SR:=match o with
 |.ref i=>match I8 c o G with
  |some fs=>if fs.length<1000 then .nx S (G.set i (.ins c (Fp f d fs)))else .bad
  |none=>.bad
 |_=>.bad
def Rz(c m:Str)(F:List D->DH->R D)(t:DA)(S:DSt)(o:D)(G:DH):R D:=match I8 c o G with
 |some fs=>match fs.lookup m with
  |none=>(t S G).bind λds G2=>F (o::ds) G2
  |some _=>.bad
 |none=>.bad
def ZAE(F:List D->DH->R D)(c:Str)(ds:List D)(G1:DH):R D:=(F (.ref G1.length::ds) (G1++[.ins c []])).bind λv G2=>match v with
 |.non=>.ok (.ref G1.length) G2
 |_=>.bad
section
variable{S:DSt}{G:DH}{c f m:Str}{t to tv:DE}{ta:DA}{F:List D->DH->R D}{i:Nat}{fs:List (Str×D)}{v d:D}
@[simp]theorem ev_fld:Dm c t f S G=(t S G).bind λd G1=>Ii c f d G1:=id rfl
@[simp]theorem Ks:Es c to tv f S G=(tv S G).toS λd G1=>(to S G1).toS λo G2=>Nt c f o d S G2:=id rfl
@[simp]theorem ZPM:Gw c m F to ta S G=(to S G).bind λo G1=>Rz c m F ta S o G1:=id rfl
@[simp]theorem ZP9:ZAZ c F ta S G=(ta S G).bind λds G1=>ZAE F c ds G1:=id rfl
theorem ZAv(h:G[i]?=vB (.ins c fs)):I8 c (.ref i) G=vB fs:=by unfold I8;simp only[h,if_true]
theorem M3(h:G[i]?=vB (.ins c fs))(h2:fs.lookup f=vB v):Ii c f (.ref i) G=.ok v G:=by unfold Ii;rw[ZAv h];simp only[h2]
theorem ZHb(h:G[i]?=vB (.ins c fs))(hl:fs.length<1000):Nt c f (.ref i) d S G=.nx S (G.set i (.ins c (Fp f d fs))):=by unfold Nt;simp only[ZAv h,hl,if_true]
theorem ZMO(h:G[i]?=vB (.ins c fs))(h2:fs.lookup m=vC):Rz c m F ta S (.ref i) G=(ta S G).bind λds G2=>F (.ref i::ds) G2:=by unfold Rz;rw[ZAv h];simp only[h2]
@[simp]theorem ev_LR:dLR ta S G=(ta S G).bind λds G1=>match ds with
 |[.int j]=>if inR j/\j<=1000000 then .ok (.ref G1.length) (G1++[.lst (Do 0 j.toNat)])else .bad
 |_=>.bad:=id rfl
@[simp]theorem ZOn{i j:Int}(hi:inR i)(hj:inR j):rng3 [.int i,.int j,.int (-1)] G=.ok (.pure (Iz i (i-j).toNat)) G:=by simp[rng3,hi,hj]
theorem ZKQ{lo:Int}:Iz lo 0=[]:=rfl
theorem ZKJ{lo:Int}{n:Nat}:Iz lo (n+1)=.int lo::Iz (lo-1) n:=by
 unfold Iz;rw[qO,zG,j0]
 congr 1
 ·simp
 ·refine qQ λk _=>?_
  simp only[Function.comp]
  congr 1
  lia
theorem ZMf{ns:List Int}{k:Int}(h:G9 d G=vB (ns.map D.int))(hm:k∈ns)(hl:ns.length<=1000000):N5 d [.int k] G=.ok (.int (ns.idxOf k)) G:=by unfold N5;simp only[h,ZEb,hm,hl,and_self,if_true]
theorem ZLl{G G':DH}(hl:G'.length=G.length)(hb:bel G.length d=vD):tidy G (.ok d G')=.ok d G':=by
 unfold tidy;simp only[hb,if_true];split
 ·rename_i h;rw[List.take_of_length_le (by lia)]at h;rw[h]
 ·rfl
theorem ZIm{G G':DH}(h:G'.take G.length≠G):tidy G (.ok d G')=.ok d G':=by unfold tidy;simp only[h,if_false]
end
end _D
namespace _D
open PySem PySem.Spec _L
open PyProof.Rows hiding St
def Z9(x:Str)(n:Int):Str:=if n<1 then Str.empty else if(n==1||x.length==0)=vD then x else⟨(zx n.toNat x.cps).foldl (·++·) #[]⟩
theorem ZDn{a:Array Nat}:∀(n:Nat)(b:Array Nat),((zx n a).foldl (·++·) b).toList=b.toList++(zx n a.toList).flatten
 |0,b=>by simp
 |n+1,b=>by rw[qW,List.foldl_cons,ZDn n (b++a),qW,qH];simp
theorem ZHl{a:Array Nat}(n:Nat):((zx n a).foldl (·++·) #[]).size=n*a.size:=by rw[<-qD,ZDn];simp
def Ep:D->D->DH->R D
 |.int i,.int j,G=>if MulB i j then .ok (.int (i*j)) G else .bad
 |.str x,.int n,G=>if -1000<=n/\n<=1000/\x.length<=1000 then .ok (.str (Z9 x n)) G else .bad
 |_,_,_=>.bad
section
variable{X:Cx}{E:XK}
theorem ZIR:OpR X (x9 .Mult) (λx y H Q=>∃i n,x=.str i/\y=.int n/\(-1000<=n/\n<=1000/\i.length<=1000)/\Q (.str (Z9 i n)) H):=by
 intro vA s σ H x y v u Q I rx ry h;obtain⟨i,n,rfl,rfl,⟨h1,h2,h3⟩,q⟩:=h;obtain⟨t,rfl⟩:=rx;obtain⟨t',rfl⟩:=ry;have hlen:∀m:Nat,m<=1000->i.length*m<=1000000:=λm hm=>zC (Nat.mul_le_mul h3 hm) (by decide)
 refine P.mul_str ?_ (λhn hx=>?_) (λhn hx=>?_) ?_
 ·rw[decide_eq_false (by lia),decide_eq_false (by lia)];rfl
 ·intro hgt;have hm:0<n:=by lia
  have:(i.length:Int)*n<=2^63-1:=by have h4:(i.length:Int)*n<=1000*1000:=Int.mul_le_mul (by lia) h2 (by lia) (by lia);lia
  have h5:=(Int.le_ediv_iff_mul_le hm).mpr this;lia
 ·have:=hlen n.toNat (by lia);unfold Builtin.Str.tooLong;rw[xU];exact decide_eq_false (by lia)
 ·unfold Z9 at q;split
  ·rename_i hn;rw[if_pos hn]at q;exact⟨by decide,.str Str.empty,H,I.tok _,⟨_,rfl⟩,q⟩
  ·rename_i hn;rw[if_neg hn]at q;split
   ·rename_i hx;rw[if_pos hx]at q;exact⟨.str i,H,I,⟨t,rfl⟩,q⟩
   ·rename_i hx;rw[if_neg hx]at q;refine⟨?_,.str _,H,I.tok _,⟨_,rfl⟩,q⟩
    show((zx n.toNat i.cps).foldl (·++·) #[]).size<=sizeLine
    have h6:i.cps.size<=1000:=h3;have h7:=Nat.mul_le_mul (show n.toNat<=1000 by lia) h6;rw[ZHl,xU];lia
theorem Jq:OpR X (x9 .Mult) (lR2 X.K E Ep):=G7 (ZHs.or ZIR) λa G d e x y Q hk s rd re q=>by
 cases d<;>cases e<;>first
  |exact q.elim
  | (
    rename_i i j;unfold Ep at q;dsimp only at q;split at q
    ·first
     |exact .inl ⟨_,_,rd,re,by assumption,q a _ (Ext.refl a) s rfl⟩
     |exact .inr ⟨_,_,rd,re,by assumption,q a _ (Ext.refl a) s rfl⟩
    ·exact q.elim)
end
section
variable{i j:Int}{G:DH}
theorem W9(h1: -(2^64)<i)(h2:i<2^64):Ep (.int i) (.int j) G=.ok (.int (i*j)) G:=if_pos (.inl (.inl ⟨h1,h2⟩))
theorem ZJL(h1: -(2^64)<j)(h2:j<2^64):Ep (.int i) (.int j) G=.ok (.int (i*j)) G:=if_pos (.inl (.inr ⟨h1,h2⟩))
@[simp]theorem ZPT{n:Nat}(h:n<18446744073709551616):Ep (.int (no_index (OfNat.ofNat n))) (.int j) G=.ok (.int (OfNat.ofNat n*j)) G:=
 W9 (by have:(0:Int)<=(OfNat.ofNat n:Int):=Int.natCast_nonneg n;lia) (by have:(OfNat.ofNat n:Int)<18446744073709551616:=Int.ofNat_lt.mpr h;lia)
@[simp]theorem ZQB{n:Nat}(h:n<18446744073709551616):Ep (.int i) (.int (no_index (OfNat.ofNat n))) G=.ok (.int (i*OfNat.ofNat n)) G:=
 ZJL (by have:(0:Int)<=(OfNat.ofNat n:Int):=Int.natCast_nonneg n;lia) (by have:(OfNat.ofNat n:Int)<18446744073709551616:=Int.ofNat_lt.mpr h;lia)
end
section
variable{X:Cx}{E:XK}{e st:xQ}{te:TE}{ts:TO}{p2 pos:Pos}
end
section
variable{S:DSt}{G:DH}
end
section
variable{X:Cx}{E:XK}
end
section
variable{S:DSt}{G:DH}
end
section
variable{X:Cx}{vA:List (jT×Obj)}{σ:St}{H:Hp}{s:xW}{N:List Str}{scope:xV}{caps:List Nat}{x qual:Str}{f:jT}{cd:xY}{A:jU}
end
section
variable{X:Cx}{vA:List (jT×Obj)}{σ:St}{s:xW}{scope:xV}{a:Wd}
end
noncomputable def ltK(ks:List Int)(i j:Nat):Bool:=decide (ks.getD i 0<ks.getD j 0)
section
variable{prog:xX}{w:xq}{A:jU}{E:xY->xW->Prop}{s:xW}
end
section
variable{X:Cx}{vA:List (jT×Obj)}{σ:St}{H:Hp}{s:xW}{h':Heap}{m:Str->Option xY}
end
section
variable{X:Cx}{vA:List (jT×Obj)}{σ:St}{N:List Str}{scope:xV}{caps:List Nat}{x:Str}{f:jT}{A:jU}{a:Wd}{S:DSt}{body:xQ}{te:DE}{params:Arguments}{pm ctv:xY}{c':jT}{ob oc:Obj}{vs0:Array xY}{t0:Tok}{E:XK}
 {Dd kS:jT} {e1:Nat} {m:Str->Option xY} {h₀:Heap} {Q:VK}
end
end _D
namespace _D
open PySem PySem.Spec _L
open PyProof.Rows hiding St
open PySem.W (KatKeys KatFin katRev KatBack)
section
variable{prog:xX}{w:xq}{A:jU}{E:xY->xW->Prop}{s:xW}{h₀:Heap}{L a kS:jT}{m:Str->Option xY}{P:PySem.Fin->xW->Prop}
end
end _D
namespace _D
open PySem PySem.Spec _L
open PyProof.Rows hiding St
section
variable{X:Cx}{vA:List (jT×Obj)}{σ:St}{N:List Str}{scope:xV}{caps:List Nat}{x:Str}{f:jT}{A:jU}{a:Wd}{S:DSt}{body:xQ}{te:DE}{params:Arguments}{pm ctv:xY}{c':jT}{ob oc:Obj}{vs0:Array xY}{t0:Tok}
 {Dd kS:jT} {e1:Nat} {m:Str->Option xY} {h₀:Heap} {Q:VK}
end
section
variable{X:Cx}{vA:List (jT×Obj)}{σ:St}{N:List Str}{scope:xV}{caps:List Nat}{x:Str}{f:jT}{A:jU}{a:Wd}{S:DSt}{body:xQ}{te:DE}{params:Arguments}{pm ctv:xY}{c':jT}{ob oc:Obj}{vs0:Array xY}{t0:Tok}{Q:VK}
end
section
variable{X:Cx}{N:List Str}{scope:xV}{caps:List Nat}{x:Str}{body:xQ}{te:DE}{params:Arguments}{e:xQ}{tn:DA}{p p' pos pos' lp kp kp' cp:Pos}{C m:Str}{cj:Nat}
end
end _D
namespace _D
open PySem PySem.W _L
variable{h:Heap}{K:v7}{C:jT}{m x q:Str}{st:xK}
noncomputable def Lp:List Obj->Nat->v7
 |[],_=>[]
 |o::r,n=>match o.cls,o.data with
  |.none,.fields _=>Lp r (n+1)
  |_,.freed=>Lp r (n+1)
  |_,_=>(n,o)::Lp r (n+1)
def Oh(h:Heap):v7:=Lp h.objs.toList 0
theorem ZBs{a:jT}{o:Obj}:∀{l:List Obj}{n:Nat},(Lp l n).lookup a=vB o->n<=a/\l[a-n]?=vB o/\∀x y z,o≠⟨x,y,.freed,z⟩
 |[],n,h=>by cases h
 | p::r,n,h=>by
  have next:(Lp r (n+1)).lookup a=vB o->n<=a/\(p::r)[a-n]?=vB o/\∀x y z,o≠⟨x,y,.freed,z⟩:=λh=>by obtain⟨h1,h2,h3⟩:=ZBs h;obtain⟨k,rfl⟩:=Nat.exists_eq_add_of_le h1;rw[Nat.add_sub_cancel_left]at h2;refine⟨zC (jX n) h1,?_,h3⟩;rw[show n+1+k-n=k+1 by rw[Nat.add_assoc,Nat.add_sub_cancel_left,Nat.add_comm],jq];exact h2
  unfold Lp at h;split at h
  ·exact next h
  ·exact next h
  ·rename_i hz hf;rw[jJ]at h;split at h
   ·rename_i e;have e':a=n:=by simpa using e
    subst e';cases h;refine⟨zW _,by simp,λx y z q=>?_⟩;subst q;exact hz rfl
   ·exact next h
theorem ZIv(h:Heap):(Oh h).In h:=λa o e=>by
 obtain⟨_,h2,h3⟩:=ZBs e;have h4:h.objs[a]?=vB o:=by simpa using h2
 unfold Heap.get?;rw[h4];split
 ·rename_i q;cases q;exact absurd rfl (h3 _ _ _)
 ·rfl
noncomputable def J0(p:xX)(N:Nat)(w:xq):Heap:=match openEnds vJ p w N with
 |some s=>s.heap
 |none=>default
def Stays(p:xX)(N:Nat)(w:xq)(h:Heap):Prop:=∀b o,(J0 p N w).get? b=vB o->h.get? b=vB o
theorem Stays.in{p:xX}{N:Nat}{w:xq}(x:Stays p N w h):(Oh (J0 p N w)).In h:=λa o e=>x a o (ZIv _ a o e)
def W6(p:xX)(N:Nat):Hook:=
 ⟨Heap,λs=>s.heap,J0 p N,Stays p N,λw s e b o q=>by rw[show s.heap=J0 p N w from e];exact q,λw h h' x k b o q=>k b o (x b o q)⟩
section
variable{p q:xX}{loose:List Str}{Xt:xW->Bool}{N:Nat}{β:Type}{see:Heap->β}{val:β}
theorem ZNG(E:∀w,(openEnds vJ p w N).map (λs=>(openSeen q loose (xF p.main.body) Xt vD s,see s.heap))=vB (openGood q loose,val)):
  LeftO p q loose Xt (W6 p N).obs (W6 p N).val N:=λw=>by
 obtain⟨s,h1,h2⟩:=zN.mp (E w);show Option.map _ _=vB (openGood q loose,J0 p N w);unfold J0;rw[h1];show vB (openSeen q loose (xF p.main.body) Xt vD s,s.heap)=_;rw[(Prod.mk.inj h2).1]
theorem ZJk(E:∀w,(openEnds vJ p w N).map (λs=>(openSeen q loose (xF p.main.body) Xt vD s,see s.heap))=vB (openGood q loose,val))(w:xq):see (J0 p N w)=val:=by obtain⟨s,h1,h2⟩:=zN.mp (E w);unfold J0;rw[h1];exact(Prod.mk.inj h2).2
end
noncomputable def dOf(s:xK):DefRec:=match s with
 |Stmt.FunctionDef n a b _ _ _ s _ _ p=>⟨n,a,b,s,p⟩
 |_=>⟨Str.empty,⟨[],[],vC,[],[],vC,[]⟩,[],{kind:=.module,names:=[],isGenerator:=vE,isCoroutine:=vE,more:=[]},⟨0,0,0,0⟩⟩
noncomputable abbrev XtOf(l:OpenLaw)(q:xX)(s:xW):Bool:=xlAt q [] s&&recOk l.row.toRowW.records s
theorem holds_top{l:OpenLaw}{q:xX}{loose:List Str}{N:Nat}{β:Type}{see:Heap->β}{val:β}{d:DefRec}(well:l.wellSaid=vD)
  (E:∀w,(openEnds vJ l.prog w N).map (λs=>(openSeen q loose (xF l.prog.main.body) (XtOf l q) vD s,see s.heap))=vB (openGood q loose,val))
  (hdef:defOf q l.row.name=vB (d,[])) (hp:l.row.prog.theDef l.row.name=vB (d.params,d.body,d.scope)) (hk:kwWritten? d.params.kwonlyargs d.params.kw_defaults=vB []) (hwr:(!l.row.writes||l.row.records.isEmpty)=vD)
  (ok:(chainsOk q&&opensWell l.row.prog&&(frees l.row.toRowW&&l.row.within.isEmpty))=vD) (hb:l.row.prog.bare) (hw:l.row.toRowW.promised)
  (call:WalkO q loose (XL q []) (Stays l.prog N) l.row.toRowW d [] λf vs=>PySem.call f vs):l.Holds:=
 holds_law well λsaid=>holds_open (r:=l.row) (q:=q) (loose:=loose) (Xt:=XtOf l q) (XP:=XL q []) (YP:=Stays l.prog N) (N:=N) (ZNG E) (W6 l.prog N).of (W6 l.prog N).keeps
  (λs e=>xl_of s (qT.mp e).1) XL.keeps hdef hp hk (λs e=>recFacts_of (qT.mp e).2) hwr said ok hb hw call
noncomputable def Af(K:v7)(n:Str):jT:=match nsIn K xR n with
 |some (vB (.ref f))=>f
 |_=>0
noncomputable def gOk(K:v7)(n:Str):Bool:=match nsIn K xR n with
 |some (vB (.ref _))=>vD
 |_=>vE
theorem Kl{n:Str}(h:gOk K n=vD):nsIn K xR n=vB (vB (.ref (Af K n))):=by
 unfold gOk at h;unfold Af;split at h
 ·rename_i e;rw[e]
 ·cases h
noncomputable def De(K:v7)(C:jT)(m:Str):jT:=match findIn K (.ref C) m with
 |some (vB (.ref f))=>f
 |_=>0
noncomputable def mOk(K:v7)(C:jT)(m:Str):Bool:=match findIn K (.ref C) m with
 |some (vB (.ref f))=>isFn K (.ref f)
 |_=>vE
theorem ZGQ(h:mOk K C m=vD):findIn K (.ref C) m=vB (vB (.ref (De K C m)))/\isFn K (.ref (De K C m))=vD:=by
 unfold mOk at h;unfold De;split at h
 ·rename_i e;rw[e];exact⟨rfl,h⟩
 ·cases h
noncomputable def noF(K:v7)(C:jT)(m:Str):Bool:=match findIn K (.ref C) m with
 |some vC=>vD
 |_=>vE
theorem ZCk(h:noF K C m=vD):findIn K (.ref C) m=vB vC:=by
 unfold noF at h;split at h
 ·assumption
 ·cases h
noncomputable def zOk(K:v7)(n:Str):Bool:=match nsIn K xR n with
 |some vC=>vD
 |_=>vE
theorem ZKS{n:Str}(h:zOk K n=vD):nsIn K xR n=vB vC:=by
 unfold zOk at h;split at h
 ·assumption
 ·cases h
noncomputable def Rt(K:v7)(C:jT):Bool:=match findIn K (.ref C) "__setattr__" with
 |some (vB (.builtin s))=>s == "object.__setattr__"
 |_=>vE
theorem ZEc(h:Rt K C=vD):findIn K (.ref C) "__setattr__"=vB (vB (.builtin "object.__setattr__")):=by
 unfold Rt at h;split at h
 ·rename_i e;rw[e,beq_iff_eq.mp h]
 ·cases h
noncomputable def iOk(K:v7)(n:Str)(v:Int):Bool:=match nsIn K xR n with
 |some (vB (.int u _))=>decide (u=v)
 |_=>vE
noncomputable def sOk(K:v7)(n:Str)(v:Str):Bool:=match nsIn K xR n with
 |some (vB (.str u _))=>decide (u=v)
 |_=>vE
noncomputable def Cr(K:v7)(n:Str):Tok:=match nsIn K xR n with
 |some (vB (.int _ t))=>t
 |some (vB (.str _ t))=>t
 |_=>0
theorem ZHu{n:Str}{v:Int}(h:iOk K n v=vD):nsIn K xR n=vB (vB (.int v (Cr K n))):=by
 unfold iOk at h;unfold Cr;split at h
 ·rename_i e;rw[e,of_decide_eq_true h]
 ·cases h
theorem ZNo{n:Str}{v:Str}(h:sOk K n v=vD):nsIn K xR n=vB (vB (.str v (Cr K n))):=by
 unfold sOk at h;unfold Cr;split at h
 ·rename_i e;rw[e,of_decide_eq_true h]
 ·cases h
noncomputable def Gg(K:v7)(f:jT):Obj:=match K.lookup f with
 |some o=>o
 |none=>⟨.none,vC,.plain,#[]⟩
def Ax(K:v7)(f:jT):xZ:=match(Gg K f).data with
 |.func fd=>fd
 |_=>default
noncomputable def ZKT:xY->Bool
 |.none=>vD
 |_=>vE
noncomputable def ZHc:FuncBody->Option (List xK)
 |.stmts b=>vB b
 |_=>vC
def Rq(K:v7)(x q:Str)(f:jT):Bool:=match K.lookup f with
 |some ⟨_,_,.func fd,_⟩=>decide (fd.name=x)&&decide (fd.qualname=q)&&(fd.globals==xR&&fd.builtins==builtinsNs&&fd.closure.isEmpty&&ZKT fd.defaults)&&(codeIn K fd.code q&&keepIn K (.ref f))
 |_=>vE
noncomputable abbrev DefTxt:=Arguments×Option (List xK)×xV
def Kp(K:v7)(f:jT):DefTxt:=((Ax K f).params,ZHc (Ax K f).body,(Ax K f).scope)
def Le(st:xK):DefTxt:=(Fg st,vB (Dg st),Aq st)
abbrev FnSaid(K:v7)(x q:Str)(st:xK)(f:jT):Prop:=
 K.lookup f=vB ⟨(Gg K f).cls,(Gg K f).dict,.func (fnOf x q (Fg st) (Dg st) (Aq st) .none (Ax K f).kwdefaults (Ax K f).doc (Ax K f).pyModule (Ax K f).annotations (Ax K f).code (Ax K f).closureTuple),(Gg K f).slots⟩/\
  codeIn K (Ax K f).code q=vD/\keepIn K (.ref f)=vD
theorem ZFx{f:jT}(h:Rq K x q f=vD)(t:Kp K f=Le st):FnSaid K x q st f:=by
 unfold Rq at h;split at h
 ·rename_i oc od fd sl e;have eo:Gg K f=⟨oc,od,.func fd,sl⟩:=by unfold Gg;rw[e]
  have ef:Ax K f=fd:=by unfold Ax;rw[eo]
  unfold Kp Le at t;rw[ef]at t;obtain⟨t1,t2⟩:=Prod.mk.inj t;obtain⟨t2,t3⟩:=Prod.mk.inj t2;simp only[zB,decide_eq_true_eq,beq_iff_eq,List.isEmpty_iff]at h;obtain⟨⟨⟨h1,h2⟩,⟨⟨h3,h4⟩,h5⟩,h6⟩,h7,h8⟩:=h;unfold FnSaid;rw[ef,eo,e];refine⟨?_,h7,h8⟩;have h6':fd.defaults=.none:=by
   revert h6
   generalize fd.defaults=df;intro h6
   cases df<;>first|rfl|cases h6
  have h9:fd.body=.stmts (Dg st):=by
   revert t2
   generalize fd.body=bd;intro t2
   cases bd<;>first|(cases t2;rfl)|(cases t2)
  have ef':fd=fnOf x q (Fg st) (Dg st) (Aq st) .none fd.kwdefaults fd.doc fd.pyModule fd.annotations fd.code fd.closureTuple:=by show FuncData.mk fd.name fd.qualname fd.params fd.body fd.scope fd.globals fd.closure fd.defaults fd.kwdefaults fd.doc fd.pyModule fd.annotations fd.code fd.closureTuple fd.builtins=_;rw[h1,h2,t1,h9,t3,h3,h5,h6',h4]
  exact congrArg (λz=>vB (Obj.mk oc od (.func z) sl)) ef'
 ·cases h
noncomputable def dfl(K:v7)(d:xY)(v:Int):Bool:=match d with
 | .ref T=>match K.lookup T with
  | some o=>(match o.data with
   |.seq a _=>(match a.toList with
    |[.int i _]=>decide (i=v)
    |_=>vE)
   |_=>vE)
  |none=>vE
 |_=>vE
abbrev DfSaid(K:v7)(d:xY)(v:Int):Prop:=∃T o t n,d=.ref T/\K.lookup T=vB o/\o.data=.seq #[.int v t] n
theorem ZLW{d:xY}{v:Int}(h:dfl K d v=vD):DfSaid K d v:=by
 unfold dfl at h;split at h
 ·rename_i T;split at h
  ·rename_i o e;split at h
   ·rename_i a n e2;split at h
    ·rename_i i t e3;cases of_decide_eq_true h;refine⟨T,o,t,n,rfl,e,?_⟩;rw[e2]
     congr 1
     rw[<-Array.toList_inj,e3]
    ·cases h
   ·cases h
  ·cases h
 ·cases h
def Z7(K:v7)(x q:Str)(f:jT)(v:Int):Bool:=match K.lookup f with
 |some ⟨_,_,.func fd,_⟩=>decide (fd.name=x)&&decide (fd.qualname=q)&&(fd.globals==xR&&fd.builtins==builtinsNs&&fd.closure.isEmpty&&dfl K fd.defaults v)&&(codeIn K fd.code q&&keepIn K (.ref f))
 |_=>vE
abbrev FnSaidD(K:v7)(x q:Str)(st:xK)(f:jT)(v:Int):Prop:=
 K.lookup f=vB ⟨(Gg K f).cls,(Gg K f).dict,.func (fnOf x q (Fg st) (Dg st) (Aq st) (Ax K f).defaults (Ax K f).kwdefaults (Ax K f).doc (Ax K f).pyModule (Ax K f).annotations (Ax K f).code (Ax K f).closureTuple),(Gg K f).slots⟩/\
  codeIn K (Ax K f).code q=vD/\keepIn K (.ref f)=vD/\DfSaid K (Ax K f).defaults v
theorem ZK4{f:jT}{v:Int}(h:Z7 K x q f v=vD)(t:Kp K f=Le st):FnSaidD K x q st f v:=by
 unfold Z7 at h;split at h
 ·rename_i oc od fd sl e;have eo:Gg K f=⟨oc,od,.func fd,sl⟩:=by unfold Gg;rw[e]
  have ef:Ax K f=fd:=by unfold Ax;rw[eo]
  unfold Kp Le at t;rw[ef]at t;obtain⟨t1,t2⟩:=Prod.mk.inj t;obtain⟨t2,t3⟩:=Prod.mk.inj t2;simp only[zB,decide_eq_true_eq,beq_iff_eq,List.isEmpty_iff]at h;obtain⟨⟨⟨h1,h2⟩,⟨⟨h3,h4⟩,h5⟩,h6⟩,h7,h8⟩:=h;unfold FnSaidD;rw[ef,eo,e];refine⟨?_,h7,h8,ZLW h6⟩;have h9:fd.body=.stmts (Dg st):=by
   revert t2
   generalize fd.body=bd;intro t2
   cases bd<;>first|(cases t2;rfl)|(cases t2)
  have ef':fd=fnOf x q (Fg st) (Dg st) (Aq st) fd.defaults fd.kwdefaults fd.doc fd.pyModule fd.annotations fd.code fd.closureTuple:=by show FuncData.mk fd.name fd.qualname fd.params fd.body fd.scope fd.globals fd.closure fd.defaults fd.kwdefaults fd.doc fd.pyModule fd.annotations fd.code fd.closureTuple fd.builtins=_;rw[h1,h2,t1,h9,t3,h3,h5,h4]
  exact congrArg (λz=>vB (Obj.mk oc od (.func z) sl)) ef'
 ·cases h
noncomputable def strsOf:List xY->Option (List Str)
 |[]=>vB []
 |.str s _::r=>(strsOf r).map (s::·)
 |_::_=>vC
theorem Wc:∀{l:List xY}{ss:List Str},strsOf l=vB ss->Vals (ss.map V.str) l
 |[],ss,h=>by cases h;exact .nil
 |v::r,ss,h=>by
  unfold strsOf at h;split at h
  ·rename_i q;cases q
  ·rename_i s t r' q;cases q;obtain⟨ss',h1,rfl⟩:=zN.mp h;exact .cons ⟨_,rfl⟩ (Wc h1)
  ·cases h
def ZAM(K:v7)(n:Str)(vs:List Str):Bool:=match nsIn K xR n with
 | some (vB (.ref p))=>(match K.lookup p with
   |some ⟨.type t,_,.seq its _,_⟩=>t == "tuple"&&decide (strsOf its.toList=vB vs)&&Nat.ble its.toList.length 1000
   |_=>vE)
 |_=>vE
abbrev GtSaid(K:v7)(n:Str)(vs:List Str):Prop:=∃(p:jT)(od:Option jT)(sl:Array (Option xY))(k:Nat)(its:List xY),nsIn K xR n=vB (vB (.ref p))/\K.lookup p=vB ⟨.type "tuple",od,.seq its.toArray k,sl⟩/\its.length<=1000/\Vals (vs.map V.str) its
theorem ZIr{n:Str}{vs:List Str}(h:ZAM K n vs=vD):GtSaid K n vs:=by
 unfold ZAM at h;split at h
 ·rename_i p e;split at h
  ·rename_i t od its k sl e2;simp only[zB,beq_iff_eq,decide_eq_true_eq]at h;obtain⟨⟨rfl,h2⟩,h3⟩:=h;exact⟨p,od,sl,k,its.toList,e,by rw[e2],jV h3,Wc h2⟩
  ·cases h
 ·cases h
def ZAO(K:v7)(n:Str)(kvs:List (Str×Str)):Bool:=match nsIn K xR n with
 | some (vB (.ref p))=>(match K.lookup p with
   |some ⟨.type t,_,.dict es _,_⟩=>t == "dict" && !(p==sysModules)&&decide (strsOf (es.toList.map (·.key))=vB (kvs.map (·.1)))&&decide (strsOf (es.toList.map (·.val))=vB (kvs.map (·.2)))
   |_=>vE)
 |_=>vE
abbrev GdSaid(K:v7)(n:Str)(kvs:List (Str×Str)):Prop:=∃(p:jT)(od:Option jT)(sl:Array (Option xY))(k:Nat)(es:Array DictEntry),nsIn K xR n=vB (vB (.ref p))/\K.lookup p=vB ⟨.type "dict",od,.dict es k,sl⟩/\(p==sysModules)=vE/\Vals ((kvs.map (·.1)).map V.str) (es.toList.map (·.key))/\Vals ((kvs.map (·.2)).map V.str) (es.toList.map (·.val))
theorem ZJu{n:Str}{kvs:List (Str×Str)}(h:ZAO K n kvs=vD):GdSaid K n kvs:=by
 unfold ZAO at h;split at h
 ·rename_i p e;split at h
  ·rename_i t od es k sl e2;simp only[zB,beq_iff_eq,decide_eq_true_eq,Bool.not_eq_true']at h;obtain⟨⟨⟨rfl,h2⟩,h3⟩,h4⟩:=h;exact⟨p,od,sl,k,es,e,by rw[e2],h2,Wc h3,Wc h4⟩
  ·cases h
 ·cases h
inductive Ask where
 |fn (n:Str) (st:xK)
 |mt (c m q:Str) (st:xK)
 |cl (c:Str)
 |no (c x:Str)
 |z (n:Str)
 |gi (n:Str) (v:Int)
 |gs (n v:Str)
 |gt (n:Str) (vs:List Str)
 |gd (n:Str) (kvs:List (Str×Str))
 |ck (φ:v7->Bool)
 |fd (n:Str) (st:xK) (v:Int)
def Ask.chk(K:v7):Ask->Bool
 |.fn n _=>gOk K n&&Rq K n n (Af K n)
 |.mt c m q _=>mOk K (Af K c) m&&Rq K m q (De K (Af K c) m)
 |.cl c=>gOk K c&&(plainGet K (Af K c) Str.empty&&hasDictIn K (Af K c)&&plainOver K (Af K c))&&(Rt K (Af K c)&&makesIn K (Af K c)&&keepIn K (.ref (Af K c)))
 |.no c x=>noF K (Af K c) x
 |.z n=>zOk K n
 |.gi n v=>iOk K n v
 |.gs n v=>sOk K n v
 |.gt n vs=>ZAM K n vs
 |.gd n kvs=>ZAO K n kvs
 |.ck φ=>φ K
 |.fd n _ v=>gOk K n&&Z7 K n n (Af K n) v
def Ask.txt(K:v7):Ask->Option DefTxt
 |.fn n _=>vB (Kp K (Af K n))
 |.mt c m _ _=>vB (Kp K (De K (Af K c) m))
 |.fd n _ _=>vB (Kp K (Af K n))
 |_=>vC
def Ask.want:Ask->Option DefTxt
 |.fn _ st=>vB (Le st)
 |.mt _ _ _ st=>vB (Le st)
 |.fd _ st _=>vB (Le st)
 |_=>vC
def Ask.Said(K:v7):Ask->Prop
 |.fn n st=>nsIn K xR n=vB (vB (.ref (Af K n)))/\FnSaid K n n st (Af K n)
 |.mt c m q st=>findIn K (.ref (Af K c)) m=vB (vB (.ref (De K (Af K c) m)))/\isFn K (.ref (De K (Af K c) m))=vD/\FnSaid K m q st (De K (Af K c) m)
 | .cl c=>nsIn K xR c=vB (vB (.ref (Af K c)))/\plainGet K (Af K c) Str.empty=vD/\hasDictIn K (Af K c)=vD/\plainOver K (Af K c)=vD/\
   findIn K (.ref (Af K c)) "__setattr__"=vB (vB (.builtin "object.__setattr__"))/\makesIn K (Af K c)=vD/\keepIn K (.ref (Af K c))=vD
 |.no c x=>findIn K (.ref (Af K c)) x=vB vC
 |.z n=>nsIn K xR n=vB vC
 |.gi n v=>nsIn K xR n=vB (vB (.int v (Cr K n)))
 |.gs n v=>nsIn K xR n=vB (vB (.str v (Cr K n)))
 |.gt n vs=>GtSaid K n vs
 |.gd n kvs=>GdSaid K n kvs
 |.ck φ=>φ K=vD
 |.fd n st v=>nsIn K xR n=vB (vB (.ref (Af K n)))/\FnSaidD K n n st (Af K n) v
theorem Ask.said:∀{a:Ask},a.chk K=vD->a.txt K=a.want->a.Said K
 |.fn n st,h,t=>by obtain⟨h1,h2⟩:=qT.mp h;exact⟨Kl h1,ZFx h2 (Option.some.inj t)⟩
 |.mt c m q st,h,t=>by obtain⟨h1,h2⟩:=qT.mp h;exact⟨(ZGQ h1).1,(ZGQ h1).2,ZFx h2 (Option.some.inj t)⟩
 |.cl c,h,_=>by simp only[Ask.chk,zB]at h;obtain⟨⟨h1,⟨h2,h3⟩,h4⟩,⟨h5,h6⟩,h7⟩:=h;exact⟨Kl h1,h2,h3,h4,ZEc h5,h6,h7⟩
 |.no c x,h,_=>ZCk h
 |.z n,h,_=>ZKS h
 |.gi n v,h,_=>ZHu h
 |.gs n v,h,_=>ZNo h
 |.gt n vs,h,_=>ZIr h
 |.gd n kvs,h,_=>ZJu h
 |.ck _,h,_=>h
 |.fd n st v,h,t=>by obtain⟨h1,h2⟩:=qT.mp h;exact⟨Kl h1,ZK4 h2 (Option.some.inj t)⟩
def AllSaid(K:v7):List Ask->Prop
 |[]=>True
 |a::r=>a.Said K/\AllSaid K r
theorem ZCt:∀{l:List Ask},(l.all (Ask.chk K),l.map (Ask.txt K))=(vD,l.map Ask.want)->AllSaid K l
 |[],_=>trivial
 |a::r,h=>by obtain⟨h1,h2⟩:=Prod.mk.inj h;rw[j2]at h1;obtain⟨h3,h4⟩:=qT.mp h1;rw[zG,zG]at h2;obtain⟨h5,h6⟩:=List.cons.inj h2;exact⟨Ask.said h3 h5,ZCt (by rw[h4,h6])⟩
def Yk(l:List Ask)(h:Heap):Bool×List (Option DefTxt):=(l.all (Ask.chk (Oh h)),l.map (Ask.txt (Oh h)))
noncomputable abbrev Ze(l:List Ask):Bool×List (Option DefTxt):=(vD,l.map Ask.want)
theorem ZN9{a:Str}{f:jT}{fd:xZ}{s:xW}{v:xY}(F:Fun K x q st f fd)
  (h:∀(kV doc pm:xY)(an:Option jT)(cdv ct:xY)(u:xY),bindArgs (fnOf x q (Fg st) (Dg st) (Aq st) .none kV doc pm an cdv ct) ⟨[u],[]⟩=pure [(a,u)]):BindsTo s fd ⟨[v],[]⟩ [(a,v)]:=by
 obtain⟨oc,od,kV,doc,pm,an,cdv,ct,osl,rfl,lk,hcd⟩:=F.ex;exact .of_eq (h kV doc pm an cdv ct v)
noncomputable def Ur(p:xX)(w:xq)(n₀:Nat)(ann:Option xY):Nat->SharedT->Thread->Option SharedT
 |0,_,_=>vC
 | n+1,s,t=>match through t with
  |true=>vB s
  | false=>match PySem.W.Fast.tw6613529449190102663 n₀ ann t with
   |false=>vC
   |true=>match PySem.W.Fast.tw10156331382660048174 (PySem.W.Fast.tw11892475500146522536 PySem.W.Fast.tw14364793385576792824) p w s t with
    |some (s',t')=>Ur p w n₀ ann n s' t'
    |none=>vC
theorem ZEd{p:xX}{w:xq}{n₀:Nat}{ann:Option xY}:∀{n:Nat}{s s':SharedT}{t:Thread},Ur p w n₀ ann n s t=vB s'->topRun vJ p w n₀ ann n s.abs t=vB s'.abs
 |0,_,_,_,h=>by cases h
 | n+1,s,s',t,h=>by
  unfold Ur at h;unfold topRun;rw[<-PySem.W.Fast.te6613529449190102663,<-PySem.W.Fast.te10156331382660048174,<-PySem.W.Fast.te11892475500146522536,<-PySem.W.Fast.te14364793385576792824]at h;cases ht:through t with
  |true=>
   rw[ht]at h;cases h
   rfl
  | false=>
   rw[ht]at h;dsimp only at h⊢;cases ho:stepOk n₀ ann t with
   |false=>rw[ho]at h;cases h
   |true=>
    rw[ho]at h;dsimp only at h⊢;split at h
    ·rename_i s2 t2 e;rw[stepT_spec e];exact ZEd h
    ·cases h
noncomputable def ZEp:List Obj->Nat->BT->BT
 |[],_,t=>t
 |o::r,n,t=>ZEp r (n+1) (t.ins n o)
def ZEM(w:xq)(os:OsState):SharedT:=⟨ZEp (v8 w.params).objs.toList 0 .nil,(v8 w.params).objs.size,(v8 w.params).life,Array.mk [],boot_drawn,boot_toks,os⟩
theorem boot_abs:∀w os,(ZEM w os).abs=⟨v8 w.params,Array.mk [],boot_drawn,boot_toks,os⟩:=λw os=>by kernel_rfl
theorem ZKZ:∀w:xq,((v8 w.params).isNs xR&&(Array.mk []:Array GenState).size==0)=vD:=λw=>by kernel_rfl
def ZAD(p:xX)(w:xq)(os:OsState):Option SharedT:=Ur p w (v8 w.params).objs.size (PySem.W.Fast.tw8920871248978507458 (v8 w.params) xR "__annotations__") 100000 (ZEM w os) (topStub p)
noncomputable def ZAN(p:xX)(w:xq)(s:xW):Bool:=staticsOk (PySem.W.Fast.tw5923862056798008813 p.main.body) (v8 w.params) s.heap&&namesBound p s.heap&&gensDone s&&laidKept (v8 w.params) s.heap
theorem ZIn{p q:xX}{loose:List Str}{Xt:xW->Bool}{β:Type}{see:Heap->β}{val:β}(e:opening p=plainProg p.main.scope.names)(f:∀s,fenceModules? p s=vB s)
  (R:∀w os,(ZAD p w os).map (λs=>(ZAN p w s.abs,PySem.W.Fast.tw4187177175401517315 q loose (PySem.W.Fast.tw5923862056798008813 p.main.body) Xt vD s.abs,see s.abs.heap))=vB (vD,openGood q loose,val)):
  ∀w,(openEnds vJ p w 100000).map (λs=>(openSeen q loose (xF p.main.body) Xt vD s,see s.heap))=vB (openGood q loose,val):=λw=>by
 obtain⟨⟨h,gs,d,k,os⟩,h0,e0⟩:=zN.mp (boot_open (N:=100000) e rfl f w);obtain⟨rfl,rfl,rfl,rfl⟩:h=v8 w.params/\gs=Array.mk []/\d=boot_drawn/\k=boot_toks:=by simpa using e0
 obtain⟨s,h1,h2⟩:=zN.mp (R w os);obtain⟨h3,h4⟩:=Prod.mk.inj h2;obtain⟨h4,h5⟩:=Prod.mk.inj h4;unfold ZAD at h1;have r:=ZEd h1;rw[boot_abs,<-PySem.W.Fast.te8920871248978507458]at r;rw[<-PySem.W.Fast.te4187177175401517315,<-PySem.W.Fast.te5923862056798008813]at h4;unfold ZAN at h3;rw[<-PySem.W.Fast.te5923862056798008813]at h3;have t:topFrom vJ p w 100000 ⟨v8 w.params,Array.mk [],boot_drawn,boot_toks,os⟩=vB s.abs:=by
  unfold topFrom;dsimp only;rw[ZKZ,r]
  show(match staticsOk (xF p.main.body) (v8 w.params) s.abs.heap&&namesBound p s.abs.heap&&gensDone s.abs&&laidKept (v8 w.params) s.abs.heap with |true=>_|false=>_)=_
  rw[h3]
 unfold openEnds;rw[h0];show(topFrom vJ p w 100000 _).map _=_;rw[t];exact congrArg vB (Prod.ext h4 h5)
theorem ZLX{l:OpenLaw}(h:PySem.W.Fast.tw9446332074065402090 l=vD):l.wellSaid=vD:=by rw[PySem.W.Fast.te9446332074065402090];exact h
structure FT (K:v7) (mg:Str->Option xY) (n:Str) (st:xK) (ps:List Str):Prop where
 F:Fun K n n st (Af K n) (Ax K (Af K n))
 b:Binds K (Ax K (Af K n)) ps []
 m:mg n=vB (.ref (Af K n))
 k:keepIn K (.ref (Af K n))=vD
structure MT (K:v7) (c m q:Str) (st:xK) (ps:List Str):Prop where
 F:Fun K m q st (De K (Af K c) m) (Ax K (De K (Af K c) m))
 b:Binds K (Ax K (De K (Af K c) m)) ps []
 me:Meth K (Af K c) m (De K (Af K c) m)
structure CT (K:v7) (mg:Str->Option xY) (c:Str):Prop where
 N:nsIn K xR c=vB (vB (.ref (Af K c)))
 cl:Cls K (Af K c)
 g:mg c=vB (.ref (Af K c))
 mK:Mk K (Af K c) (De K (Af K c) "__init__")
theorem R9{f:jT}(s:FnSaid K x q st f):Fun K x q st f (Ax K f):=by
 have e:Ax K f=fnOf x q (Fg st) (Dg st) (Aq st) .none (Ax K f).kwdefaults (Ax K f).doc (Ax K f).pyModule (Ax K f).annotations (Ax K f).code (Ax K f).closureTuple:=by
  have h:=s.1
  conv=>lhs;unfold Ax Gg;rw[h]
 exact⟨⟨_,_,_,_,_,_,_,_,_,e,by rw[e];exact s.1,s.2.1⟩,s.2.2⟩
theorem Cv{mg:Str->Option xY}{n:Str}{ps:List Str}(X:K.In h)(G:h.Ns xR mg)(s:Ask.Said K (.fn n st))
  (hb:∀(kV doc pm:xY)(an:Option jT)(cdv ct:xY)(us:List xY),us.length=ps.length->bindArgs (fnOf n n (Fg st) (Dg st) (Aq st) .none kV doc pm an cdv ct) ⟨us,[]⟩=pure (ps.zip us)):FT K mg n st ps:=
 ⟨R9 s.2,(R9 s.2).binds hb,mg_of X G s.1,s.2.2.2⟩
theorem Ju{c:Str}{ps:List Str}(s:Ask.Said K (.mt c m q st))
  (hb:∀(kV doc pm:xY)(an:Option jT)(cdv ct:xY)(us:List xY),us.length=ps.length->bindArgs (fnOf m q (Fg st) (Dg st) (Aq st) .none kV doc pm an cdv ct) ⟨us,[]⟩=pure (ps.zip us)):MT K c m q st ps:=
 ⟨R9 s.2.2,(R9 s.2.2).binds hb,s.1,s.2.1,s.2.2.2.2⟩
theorem ZLE{mg:Str->Option xY}{c:Str}(X:K.In h)(G:h.Ns xR mg)(s:Ask.Said K (.cl c))(i:Ask.Said K (.mt c "__init__" q st)):CT K mg c:=
 ⟨s.1,⟨s.2.1,s.2.2.1,s.2.2.2.1,s.2.2.2.2.1⟩,mg_of X G s.1,s.2.2.2.2.2.1,i.1,i.2.1,s.2.2.2.2.2.2⟩
abbrev FnO(P:xX)(w:xq)(K:v7)(mg:Str->Option xY)(base:Heap)(k:Nat)(n:Str)(ps:List Str)(F:List D->DH->R D):Prop:=FnOk P w K mg base CX0 k (Af K n) (Ax K (Af K n)) ps (lF K F)
abbrev MtO(P:xX)(w:xq)(K:v7)(mg:Str->Option xY)(base:Heap)(k:Nat)(c m:Str)(ps:List Str)(F:List D->DH->R D):Prop:=FnOk P w K mg base CX0 k (De K (Af K c) m) (Ax K (De K (Af K c) m)) ps (lF K F)
theorem ZOH{fd:xZ}{s:xW}{v:xY}{a:Str}{f:jT}(F:Fun K x q st f fd)
  (h:∀(kV doc pm:xY)(an:Option jT)(cdv ct:xY)(u:xY),bindArgs (fnOf x q (Fg st) (Dg st) (Aq st) .none kV doc pm an cdv ct) ⟨[u],[]⟩=pure [(a,u)]:=by intros;rfl):BindsTo s fd ⟨[v],[]⟩ [(a,v)]:=ZN9 F h
end _D
namespace _D
open PySem PySem.Spec _L
open PyProof.Rows hiding St
variable{k:Nat}{st:xK}{ps N:List Str}{cls:xY}{od:Option jT}{P:xX}{w:xq}{h base:Heap}{C:jT}{H:Hp}{mg:Str->Option xY}{qual:Str}{fd:xZ}{s:xW}{A:jU}
section
variable{prog:xX}{w:xq}{A:jU}{E:xY->xW->Prop}{s:xW}
end
section
variable{X:Cx}{E:XK}{p:jT}{kvs:List (Str×Str)}{x:Str}{a:xQ}{ta:DE}{np pos:Pos}
end
noncomputable def Iv:D->Option V
 |.int i=>vB (.int i)
 |.str x=>vB (.str x)
 |_=>vC
section
variable{X:Cx}{E:XK}{pos:Pos}
end
section
variable{S:DSt}{G:DH}
end
theorem Bv{X:Cx}{j:Nat}{n:Str}{F:List D->DH->R D}{p pos:Pos}{e:xQ}{es:List xQ}{tr:DA}(FF:FnO X.prog X.w X.K X.mg X.base k n ps F)(T:FT X.K X.mg n st ps)(hr:Room j X.A)(ha:QA X E0 (e::es) tr)
  (hj:k<=j:=by decide) (hg:Gl X n:=by exact rfl) (hd:(n==("__debug__":Str))=vE:=by decide) (he:notStar e=vD:=by exact rfl) (hp:es.all notStar=vD:=by exact rfl):QE X E0 (.Call (.Name n p) (e::es) [] pos) (dFn F tr):=
 ZMb FF (hr.mono hj) hg T.m T.k T.b pass0 ha hd he hp
theorem ZL8{f:Array xY->Array xY}{o:Obj}:(Obj.mapFields f o).dict=o.dict:=by
 obtain⟨c,d,dt,sl⟩:=o;unfold Obj.mapFields
 cases dt<;>rfl
def Trc(h B:Heap)(e:jT)(cls:xY)(od:Option jT)(fl:xY):Prop:=
 ∃oe vs T oT ts,h.get? e=vB oe/\(oe.cls=cls/\oe.dict=od)/\oe.data=.fields vs/\vs[1]?=vB (.ref T)/\(B.get? T=vC/\T≠e)/\h.get? T=vB oT/\oT.data=.fields ts/\ts[3]?=vB fl
structure Noted (B:Heap) (l:List Env) (e:jT) (cls:xY) (od:Option jT) (fl:xY) (h h':Heap):Prop where
 st:B.StaysIn h'
 fr:h'.FunFrames B l
 tr:Trc h' B e cls od fl
 up:∀b o,h.get? b=vB o->(∀vs,o.data≠ .fields vs)->∃sl,h'.get? b=vB {o with slots:=sl}
 th:∀b o,h.get? b=vB o->∃o',h'.get? b=vB o'
section
variable{M:Model}{A:jU}{E:xY->xW->Prop}{s:xW}{B:Heap}{env:Env}{outer:List Env}{L e:jT}{oe:Obj}{vs:Array xY}{head:xY}{hn:Bool}{Q:Unit->xW->Prop}
theorem ZCj(fr:A.frames=vB (env::outer))(hl:s.heap.FunFrames B (env::outer))(hf:env.frame=vB L)(he:s.heap.get? e=vB oe)(hk:B.StaysIn s.heap)(hb:B.get? e=vC)(hd:oe.data=.fields vs)(hz:1<vs.size)
  (q:∀h',Noted B (env::outer) e oe.cls oe.dict (xT L) s.heap h'->Q () {s with heap:=h'}):
  vX M A (do let a<-frameOf env;let pl<-entryPlaceOf L hn;let b<-EntryCells.newEntry head a .none (xT L) .none pl;setField (.ref e) 1 b) Q E s:=by
 have ne:e∉(env::outer).filterMap (·.frame):=λhm=>by obtain⟨_,o,ho,nf⟩:=hl.mem hm;rw[he]at ho;cases ho;exact nf vs hd
 refine vW (wpAny_frameOf_fun fr hl hf λh1 k1=>?_);refine vW (wpAny_entryPlaceOf λpl hp=>?_);unfold EntryCells.newEntry newFields;refine vW (vx ?_ (hp.sizeOk5 _ _ _ _ _));generalize hO:({cls:=.type "traceback",dict:=vC,data:=.fields ([head,.ref L,.none,xT L,.none]++(if pl.isEmpty then zx 6 Value.none else pl)).toArray}:Obj)=O;have hOd:O.data=.fields ([head,.ref L,.none,xT L,.none]++(if pl.isEmpty then zx 6 Value.none else pl)).toArray:=by rw[<-hO]
 have e1:h1.get? e=vB oe:=(k1.2.1 e ne).trans he;have b1:B.StaysIn h1:=λb o hbo=>(k1.2.1 b λhm=>by rw[(hl.mem hm).1]at hbo;cases hbo).trans (hk b o hbo)
 have e2:(h1.push O).get? e=vB oe:=zQ O e1;refine wpAny_setField e2 hd hz (q _ ?_);have nTe:h1.objs.size≠e:=qU (zY e1)
 have d3:=Obj.data_mapFields hd (·.setIfInBounds 1 (Value.ref h1.objs.size))
 have e3:=qj (Obj.mapFields (·.setIfInBounds 1 (Value.ref h1.objs.size))) e2 (Obj.isFreed_of_fields d3)
 have t3:=(qk (h1.push O) (Obj.mapFields (·.setIfInBounds 1 (Value.ref h1.objs.size))) (Ne.symm nTe)).trans (zy h1 (by rw[<-hO];rfl))
 have keep:∀b o,b≠e->h1.get? b=vB o->((h1.push O).update e (Obj.mapFields (·.setIfInBounds 1 (Value.ref h1.objs.size)))).get? b=vB o:=λb o n hb'=>by rw[qk _ _ (Ne.symm n)];exact zQ _ hb'
 have nf:∀b o,s.heap.get? b=vB o->(∀vs,o.data≠ .fields vs)->b≠e:=λb o hb' n z=>by rw[z,he]at hb';cases hb';exact n vs hd
 have fresh:B.get? h1.objs.size=vC:=b1.fresh;refine⟨λb o hbo=>keep b o (λz=>by rw[z,hb]at hbo;cases hbo) (b1 b o hbo),hl.of_keeps λb o hb' n=>?_,⟨_,_,h1.objs.size,_,_,e3,⟨Obj.cls_mapFields _ _,ZL8⟩,d3,by simp[hz],⟨fresh,nTe⟩,t3,hOd,by simp⟩,λb o hb' n=>?_,λb o hb'=>?_⟩
 ·obtain⟨sl,hs⟩:=k1.2.2 b o hb';exact⟨_,keep b _ (nf b o hb' n) hs,rfl⟩
 ·obtain⟨sl,hs⟩:=k1.2.2 b o hb';exact⟨sl,keep b _ (nf b o hb' n) hs⟩
 ·obtain⟨sl,hs⟩:=k1.2.2 b o hb';by_cases z:b=e
  ·subst z;exact⟨_,e3⟩
  ·exact⟨_,keep b _ z hs⟩
theorem ZJr(fr:A.frames=vB (env::outer))(hl:s.heap.FunFrames B (env::outer))(hf:env.frame=vB L)(he:s.heap.get? e=vB oe)(hk:B.StaysIn s.heap)(hb:B.get? e=vC)(hd:oe.data=.fields vs)(h1:vs[1]?=vB .none)
  (q:∀h',Noted B (env::outer) e oe.cls oe.dict (xT L) s.heap h'->Q () {s with heap:=h'}):vX M A (noteFrame (.ref e) env) Q E s:=by
 unfold noteFrame;simp only[hf];refine vW (vq he hd h1 ?_);rw[if_neg (by decide)];exact ZCj fr hl hf he hk hb hd (qV.mp h1).1 q
theorem ZF7(fr:A.frames=vB (env::outer))(hl:s.heap.FunFrames B (env::outer))(hf:env.frame=vB L)(ht:Trc s.heap B e cls od .none)(hk:B.StaysIn s.heap)(hb:B.get? e=vC)
  (q:∀h',Noted B (env::outer) e cls od (xT L) s.heap h'->Q () {s with heap:=h'}):vX M A (noteFrame (.ref e) env) Q E s:=by
 obtain⟨oe,vs,T,oT,ts,he,⟨rfl,rfl⟩,hd,h1,⟨nT,nTe⟩,hT,dT,h3⟩:=ht;unfold noteFrame;simp only[hf];refine vW (vq he hd h1 ?_)
 rw[if_pos (show(Value.ref T != Value.none)=vD from by simp)]
 refine vW (vq hT dT h3 ?_)
 rw[if_neg (show¬((Value.none==xT L)=vD)from by simp[xT])]
 refine vW (wpAny_setField hT dT (qV.mp h3).1 ?_)
 have oth:∀b,b≠T->(s.heap.update T (Obj.mapFields (·.setIfInBounds 3 Value.none))).get? b=s.heap.get? b:=λb n=>qk _ _ (Ne.symm n)
 have nf:∀b o,s.heap.get? b=vB o->(∀vs,o.data≠ .fields vs)->b≠T:=λb o hb' n z=>by rw[z,hT]at hb';cases hb';exact n ts dT
 refine ZCj fr (hl.of_keeps λb o hb' n=>⟨o,(oth b (nf b o hb' n)).trans hb',rfl⟩) hf ((oth e (Ne.symm nTe)).trans he)
  (λb o hbo=>(oth b λz=>by rw[z,nT]at hbo;cases hbo).trans (hk b o hbo)) hb hd (qV.mp h1).1
  λh' n=>q h' ⟨n.st,n.fr,n.tr,λb o hb' nn=>n.up b o ((oth b (nf b o hb' nn)).trans hb') nn,λb o hb'=>?_⟩
 by_cases z:b=T
 ·subst z;exact n.th b _ (qj _ hT (Obj.isFreed_of_fields (Obj.data_mapFields dT _)))
 ·exact n.th b o ((oth b z).trans hb')
theorem Wn{fl:xY}{l:List Env}(hl:s.heap.FunFrames B l)(ht:Trc s.heap B e cls od fl)(hk:B.StaysIn s.heap)
  (q:∀h',Noted B l e cls od .none s.heap h'->Q () {s with heap:=h'}):vX M A (setFlight (.ref e) vC) Q E s:=by
 obtain⟨oe,vs,T,oT,ts,he,⟨rfl,rfl⟩,hd,h1,⟨nT,nTe⟩,hT,dT,h3⟩:=ht;unfold setFlight;refine vW (vq he hd h1 ?_)
 rw[if_pos (show(Value.ref T != Value.none)=vD from by simp)]
 refine wpAny_setField hT dT (qV.mp h3).1 (q _ ?_)
 have oth:∀b,b≠T->(s.heap.update T (Obj.mapFields (·.setIfInBounds 3 ((vC:Option jT).elim Value.none λf=>xT f)))).get? b=s.heap.get? b:=λb n=>qk _ _ (Ne.symm n)
 have nf:∀b o,s.heap.get? b=vB o->(∀vs,o.data≠ .fields vs)->b≠T:=λb o hb' n z=>by rw[z,hT]at hb';cases hb';exact n ts dT
 have dT':=Obj.data_mapFields dT (·.setIfInBounds 3 ((vC:Option jT).elim Value.none λf=>xT f))
 have hT':=qj (Obj.mapFields (·.setIfInBounds 3 ((vC:Option jT).elim Value.none λf=>xT f))) hT (Obj.isFreed_of_fields dT')
 have z3:=(qV.mp h3).1;refine⟨λb o hbo=>(oth b λz=>by rw[z,nT]at hbo;cases hbo).trans (hk b o hbo),hl.of_keeps λb o hb' n=>⟨o,(oth b (nf b o hb' n)).trans hb',rfl⟩,
  ⟨oe,vs,T,_,_,(oth e (Ne.symm nTe)).trans he,⟨rfl,rfl⟩,hd,h1,⟨nT,nTe⟩,hT',dT',by simp[z3]⟩,λb o hb' n=>⟨o.slots,(oth b (nf b o hb' n)).trans hb'⟩,λb o hb'=>?_⟩
 by_cases z:b=T
 ·subst z;exact⟨_,hT'⟩
 ·exact⟨o,(oth b z).trans hb'⟩
theorem Noted.trans{l:List Env}{f1 f2:xY}{h1 h2 h3:Heap}(x:Noted B l e cls od f1 h1 h2)(y:Noted B l e cls od f2 h2 h3):Noted B l e cls od f2 h1 h3:=
 ⟨y.st,y.fr,y.tr,λb o hb n=>by
  obtain⟨sl,k⟩:=x.up b o hb n;obtain⟨sl',k'⟩:=y.up b _ k n;exact⟨sl',k'⟩,λb o hb=>by
  obtain⟨o',k⟩:=x.th b o hb;exact y.th b o' k⟩
theorem ZHa(fr:A.frames=vB (env::outer))(hl:s.heap.FunFrames B (env::outer))(hf:env.frame=vB L)(he:s.heap.get? e=vB oe)(hk:B.StaysIn s.heap)(hb:B.get? e=vC)(hd:oe.data=.fields vs)(h1:vs[1]?=vB .none)
  (q:∀h',Noted B (env::outer) e oe.cls oe.dict .none s.heap h'->Q () {s with heap:=h'}):vX M A (leaving env (.ref e)) Q E s:=by
 unfold leaving;exact vW (ZJr fr hl hf he hk hb hd h1 λh' n=>Wn n.fr n.tr n.st λh'' n'=>q h'' (n.trans n'))
theorem ZM6(fr:A.frames=vB (env::outer))(hl:s.heap.FunFrames B (env::outer))(hf:env.frame=vB L)(ht:Trc s.heap B e cls od .none)(hk:B.StaysIn s.heap)(hb:B.get? e=vC)
  (q:∀h',Noted B (env::outer) e cls od .none s.heap h'->Q () {s with heap:=h'}):vX M A (leaving env (.ref e)) Q E s:=by
 unfold leaving;exact vW (ZF7 fr hl hf ht hk hb λh' n=>Wn n.fr n.tr n.st λh'' n'=>q h'' (n.trans n'))
end
structure Fly (B:Heap) (l:List Env) (e:jT) (cls:xY) (od:Option jT) (H':Hp) (h:Heap):Prop where
 st:B.StaysIn h
 fr:h.FunFrames B l
 tr:Trc h B e cls od .none
 eb:B.get? e=vC
 al:∀b,H' b≠vC->∃o,B.get? b=vB o
def CXx(P:xX)(w:xq):CXT:=λouter H s E e s'=>∃(ea:jT)(cls:xY)(od:Option jT)(H':Hp)(B:Heap),e=.ref ea/\s'.os=s.os/\AllBare s'.gens/\Un (frs outer) [] H H' s.heap s'.heap/\HOk P w H' s'.heap/\
 Fly B outer ea cls od H' s'.heap/\(∀b o,s.heap.get? b=vB o->H b=vC->b∉frs outer->B.get? b=vB o)/\s.heap.get? ea=vC/\E cls od H'/\∃C,cls=.ref C
section
variable{X:Cx}{vA:List (jT×Obj)}{σ:St}{H H':Hp}{s s':xW}{B h'':Heap}{ea:jT}{cls:xY}{od:Option jT}{E:XK}
theorem ZDi{h':Heap}(hok:HOk P w H' h)(al:∀b,H' b≠vC->∃o,B.get? b=vB o)(s1:B.StaysIn h)(s2:B.StaysIn h'):HOk P w H' h':=λa o e=>
 (hok a o e).stay (λb u hb q=>by
  have hn:H' b≠vC:=by
   rcases hb with rfl|hb
   ·rw[e];simp
   ·rw[hb];simp
  obtain⟨o',k⟩:=al b hn;have k1:=s1 b o' k;rw[q]at k1;cases k1;exact s2 b u k) (λ_ q=>q) λ_ _ q=>q
theorem ZDP(I:Inv X vA σ H s)(hs:X.stack=X.env::X.outer)(hex:X.ex=[])(hfr:X.env.frame=vB X.env.locals)(os:s'.os=s.os)(bare:AllBare s'.gens)(un:Un (frs X.stack) [] H H' s.heap s'.heap)(hok:HOk X.prog X.w H' s'.heap)
  (bb:∀b o,s.heap.get? b=vB o->H b=vC->b∉frs X.stack->B.get? b=vB o) (al:∀b,H' b≠vC->∃o,B.get? b=vB o) (eb:B.get? ea=vC) (st:B.StaysIn s'.heap) (new:s.heap.get? ea=vC)
  (n:Noted B X.stack ea cls od .none s'.heap h'') (hE:E cls od H') (hc:∃C,cls=.ref C):CXx X.prog X.w X.outer X.H₀ X.s₀ E (.ref ea) {s' with heap:=h''}:=by
 have base:=I.base;rw[hex]at base;have fe:frs X.stack=X.env.locals::frs X.outer:=by rw[hs];unfold frs;rw[zU,hfr]
 have bb':∀b o,X.s₀.heap.get? b=vB o->X.H₀ b=vC->b∉frs X.outer->B.get? b=vB o:=λb o q hn hb=>by
  refine bb b o (base.keep b o q hn hb (by simp)) (base.free b o q hn (by simp)) ?_;rw[fe];intro hm;rcases zw.mp hm with z|z
  ·exact absurd (zV (zY q) I.ok.above) (by rw[z];exact zS _)
  ·exact hb z
 have frO:h''.FunFrames B X.outer:=by have:=n.fr;rw[hs]at this;exact this.2.2
 refine⟨ea,cls,od,H',B,rfl,os.trans I.os,bare,⟨λb o q hn hb _=>n.st b o (bb' b o q hn hb),λb o q hn hb _=>?_,λb o q hn hx=>?_,λb o q hx=>?_,λb xs q=>un.tups b xs (base.tups b xs q),λb o u q=>un.frzs b o u (base.frzs b o u q),λb ps q=>?_⟩,ZDi hok al st n.st,⟨n.st,frO,n.tr,eb,al⟩,bb',?_,hE,hc⟩
 ·obtain⟨sl,k⟩:=base.slot b o q hn hb (by simp);have hm:b∈frs X.stack:=by rw[fe];exact zJ _ hb
  obtain⟨sl',k'⟩:=un.slot b _ k (base.free b o q hn (by simp)) hm (by simp);obtain⟨_,o2,k2,nf⟩:=I.stack.mem hm;rw[k]at k2;cases k2;obtain⟨sl'',k3⟩:=n.up b _ k' nf;exact⟨sl'',k3⟩
 ·obtain⟨o1,k1⟩:=base.there b o q hx;exact un.free b o1 k1 (base.free b o q hn hx) hx
 ·obtain⟨o1,k1⟩:=base.there b o q hx;obtain⟨o2,k2⟩:=un.there b o1 k1 hx;exact n.th b o2 k2
 ·obtain⟨m1,k1⟩:=base.tbls b ps q;obtain⟨m2,k2⟩:=un.tbls b _ k1;exact⟨m1++m2,by rw[k2,Array.append_assoc]⟩
 ·cases q:X.s₀.heap.get? ea with
  |none=>rfl
  |some o=>
   obtain⟨o1,k1⟩:=base.there ea o q (by simp);rw[new]at k1;cases k1
def Kc(X:Cx)(E:XK):xY->xW->Prop:=λe s'=>vX (xS X.prog X.w) X.A (leaving X.env e) (λ_ s''=>CXx X.prog X.w X.outer X.H₀ X.s₀ E e s'') (λe' s''=>CXx X.prog X.w X.outer X.H₀ X.s₀ E e' s'') s'
theorem ZMg(hs:X.stack=X.env::X.outer)(hex:X.ex=[])(hfr:X.env.frame=vB X.env.locals)(I:Inv X vA σ H s){e:xY}(h:CXx X.prog X.w X.stack H s E e s'):Kc X E e s':=by
 obtain⟨ea,cls,od,H',B,rfl,os,bare,un,hok,fly,bb,new,hE,hc⟩:=h;have fr:=I.ok.frames;have ff:=fly.fr;unfold Kc;refine ZM6 (B:=B) (L:=X.env.locals) (outer:=X.outer) (by rw[fr,hs]) (by rw[<-hs];exact ff) hfr fly.tr fly.st fly.eb λh'' n=>?_
 rw[<-hs]at n;exact ZDP I hs hex hfr os bare un hok bb fly.al fly.eb fly.st new n hE hc
theorem ZH8{a:jT}{o:HO}(x:ObjOk P w H h a o):∃ob,h.get? a=vB ob:=by
 cases o with
 |lst xs=>obtain⟨_,_,_,_,e⟩:=x;exact⟨_,e⟩
 |tup xs=>obtain⟨_,_,_,_,e,_⟩:=x;exact⟨_,e⟩
 |dK kvs=>obtain⟨_,_,_,_,o,_,_,e,_⟩:=x;exact⟨_,e⟩
 |dT kvs=>obtain⟨_,_,_,_,o,_,_,e,_⟩:=x;exact⟨_,e⟩
 |set S n=>obtain⟨o,_,_,_,e,_⟩:=x;exact⟨_,e⟩
 |ins C dx fs=>obtain⟨_,_,_,e,_⟩:=x;exact⟨_,e⟩
 |own y=>exact x
 |xd fs=>obtain⟨_,⟨_,_,_,e,_⟩,_⟩:=x;exact⟨_,e⟩
 |rng lo hi=>obtain⟨_,_,_,e⟩:=x;exact⟨_,e⟩
 |frz ob u=>obtain⟨e,_⟩:=x;exact⟨_,e⟩
 |tbl ps=>exact⟨_,x⟩
 |met f y=>exact⟨_,x⟩
 |ext φ=>exact x.2.1
theorem ZGW{h':Heap}:∀{l:List Env},h.FunFrames base l->(∀b∈frs l,∀o,h.get? b=vB o->∃sl,h'.get? b=vB {o with slots:=sl})->h'.FunFrames base l
 |[],_,_=>trivial
 |env::r,⟨hk,⟨L,o,hf,hn,ho,hd⟩,hr⟩,k=>by
  have fe:frs (env::r)=L::frs r:=by unfold frs;rw[zU,hf]
  obtain⟨sl,z⟩:=k L (by rw[fe];exact zX) o ho;exact⟨hk,⟨L,_,hf,hn,z,hd⟩,ZGW hr λb hb o' ho'=>k b (by rw[fe];exact zJ _ hb) o' ho'⟩
structure Made (X:Cx) (H:Hp) (s:xW) (ea:jT) (cls:xY) (od:Option jT) (s':xW) (H':Hp):Prop where
 os:s'.os=s.os
 bare:AllBare s'.gens
 un:Un (frs X.stack) [] H H' s.heap s'.heap
 hok:HOk X.prog X.w H' s'.heap
 ob:∃oe vs,s'.heap.get? ea=vB oe/\oe.cls=cls/\oe.dict=od/\oe.data=.fields vs/\vs[1]?=vB .none
 fe:H' ea=vC
 new:s.heap.get? ea=vC
theorem ZK2(hs:X.stack=X.env::X.outer)(hex:X.ex=[])(hfr:X.env.frame=vB X.env.locals)(I:Inv X vA σ H s)(m:Made X H s ea cls od s' H')(hE:E cls od H')(hc:∃C,cls=.ref C):Kc X E (.ref ea) s':=by
 obtain⟨oe,vs,he,rfl,rfl,hd,h1⟩:=m.ob;have ne:ea∉frs X.stack:=λhm=>by obtain⟨_,o,ho,_⟩:=I.stack.mem hm;rw[m.new]at ho;cases ho
 have F':s'.heap.FunFrames X.base X.stack:=ZGW I.stack λb hb o ho=>m.un.slot b o ho (I.S8 b hb) hb (by simp)
 have FB:s'.heap.FunFrames (PySem.W.hideAll s'.heap (ea::frs X.stack)) X.stack:=PySem.W.funFrames_hide F' λenv hm a q=>zJ _ (j9.mpr ⟨env,hm,q⟩)
 have eb:(PySem.W.hideAll s'.heap (ea::frs X.stack)).get? ea=vC:=by exact PySem.W.hideAll_none _ zX
 have st:(PySem.W.hideAll s'.heap (ea::frs X.stack)).StaysIn s'.heap:=λb o q=>PySem.W.of_hideAll _ q
 have bb:∀b o,s.heap.get? b=vB o->H b=vC->b∉frs X.stack->(PySem.W.hideAll s'.heap (ea::frs X.stack)).get? b=vB o:=λb o q hn hb=>PySem.W.hideAll_get _ (m.un.keep b o q hn hb (by simp)) λhm=>by
  rcases zw.mp hm with z|z
  ·rw[z,m.new]at q;cases q
  ·exact hb z
 have al:∀b,H' b≠vC->∃o,(PySem.W.hideAll s'.heap (ea::frs X.stack)).get? b=vB o:=λb hb=>by
  cases q:H' b with
  |none=>exact absurd q hb
  |some u=>
   obtain⟨o,k⟩:=ZH8 (m.hok b u q);refine⟨o,PySem.W.hideAll_get _ k λhm=>?_⟩;rcases zw.mp hm with z|z
   ·rw[z,m.fe]at q;cases q
   ·obtain⟨_,o1,k1,_⟩:=I.stack.mem z;rw[m.un.free b o1 k1 (I.S8 b z) (by simp)]at q;cases q
 unfold Kc;refine ZHa (B:=PySem.W.hideAll s'.heap (ea::frs X.stack)) (L:=X.env.locals) (outer:=X.outer) (by rw[I.ok.frames,hs]) (by rw[<-hs];exact FB) hfr he st eb hd h1 λh'' n=>?_
 rw[<-hs]at n;exact ZDP I hs hex hfr m.os m.bare m.un m.hok bb al eb st m.new n hE hc
end
section
variable{prog:xX}{w:xq}{A:jU}{E:xY->xW->Prop}{h:Heap}{g:Array GenState}{d:Drawn}{t:Nat}{os:OsState}
variable{nm q:Str}{C N:jT}{bs bm bmB:List xY}{hdct:Bool}{sn:List Str}{sub:List xY}{ab:Bool}{col:Option Bool}{dd:Option jT}{k0 k1 k2 k3 k5:Option xY}{B newId initId:String}
theorem ZJI(F:ExcBaseFacts B newId initId bmB)(T:OwnTail h bmB bm){mN:Str->Option xY}{rest:List xY}{fI:jT}{oI:Obj}{Q:Fin->xW->Prop}
  (hC:h.get? C=vB (excClassObj nm q C N bs bm hdct sn sub ab col dd k0 k1 k2 k3 k5 newId)) (hn:h.Ns N mN) (hi:mN "__init__"=vB (.ref fI)) (hfI:h.get? fI=vB oI) (hfc:oI.cls=.type "function")
  (hq:∀h' e,Heap.MadeExcOf h h' e (.ref C) rest->h.objs.size<=e->vX (xS prog w) A (call (.ref fI) (.ref e::rest)) (λr s'=>r=.none/\Q (.done (.ret (.ref e))) s') E ⟨h',g,d,t,os⟩) (hr:rest.length<=sizeLine):
  vX (xS prog w) A (Builtin.«type.__call__» ⟨.ref C::rest,[]⟩) Q E ⟨h,g,d,t,os⟩:=by
 repeat (first|with_reducible refine wpAny_loadPart_at hC ?_|with_reducible refine wpAny_madeBy_exc hC ?_|wp_step)
 refine codeAny_call_builtin_code (Code.quiet_builtin _ F.quiet) (wpAny_check_new_subT F T hC ?_);refine codeAny_exc_new_subT F T hC ?_ hr;show vX _ _ _ _ _ _;generalize hO1:({cls:=.type "tuple",data:=.seq rest.toArray}:Obj)=O1;generalize hO2:({cls:=.ref C,data:=.fields #[.ref h.objs.size,.none,.none,.none,.bool vE,.none]}:Obj)=O2;have kp:∀b o,h.get? b=vB o->((h.push O1).push O2).get? b=vB o:=λb o z=>zQ _ (zQ _ z)
 have hC1:=kp _ _ hC;have hf1:=kp _ _ hfI;have hn1:((h.push O1).push O2).Ns N mN:=hn.keeps kp;have T1:=T.keeps kp;have hg:((h.push O1).push O2).get? (h.objs.size+1)=vB O2:=Heap.get?_push_at (by simp only[qw]) (by rw[<-hO2];rfl);have hc2:O2.cls=.ref C:=by rw[<-hO2]
 have cc:(Value.ref C::bm).contains (.ref C)=vD:=by simp
 unfold isInstance
 repeat (first|(with_reducible refine wpAny_loadPart_at hg ?_;rw[hc2])|(with_reducible refine wpAny_isSubtype_exc hC1 ?_;rw[cc])|wp_step)
 show vX _ _ (typeLookup (.ref C) _) _ _ _;refine wpAny_typeLookup_tail hC1 hn1 T1 F.mroIs F.init.lookup ?_;rw[hi];refine vz (vW ?_);unfold bindSpecial;refine vW (wpAny_typeOf (T:="function") ⟨_,hf1,hfc⟩ ?_);rw[if_pos (by decide)];refine v4 (vW (vj (hq _ (h.objs.size+1) ⟨kp,jM (jX _),h.objs.size,by rw[hg,<-hO2],jM (zW _),?_⟩ ?_) (λr s' z=>?_) λ_ _ x=>x))
 ·rw[<-hO1];exact zQ _ (Heap.get?_push_at rfl rfl)
 ·exact jX _
 ·obtain⟨rfl,hQ⟩:=z
  wp_walk
  exact hQ
theorem ZJh(F:ExcBaseFacts B newId initId bmB)(T:OwnTail h bmB bm){mN:Str->Option xY}{rest:List xY}{fI:jT}{oI:Obj}{Q:xY->xW->Prop}
  (hC:h.get? C=vB (excClassObj nm q C N bs bm hdct sn sub ab col dd k0 k1 k2 k3 k5 newId)) (hn:h.Ns N mN) (hi:mN "__init__"=vB (.ref fI)) (hfI:h.get? fI=vB oI) (hfc:oI.cls=.type "function")
  (hq:∀h' e,Heap.MadeExcOf h h' e (.ref C) rest->h.objs.size<=e->vX (xS prog w) (A.under (.builtin "type.__call__" ⟨.ref C::rest,[]⟩)) (call (.ref fI) (.ref e::rest)) (λr s'=>r=.none/\Q (.ref e) s') E ⟨h',g,d,t,os⟩) (hr:rest.length<=sizeLine):
  vX (xS prog w) A (call (.ref C) rest) Q E ⟨h,g,d,t,os⟩:=by
 have f1:=tc_lookup;have f2:=tc_bind (.ref C);have hT:(⟨h,g,d,t,os⟩:xW).TypeIs (.ref C) "type":=⟨_,hC,rfl⟩;refine wpAny_call (codeAny_of_tree ?_);show vX _ _ (callAny (.ref C) _) _ _ _
 repeat (any_goals (first|assumption|with_reducible refine wpAny_loadPart_at hC ?_|wp_step))
 refine⟨rfl,?_⟩;refine codeAny_call_builtin_at (Code.quiet_builtin _ (by decide +kernel)) entry_typeCall (wpAny_check_type_call_sub hC (ZJI F T hC hn hi hfI hfc (λh' e hm he=>?_) hr));exact hq h' e hm he
end
noncomputable abbrev vmro:List xY:=[.type "ValueError",.type "Exception",.type "BaseException",.type "object"]
def Jy(K:PySem.W.Frag)(C:jT):Bool:=match K.lookup C with
 |some ⟨.type "type",_,.cls cd,sl⟩=>(match cd.mro,sl.toList with
  |.ref C'::bm,[_,_,_,_,vB (.builtin n),_]=>C'==C&&n == "ValueError.__new__" && !cd.hasDel&&cd.hasDict&&PySem.W.tailIn K vmro bm&&PySem.W.nsOkIn K cd.ns
  |_,_=>vE)
 |_=>vE
noncomputable def Ln(K:PySem.W.Frag)(C f:jT):Bool:=match K.lookup C with
 |some ⟨_,_,.cls cd,_⟩=>PySem.W.nsIn K cd.ns "__init__"==vB (vB (.ref f))
 |_=>vE
theorem ZL0{K:PySem.W.Frag}{N:jT}{m:Str->Option xY}{n:Str}{v:xY}(X:K.In h)(G:h.Ns N m)(e:PySem.W.nsIn K N n=vB (vB v)):m n=vB v:=by
 obtain⟨o,es,ep,ho,hd,_,hf⟩:=G;unfold PySem.W.nsIn at e;split at e
 ·rename_i c d es' n' sl q;have:=X _ _ q;rw[ho]at this;cases this;cases hd;split at e
  ·rename_i y he;rw[<-hf];unfold nsFind findBy;rw[<-Array.find?_toList,he];exact Option.some.inj e
  ·split at e<;>cases e
 ·cases e
theorem Ph{K:PySem.W.Frag}(X:K.In h)(q:Jy K C=vD):∃bm N nm qn bs sn sub ab col dd k0 k1 k2 k3 k5,h.get? C=vB (excClassObj nm qn C N bs bm vD sn sub ab col dd k0 k1 k2 k3 k5 "ValueError.__new__")/\OwnTail h vmro bm/\
  (∃m,h.Ns N m/\∀f,Ln K C f=vD->m "__init__"=vB (.ref f)):=by
 unfold Jy at q;split at q
 ·rename_i dd cd sl ho;split at q
  ·rename_i C' bm k0 k1 k2 k3 n k5 hm hs;simp only[zB,beq_iff_eq,Bool.not_eq_true']at q;obtain⟨⟨⟨⟨⟨rfl,rfl⟩,hdel⟩,hdc⟩,ht⟩,hok⟩:=q;have hi:∀f,Ln K C' f=vD->PySem.W.nsIn K cd.ns "__init__"=vB (vB (.ref f)):=λf z=>by unfold Ln at z;rw[ho]at z;exact beq_iff_eq.mp z
   obtain⟨nm,bs,mro,ns,qn,hd,sn,sub,ab,col,del⟩:=cd;dsimp only at hm hdel hok hdc hi;subst hm hdel hdc;have hsl:sl= #[k0,k1,k2,k3,vB (.builtin "ValueError.__new__"),k5]:=by obtain⟨l⟩:=sl;simp only at hs;rw[hs]
   subst hsl;exact⟨bm,ns,nm,qn,bs,sn,sub,ab,col,dd,k0,k1,k2,k3,k5,X _ _ ho,PySem.W.tail_of_in X ht,_,.of_isNs (PySem.W.isNs_of_in X hok),λf z=>ZL0 X (.of_isNs (PySem.W.isNs_of_in X hok)) (hi f z)⟩
  ·cases q
 ·cases q
noncomputable def exO(C:jT)(od:Option jT)(t:jT):Obj:={cls:=.ref C,dict:=od,data:=.fields #[.ref t,.none,.none,.none,.bool vE,.none]}
def exo(e C:jT)(od:Option jT)(h:Heap):Prop:=∃t,h.get? e=vB (exO C od t)
theorem Zu{e:jT}(x:exo e C od h):ObjOk P w H h e (.ext (exo e C od)):=
 ⟨x,let⟨t,k⟩:=x;⟨_,k⟩,λh1 h2 ⟨t,k⟩ s=>⟨t,s _ k⟩⟩
section
variable{X:Cx}{C W:jT}{x:Str}{mc:xY}{p apos pos:Pos}{a1 a2:xQ}{t:TA}
noncomputable def tBI(C:jT)(t:TA):TE:=λσ H Q=>t σ H λvs H1=>∃e v,vs=[.ref e,v]/\H1 e=vB (.ext (exo e C vC))/\Q .non H1
theorem ZLc{a:jT}{o:HO}(h:H a=vB o):upd H a o=H:=by
 funext b;unfold upd;split
 ·rename_i z;rw[z,h]
 ·rfl
theorem ZK5{pl:Sem Bool}(hC:Jy X.K C=vD)(hg:Gl X x)(hm:X.mg x=vB (.ref W))(hs:PySem.W.specialIn X.K (.ref W) "__getattribute__"=vB (vB (.builtin "type.__getattribute__")))(hr:PySem.W.readsIn X.K W mc=vD)
  (hf:PySem.W.findCls X.K (.ref W) mc "__init__"=vB (.val (.builtin "ValueError.__init__"))) (ha:PA X [a1,a2] t) (hdb:(x==("__debug__":Str))=vE:=by decide)
  (he:vZ [a1,a2] X.env=(vE,eval a1 X.env)::vZ [a2] X.env:=by rfl) (hpl:(xk pos (vZ [a2] X.env)).any (·.1)=vE:=by rfl)
  (ht:eval (.Call (.Attribute (.Name x p) "__init__" apos) [a1,a2] [] pos) X.env=(do
   let ov<-eval (.Name x p) X.env
   standAt apos.atName
   let(f,first)<-holding [ov] (getMethod ov "__init__" pl)
   callWith pos f first (xk pos (vZ [a1,a2] X.env)) (xy pos (xO [] X.env))):=by rfl):
  PE X (.Call (.Attribute (.Name x p) "__init__" apos) [a1,a2] [] pos) (tBI C t):=by
 intro vA s σ H Q I h;refine PySem.W.methodCall_KW (pl:=pl) (Ld I hg hm ?_ hdb) ht;refine PySem.W.method_cls I.kIn hs (PySem.W.cls_value I.kIn hr hf (by decide) ?_);refine PyProof.Rows.callWith_builtin1 (thn (ha pos vA _ σ H _ (I.tok _) h) λus s1 ⟨vs,H1,I1,r,e,v,ev,hx,q⟩=>?_) he hpl;subst ev;obtain⟨u,rfl⟩:∃u,us=[.ref e,u]:=by
  cases r with
  | cons r1 r2=>
   cases r2 with
   |cons r3 r4=>
    cases r4
    obtain rfl:=(show _=Value.ref e from r1)
    exact⟨_,rfl⟩
 obtain⟨⟨tp,hob⟩,_,_⟩:=I1.hok e _ hx;obtain⟨bm,N,nm,qn,bs,sn,sub,ab,col,dd,k0,k1,k2,k3,k5,hcl,T,m,hN,_⟩:=Ph I1.kIn hC;obtain⟨hp,g,d,tk,os⟩:=s1;have F:=PySem.F.excBase_ValueError;refine wpAny_call (codeAny_call_builtin F.init.plain F.initEntry (wpAny_check_init_subT F T hcl hob rfl ?_))
 wp_walk
 show EP X vA σ Q .none {heap:=(hp.push {cls:=.type "tuple",data:=.seq #[u]}).update e (Obj.mapFields (·.setIfInBounds 0 (Value.ref hp.objs.size))),gens:=g,drawn:=d,toks:=tk,os:=os}
 have he1:(hp.push {cls:=.type "tuple",data:=.seq #[u]}).get? e=vB (exO C vC tp):=zQ _ hob
 have he2:((hp.push {cls:=.type "tuple",data:=.seq #[u]}).update e (Obj.mapFields (·.setIfInBounds 0 (Value.ref hp.objs.size)))).get? e=vB (exO C vC hp.objs.size):=qj _ he1 rfl
 have J:=I1.write (t':=tk) (x:=e) (e:=e) (o:=.ext (exo e C vC)) (h':=(hp.push {cls:=.type "tuple",data:=.seq #[u]}).update e (Obj.mapFields (·.setIfInBounds 0 (Value.ref hp.objs.size)))) (by rw[hx];trivial) (.inl rfl)
  (λb o n k=>by rw[qk _ _ (Ne.symm n)];exact zQ _ k) ⟨_,he2⟩ (Zu ⟨_,he2⟩)
 rw[ZLc hx]at J;exact⟨.non,H1,J,rfl,q⟩
end
noncomputable def Nb:List xY->Bool
 |[.type a,.type b,.type c,.type d]=>a == "ValueError"&&b == "Exception"&&c == "BaseException"&&d == "object"
 |.ref _::r=>Nb r
 |_=>vE
theorem ZB3{a b c d:String}(e:Nb [.type a,.type b,.type c,.type d]=vD): [Value.type a,.type b,.type c,.type d]=vmro:=by
 simp only[Nb,zB,beq_iff_eq]at e;obtain⟨⟨⟨rfl,rfl⟩,rfl⟩,rfl⟩:=e
 rfl
theorem ZEi(self:xY):∀{l:List xY},Nb l=vD->refuseLoop self "__setattr__" l=pure ()
 |[.type a,.type b,.type c,.type d],e=>by rw[ZB3 e];exact PySem.F.store_ValueError.passes self
 |.ref c::r,e=>by rw[refuseLoop_ref];exact ZEi self (l:=r) e
theorem ZFz:∀{l:List xY},Nb l=vD->l.contains (.type "object")=vD
 |[.type a,.type b,.type c,.type d],e=>by rw[ZB3 e];simp
 |.ref c::r,e=>by rw[List.contains_cons,ZFz (l:=r) e,Bool.or_true]
def T9(K:PySem.W.Frag)(C:jT):Bool:=(PySem.W.clsIn K C).any λcd=>Nb cd.mro
section
open PySem.W
variable{prog:xX}{w:xq}{A:jU}{s:xW}{K:v7}{x C:jT}{R:Result->xW->Prop}
theorem ZJD{ox:Obj}{od:Option Obj}{name:Str}{tk:Tok}{v:xY}{r:Option xY}(X:K.In s.heap)(I:InstAt s.heap x ox C od)(hp:T9 K C=vD)(ht:takerIn K C name=vB r)
  (h:∀b,vX (xS prog w) A.in1 (match r with |some a=>Builtin.ObjectAttr.setByDescriptor a (.ref x) v|none=>Builtin.ObjectAttr.storeInOwnDict (.ref x) (.ref C) (.str name tk) name v b)
   (λfin s'=>match fin with | .done f=>R (.ok f) s' | .again c'=>c'.quiet=vD/\codeAny (xS prog w) A c' R s') (λe s'=>R (.error e) s') s):
  codeAny (xS prog w) A (.call (.builtin "object.__setattr__") ⟨[.ref x,.str name tk,v],[]⟩) R s:=by
 obtain⟨cd,hcd,hve⟩:=any_some hp;obtain⟨at0,hat,htr⟩:=Option.bind_eq_some_iff.mp ht;have full:cd.mro≠[]:=λz=>by rw[z]at hve;cases hve
 have top:mroIn K C (.type "object")=vB vD:=by unfold mroIn;rw[hcd];show(if cd.mro.isEmpty=vD then _ else _)=_;rw[if_neg (by simpa using full),ZFz hve]
 have line:Looks (xS prog w) s.heap (mroOf (.ref C)) cd.mro:=(looks_clsIn X hcd).andThen Looks.now;have obj:Looks (xS prog w) s.heap (isInstance (.ref x) (.type "object")) vD:=I.type.andThen (looks_mroIn X top);have tk3:Looks (xS prog w) s.heap (Builtin.ObjectAttr.storeTaker? at0) r:=by
  rcases at0 with _|av
  ·cases htr;exact Looks.now
  ·obtain⟨bb,h1,h2⟩:=zN.mp htr;subst h2
   exact(looks_takesIn X h1).andThen (by cases bb<;>exact Looks.now)
 refine codeAny_call_builtin F.store_object.slot.plain F.store_object.entry (@check_slot (xS prog w) _ _ _ "object.__setattr__" "object" "__setattr__" (.ref x) [.str name tk,v] [] _ F.store_object.kind F.store_object.split obj (F.store_object.args (.ref x) (.str name tk) v) ?_);rw[osa_eq,refuse_eq];apply vW;apply vW;refine I.type.here ?_;apply vW;refine line.here ?_;rw[ZEi _ hve]
 apply v4;apply vW;refine I.type.here ?_;apply vW;refine(looks_findIn X hat).here ?_;apply vW;exact tk3.here (h _)
end
section
variable{prog:xX}{w:xq}{A:jU}{E:xY->xW->Prop}{s:xW}{K:PySem.W.Frag}{e C t:jT}{name:Str}{v:xY}
theorem ZHM{Q:Unit->xW->Prop}(X:K.In s.heap)(he:s.heap.get? e=vB (exO C vC t))
  (hs:PySem.W.findIn K (.ref C) "__setattr__"=vB (vB (.builtin "object.__setattr__"))) (hp:T9 K C=vD) (ht:PySem.W.takerIn K C name=vB vC) (hh:PySem.W.hasDictIn K C=vD)
  (h:∀h' dx tk,s.heap.objs.size<=dx->h'.get? e=vB (exO C (vB dx) t)->h'.Ns1 dx (λy=>if y=name then vB v else vC)->(∀b o,b≠e->s.heap.get? b=vB o->h'.get? b=vB o)->Q () {s with heap:=h',toks:=tk}):
  vX (xS prog w) A (setAttr (.ref e) name v) Q E s:=by
 have J:PySem.W.InstAt s.heap e (exO C vC t) C vC:=⟨he,rfl,rfl,trivial⟩;refine PySem.W.set_plain X J hs (ZJD (s:={s with toks:=s.toks+1}) (r:=vC) X J hp ht λb=>?_);obtain⟨cd,hc,hd'⟩:=PySem.W.any_some hh;refine vW (v4 (vW (vW (wpAny_loadPart he (vW (PySem.W.Looks.here (s:={s with toks:=s.toks+1}) (PySem.W.looks_clsIn X hc) ?_))))));rw[hd'];have hx1:(s.heap.push {cls:=.type "dict",data:=.dict #[]}).get? e=vB (exO C vC t):=zQ _ he
 have ne:e≠s.heap.objs.size:=zE (zY he);refine vW (wpAny_alloc' ?_);refine vW (wpAny_update' hx1 ?_);unfold dictMade;refine v4 ?_;have hgd:((s.heap.push {cls:=.type "dict",data:=.dict #[]}).update e λo=>{cls:=o.cls,dict:=vB s.heap.objs.size,data:=o.data,slots:=o.slots}).get? s.heap.objs.size=vB {cls:=.type "dict",data:=.dict #[]}:=
  (Heap.get?_update_ne _ _ _ _ ne.symm).trans (Heap.get?_push_at rfl rfl)
 have hnd:((s.heap.push {cls:=.type "dict",data:=.dict #[]}).update e λo=>{cls:=o.cls,dict:=vB s.heap.objs.size,data:=o.data,slots:=o.slots}).Ns s.heap.objs.size (λ_=>vC):=
  ⟨_,#[],_,hgd,rfl,λy hy=>absurd hy (by simp),λ_=>rfl⟩
 show vX _ _ (Builtin.ObjectAttr.storeInDict s.heap.objs.size _ name v) _ _ _;unfold Builtin.ObjectAttr.storeInDict Builtin.ObjectAttr.newKeyGuard;refine vW (v4 (vW (wpAny_nsSet1 (Heap.Ns1.of_empty hnd) λh' hn' hs'=>?_)));obtain⟨oD,esD,epD,hoD,hdD,hcD⟩:=hn'.count (Within.cons name v Within.nil);refine vW (wpAny_lookBehind hoD (by rw[hdD];exact pastItsLine_dict (zC hcD (by rw[qZ,jv,xU];lia))) ?_)
 refine v4 (h h' s.heap.objs.size _ (zW _) ?_ hn' λb o n hb=>?_)
 ·exact(hs'.2 e ne).trans (qj _ hx1 rfl)
 ·exact(hs'.2 b (zE (zY hb))).trans ((Heap.get?_update_ne _ _ _ _ n).trans (zQ _ hb))
end
structure XSet (K:PySem.W.Frag) (C:jT) (f:Str):Prop where
 ec:Jy K C=vD
 sa:PySem.W.findIn K (.ref C) "__setattr__"=vB (vB (.builtin "object.__setattr__"))
 po:T9 K C=vD
 tk:PySem.W.takerIn K C f=vB vC
 hd:PySem.W.hasDictIn K C=vD
section
variable{X:Cx}{C:jT}{f:Str}{o value:xQ}{pos pos':Pos}{ta tv:TE}
def sXf(C:jT)(f:Str)(ta tv:TE):TS:=λD σ H=>tv σ H λy H1=>ta σ H1 λx H2=>∃e,x=.ref e/\H2 e=vB (.ext (exo e C vC))/\
 ∀dx o,H2 dx=vC->dx≠e->D.nx σ (upd (upd H2 e (.ext (exo e C (vB dx)))) dx (.frz o (.xd [(f,y)])))
theorem ZM7(S:XSet X.K C f)(ha:PE X o ta)(hv:PE X value tv)(hs:swapsWith value (vB (.Attribute o f pos')) pos.line X.env=pure vE):PS X (.Assign [.Attribute o f pos'] value pos) (sXf C f ta tv):=by
 intro vA s σ H D I h;refine plainObj_wpAny_Assign_Attribute (thn (hv vA s σ H _ I h) λu s1 ⟨y,H1,I1,ry,q⟩=>thn (ha vA s1 σ H1 _ I1 q) λov s2 ⟨x,H2,I2,rx,e,ex,hx,q2⟩=>?_) hs;subst ex;obtain rfl:ov=Value.ref e:=rx;obtain⟨⟨t,hob⟩,_,_⟩:=I2.hok e _ hx;refine ZHM I2.kIn hob S.sa S.po S.tk S.hd λh' dx tk hz he' hn kp=>?_
 have fx:H2 dx=vC:=I2.hok.fresh hz;have ne:dx≠e:=λz=>by rw[z,hx]at fx;cases fx
 obtain⟨od,hod⟩:∃od,h'.get? dx=vB od:=by obtain⟨o,_,_,k,_⟩:=hn;exact⟨o,k⟩
 have J:=I2.write (t':=tk) (x:=e) (e:=e) (o:=.ext (exo e C (vB dx))) (h':=h') (by rw[hx];trivial) (.inl rfl) (λb o n k=>kp b o n k) ⟨_,he'⟩ (Zu ⟨t,he'⟩);have fx':upd H2 e (.ext (exo e C (vB dx))) dx=vC:=by unfold upd;rw[if_neg ne];exact fx
 have K2:HOk X.prog X.w (upd (upd H2 e (.ext (exo e C (vB dx)))) dx (.frz od (.xd [(f,y)]))) h':=λb ob z=>by
  by_cases zb:b=dx
  ·subst zb;have zo:ob=.frz od (.xd [(f,y)]):=by
    have z':upd (upd H2 e (.ext (exo e C (vB b)))) b (.frz od (.xd [(f,y)])) b=vB (.frz od (.xd [(f,y)])):=by unfold upd;rw[if_pos rfl]
    rw[z']at z;exact(Option.some.inj z).symm
   subst zo;refine⟨hod,_,hn,λg=>?_⟩;by_cases zg:g=f
   ·subst zg;simp[jQ];exact ry
   ·have:(g==f)=vE:=by simpa using zg
    simp[jQ,this,zg]
    trivial
  ·have z':upd H2 e (.ext (exo e C (vB dx))) b=vB ob:=by unfold upd at z⊢;rw[if_neg zb]at z;exact z
   refine(J.hok b ob z').stay (λ_ _ _ k=>k) (λb' k=>?_) λb' xs k=>?_
   ·have:b'≠dx:=λw=>by rw[w,fx']at k;cases k
    show upd _ dx _ b'=_;unfold upd at k⊢;rw[if_neg this];exact k
   ·have:b'≠dx:=λw=>by rw[w,fx']at k;cases k
    show upd _ dx _ b'=_;unfold upd at k⊢;rw[if_neg this];exact k
 have ud:∀b,b≠e->b≠dx->upd (upd H2 e (.ext (exo e C (vB dx)))) dx (.frz od (.xd [(f,y)])) b=H2 b:=λb n1 n2=>by unfold upd;rw[if_neg n2,if_neg n1]
 have U:Un X.fs [] H2 (upd (upd H2 e (.ext (exo e C (vB dx)))) dx (.frz od (.xd [(f,y)]))) s2.heap h':=by
  have nd:∀b o,s2.heap.get? b=vB o->b≠dx:=λb o k z=>by have:=zY k;rw[z]at this;exact absurd this (Nat.not_lt.mpr hz)
  have n0:∀b,H2 b=vC->b≠e:=λb k z=>by rw[z,hx]at k;cases k
  refine⟨λb o k n _ _=>kp b o (n0 b n) k,λb o k n _ _=>⟨o.slots,kp b o (n0 b n) k⟩,λb o k n _=>by rw[ud b (n0 b n) (nd b o k)];exact n,λb o k _=>?_,λb xs k=>?_,λb o u k=>?_,λb ps k=>⟨#[],?_⟩⟩
  ·by_cases z:b=e
   ·subst z;exact⟨_,he'⟩
   ·exact⟨o,kp b o z k⟩
  ·rw[ud b (λz=>by rw[z,hx]at k;cases k) (λz=>by rw[z,fx]at k;cases k)];exact k
  ·rw[ud b (λz=>by rw[z,hx]at k;cases k) (λz=>by rw[z,fx]at k;cases k)];exact k
  ·rw[ud b (λz=>by rw[z,hx]at k;cases k) (λz=>by rw[z,fx]at k;cases k)];simpa using k
 exact⟨σ,_,I2.un (t':=tk) U K2,q2 dx od fx ne⟩
end
def intS(i:Int):Prop:=i.natAbs.log2<1920/\(Str.ofString (toString i)).length<=1000
def Zb(w:V):Prop:=(∃i:Int,w=.int i/\intS i)∨w=.non
section
variable{X:Cx}{j:Nat}{v s1 s2:Str}{k1 k2 p1 p2 pv pf pos}
noncomputable def tFs(j:Nat):TE:=λσ H Q=>∃w:V,σ[j]?=vB (vB w)/\Zb w/\∀x,Q (.str x) H
theorem ZKk(hN:X.N[j]?=vB v)(hv:Vis X.env.scope v)(l1:s1.length<=1000)(l2:s2.length<=1000)(hd:(v==("__debug__":Str))=vE:=by decide)(hcd:(v==("__classdict__":Str))=vE:=by decide):
  PE X (.JoinedStr [.Constant (.str s1) k1 p1,.FormattedValue (.Name v pv) (-1) vC pf,.Constant (.str s2) k2 p2] pos) (tFs j):=by
 intro vA s σ H Q I h;obtain⟨w,hσ,hw,q⟩:=h;have la:∀a b:Str,(a++b).length=a.length+b.length:=λa b=>by show(Str.append a b).length=_;unfold Str.append Str.length;simp
 have sz:∀n,n<=1000000->n<=sizeLine:=λn h=>by rw[xU];lia
 refine JoinedStr_many (joinParts_cons (thn (Vh (X:=X) vA s σ H (λx H'=>x=.str s1/\H'=H) I ⟨rfl,rfl⟩) λu s1' h1=>?_));obtain⟨x,H1,I1,rx,rfl,rfl⟩:=h1;obtain⟨t0,rfl⟩:=rx;refine⟨sz _ (by rw[la];show 0+_<=_;lia),?_⟩;refine joinParts_cons (FormattedValue_plain (thn (Ol (pos:=pv) hN hv hd hcd vA s1' σ H1 (λx H'=>x=w/\H'=H1) I1 ?_) λu s2' h1=>?_))
 ·exact⟨w,hσ,rfl,rfl⟩
 obtain⟨x,H2,I2,rx,rfl,rfl⟩:=h1;rcases hw with⟨i,rfl,hi,ls⟩|rfl
 ·obtain⟨t1,rfl⟩:=rx;refine formatField_int_small hi ⟨sz _ (by rw[la,la];show 0+_+_<=_;lia),?_⟩;refine joinParts_consE (joinParts_cons (thn (Vh (X:=X) vA _ σ H2 (λx H'=>x=.str s2/\H'=H2) (I2.tok _) ⟨rfl,rfl⟩) λu s3' h1=>?_));obtain⟨x,H3,I3,rx,rfl,rfl⟩:=h1;obtain⟨t2,rfl⟩:=rx;refine⟨sz _ (by rw[la,la,la];show 0+_+_+_<=_;lia),?_⟩;exact joinParts_nilE (joinParts_nil ⟨.str _,H3,I3.tok _,⟨_,rfl⟩,q _⟩ (sz _ (by rw[la,la,la];show 0+_+_+_<=_;lia)))
 ·cases(show u=Value.none from rx)
  have ls:(Str.ofString "None").length<=1000:=by decide
  refine wpAny_formatField_none ⟨sz _ (by rw[la,la];show 0+_+_<=_;lia),?_⟩;refine joinParts_consE (joinParts_cons (thn (Vh (X:=X) vA _ σ H2 (λx H'=>x=.str s2/\H'=H2) (I2.tok _) ⟨rfl,rfl⟩) λu s3' h1=>?_));obtain⟨x,H3,I3,rx,rfl,rfl⟩:=h1;obtain⟨t2,rfl⟩:=rx;refine⟨sz _ (by rw[la,la,la];show 0+_+_+_<=_;lia),?_⟩;exact joinParts_nilE (joinParts_nil ⟨.str _,H3,I3.tok _,⟨_,rfl⟩,q _⟩ (sz _ (by rw[la,la,la];show 0+_+_+_<=_;lia)))
end
def spI(C:jT)(f:Str):Sp:=λvs H Q _=>∃(e:jT)(i:V),vs=[.ref e,i]/\Zb i/\H e=vB (.ext (exo e C vC))/\∀dx o,H dx=vC->dx≠e->Q .non (upd (upd H e (.ext (exo e C (vB dx)))) dx (.frz o (.xd [(f,i)])))
structure XBase (K:PySem.W.Frag) (mg:Str->Option xY) (x:Str) (W:jT):Prop where
 m:mg x=vB (.ref W)
 s:PySem.W.specialIn K (.ref W) "__getattribute__"=vB (vB (.builtin "type.__getattribute__"))
 r:PySem.W.readsIn K W (.type "type")=vD
 f:PySem.W.findCls K (.ref W) (.type "type") "__init__"=vB (.val (.builtin "ValueError.__init__"))
theorem ZJ2{K:PySem.W.Frag}{x xw v f s1 s2:Str}{fa W:jT}{pw pa pc pe p1 p2 p3 p4 p5 p6 p7 p8 pv pf:Pos}{k1 k2}
  (F:Fun K x qual st fa fd) (S:FnScope ["self",v] ["self",v] (Aq st)) (XS:XSet K C f) (XB:XBase K mg xw W)
  (hb:Dg st=[.Expr (.Call (.Attribute (.Name xw pw) "__init__" pa) [.Name "self" p1,.JoinedStr [.Constant (.str s1) k1 p2,.FormattedValue (.Name v pv) (-1) vC pf,.Constant (.str s2) k2 p3] p4] [] pc) pe,.Assign [.Attribute (.Name "self" p5) f p6] (.Name v p8) p7])
  (l1:s1.length<=1000) (l2:s2.length<=1000) (hgl:(Aq st).names.lookup xw=vB .globalImplicit) (hdw:(xw==("__debug__":Str))=vE) (hdv:(v==("__debug__":Str))=vE) (hcv:(v==("__classdict__":Str))=vE)
  (hvs:Vis (Aq st) "self") (hvv:Vis (Aq st) v)
  (hev:∀env:Env,∃pl:Sem Bool,eval (.Call (.Attribute (.Name xw pw) "__init__" pa) [.Name "self" p1,.JoinedStr [.Constant (.str s1) k1 p2,.FormattedValue (.Name v pv) (-1) vC pf,.Constant (.str s2) k2 p3] p4] [] pc) env=(do
   let ov<-eval (.Name xw pw) env
   standAt pa.atName
   let(f,first)<-holding [ov] (getMethod ov "__init__" pl)
   callWith pc f first (xk pc (vZ [.Name "self" p1,.JoinedStr [.Constant (.str s1) k1 p2,.FormattedValue (.Name v pv) (-1) vC pf,.Constant (.str s2) k2 p3] p4] env)) (xy pc (xO [] env)))):
  FnOk P w K mg base CX0 (k+1) fa fd ["self",v] (spI C f):=by
 refine F.ok S (λvs H Q E ⟨e,i,z,_⟩=>by rw[z];rfl) (λcdv A outer s H vs Q E hr h=>?_);obtain⟨e,i,rfl,hi,hx,q⟩:=h;rw[hb];generalize hX:(Fw CX0 P w K mg base ["self",v] qual (Aq st) fa cdv A outer s H E).nox=X;have hK:X.K=K:=by rw[<-hX];rfl
 have hm:X.mg=mg:=by rw[<-hX];rfl
 have hN:X.N=(["self",v]:List Str):=by rw[<-hX];rfl
 have hs:X.env.scope=Aq st:=by rw[<-hX];rfl
 have pself:∀p,PE X (.Name "self" p) (Lr 0):=λp=>Ol (by rw[hN];rfl) (by rw[hs];exact hvs) (by decide) (by decide)
 have pv':∀p,PE X (.Name v p) (Lr 1):=λp=>Ol (by rw[hN];rfl) (by rw[hs];exact hvv) hdv hcv
 have hG:Gl X xw:=by unfold Gl;rw[<-hX];exact hgl
 obtain⟨pl,hpl⟩:=hev X.env;have c1:PE X (.Call (.Attribute (.Name xw pw) "__init__" pa) [.Name "self" p1,.JoinedStr [.Constant (.str s1) k1 p2,.FormattedValue (.Name v pv) (-1) vC pf,.Constant (.str s2) k2 p3] p4] [] pc) (tBI C (Qn (Lr 0) (Qn (tFs 1) Pz))):=
  ZK5 (mc:=.type "type") (W:=W) (by rw[hK];exact XS.ec) hG (by rw[hm];exact XB.m) (by rw[hK];exact XB.s) (by rw[hK];exact XB.r) (by rw[hK];exact XB.f) (ZBD (pself p1) (ZBD (ZKk (by rw[hN];rfl) (by rw[hs];exact hvv) l1 l2 hdv hcv) ZDE)) hdw rfl rfl hpl
 have c2:PS X (.Assign [.Attribute (.Name "self" p5) f p6] (.Name v p8) p7) (sXf C f (Lr 0) (Lr 1)):=ZM7 (by rw[hK];exact XS) (pself p5) (pv' p8) rfl;refine⟨_,ZGR (ZE7 c1 rfl) (ZCI c2),?_⟩;refine⟨.ref e,rfl,i,rfl,hi,λxx=>⟨e,_,rfl,hx,?_⟩⟩;exact⟨i,rfl,.ref e,rfl,e,rfl,hx,q⟩
section
variable{M:Model}{A:jU}{E:xY->xW->Prop}{env:Env}
variable{nm q:Str}{C N:jT}{bs bm:List xY}{hdct:Bool}{sn:List Str}{sub:List xY}{ab:Bool}{col:Option Bool}{dd:Option jT}{k0 k1 k2 k3 k5:Option xY}{newId:String}
theorem ZL6{x:Sem xY}{Q:Flow->xW->Prop}(hh:A.handled=vC)
  (h:vX M A x (λv s₁=>∃e od t bm N nm q bs hdct sn sub ab col dd k0 k1 k2 k3 k5 newId,v=.ref e/\s₁.heap.get? C=vB (excClassObj nm q C N bs bm hdct sn sub ab col dd k0 k1 k2 k3 k5 newId)/\bm.contains (.type "BaseException")=vD/\
   s₁.heap.get? e=vB {cls:=.ref C,dict:=od,data:=.fields #[.ref t,.none,.none,.none,.bool vE,.none]}/\E (.ref e) s₁) E s):vX M A (raiseStmt env (vB x) vC) Q E s:=by
 unfold raiseStmt;refine vW (vj h (λv s₁ h₁=>?_) λ_ _ x=>x);obtain⟨e,od,t,bm,N,nm,q,bs,hdct,sn,sub,ab,col,dd,k0,k1,k2,k3,k5,newId,rfl,hC,hb,he,hE⟩:=h₁;have hcB:(Value.ref C::bm).contains (.type "BaseException")=vD:=by rw[List.contains_cons,hb,Bool.or_true]
 obtain⟨hp,g,d,tk,os⟩:=s₁
 repeat (first|with_reducible refine wpAny_loadPart_at he ?_|with_reducible refine wpAny_loadPart_at hC ?_|(with_reducible refine wpAny_isSubtype_exc hC ?_;rw[hcB])|wp_step)
 exact wpAny_raiseNew_none hh hE
theorem ZG3{x:xQ}{pos:Pos}{Q:Flow->xW->Prop}(hh:A.handled=vC)
  (h:vX M A (eval x env) (λv s₁=>∃e od t bm N nm q bs hdct sn sub ab col dd k0 k1 k2 k3 k5 newId,v=.ref e/\s₁.heap.get? C=vB (excClassObj nm q C N bs bm hdct sn sub ab col dd k0 k1 k2 k3 k5 newId)/\bm.contains (.type "BaseException")=vD/\
   s₁.heap.get? e=vB {cls:=.ref C,dict:=od,data:=.fields #[.ref t,.none,.none,.none,.bool vE,.none]}/\E (.ref e) s₁) E s):vX M A (exec (.Raise (vB x) vC pos) env) Q E s:=by
 rw[arm_exec_Raise];refine vW (wpAny_standAt (ZL6 (C:=C) hh ?_));exact vW (vj h (λv s₃ h₃=>vW (wpAny_standAt (v4 h₃))) λ_ _ x=>x)
end
section
variable{X:Cx}{C fI:jT}{f x:Str}{np cpos pos:Pos}{a:xQ}{ta:TA}{E:XK}{k:Nat}{fd:xZ}{v:Str}
def tRz(C:jT)(f:Str)(E:XK)(ta:TA):TS:=λ_ σ H=>ta σ H λvs H1=>∃i:V,vs=[i]/\Zb i/\∀dx o,H1 dx=vC->E (.ref C) (vB dx) (upd H1 dx (.frz o (.xd [(f,i)])))
theorem ZOh(hcalm:X.calm=vD)(hs:X.stack=X.env::X.outer)(hex:X.ex=[])(hfr:X.env.frame=vB X.env.locals)(hxe:∀e s,Kc X E e s->X.xe e s)
  (XS:XSet X.K C f) (hi:Ln X.K C fI=vD) (hfn:∃o,X.K.lookup fI=vB o/\o.cls=.type "function") (F:FnOk X.prog X.w X.K X.mg X.base CX0 k fI fd ["self",v] (spI C f)) (hr:Room (k+1) X.A) (hb:Binds X.K fd ["self",v] [])
  (hg:Gl X x) (hm:X.mg x=vB (.ref C)) (hk:PySem.W.keepIn X.K (.ref C)=vD) (ha:PA X [a] ta) (hdb:(x==("__debug__":Str))=vE:=by decide)
  (he:vZ [a] X.env=(vE,eval a X.env)::vZ [] X.env:=by rfl) (hpl:(xk cpos (vZ [] X.env)).any (·.1)=vE:=by rfl):
  PS X (.Raise (vB (.Call (.Name x np) [a] [] cpos)) vC pos) (tRz C f E ta):=by
 intro vA s σ H D I h;refine ZG3 (C:=C) (I.ok.hd hcalm) ?_;refine vV (Ld I hg hm ?_ hdb);refine PySem.W.callWith_K (h₀:=X.base) I.ok.mod.kin hk (thn (ha cpos vA s σ H _ I h) λus s1 ⟨vs,H1,I1,r,i,ev,hi',q⟩=>⟨I1.kIn,?_⟩) he hpl;subst ev;obtain⟨bm,N,nm,qn,bs,sn,sub,ab,col,dd,k0,k1,k2,k3,k5,hcl,T,m,hN,hin⟩:=Ph I1.kIn XS.ec;obtain⟨oI,hfI,hfc⟩:=hfn;have hfI:=I1.kIn _ _ hfI;have hl1:us.length<=sizeLine:=by rw[<-r.length,xU];show 1<=_;decide
 obtain⟨hp,g,d,tk,os⟩:=s1;have FB:=PySem.F.excBase_ValueError;refine ZJh FB T hcl hN (hin fI hi) hfI hfc (λh' e hm' hz=>?_) hl1;obtain⟨t,ht,_,_⟩:=hm'.there;have ho:exo e C vC h':=⟨t,ht⟩;have I2:=I1.laid (t':=tk) (a:=e) (o:=.ext (exo e C vC)) (h':=h') hm'.keeps hz (Zu ho);have fe:H1 e=vC:=I1.hok.fresh hz;obtain⟨u,rfl⟩:∃u,us=[u]:=by
  cases r with
  |cons r1 r2=>cases r2;exact⟨_,rfl⟩
 have r2:Vals [V.ref e,i] [Value.ref e,u]:=.cons rfl r;have h2e:upd H1 e (.ext (exo e C vC)) e=vB (.ext (exo e C vC)):=by unfold upd;rw[if_pos rfl]
 have h2n:∀b,b≠e->upd H1 e (.ext (exo e C vC)) b=H1 b:=λb n=>by unfold upd;rw[if_neg n]
 refine wpAny_call (xD (F.run _ X.stack _ _ ⟨[Value.ref e,u],[]⟩ [Value.ref e,u] [V.ref e,i] (λw H3=>w=.non/\∃dx o,H1 dx=vC/\dx≠e/\H3=upd (upd (upd H1 e (.ext (exo e C vC))) e (.ext (exo e C (vB dx)))) dx (.frz o (.xd [(f,i)]))) E0 (hr.make C [u] [])
  (I2.env0.make C [u] []) (by simpa using hb _ [Value.ref e,u] I2.kIn rfl) r2 ⟨e,i,rfl,hi',h2e,λdx o n1 n2=>⟨rfl,dx,o,by rw[<-h2n dx n2];exact n1,n2,rfl⟩⟩) λr s' hq'=>?_)
 cases r with
 |error e=>exact hq'.elim
 | ok fl=>
  cases fl with
  |next=>exact False.elim hq'
  |brk=>exact False.elim hq'
  |cont=>exact False.elim hq'
  | ret w=>
   obtain⟨_,_,I3,_⟩:=I2.after hq';obtain⟨vw,H3,os',bare',un,hok,rw',rfl,dx,o,nd,ne,rfl⟩:=hq';refine⟨rw',?_⟩;have hd3:∀b,b≠e->upd (upd (upd H1 e (.ext (exo e C vC))) e (.ext (exo e C (vB dx)))) dx (.frz o (.xd [(f,i)])) b=upd H1 dx (.frz o (.xd [(f,i)])) b:=λb n=>by
    unfold upd;split
    ·rfl
    ·simp[n]
   have he3:upd (upd (upd H1 e (.ext (exo e C vC))) e (.ext (exo e C (vB dx)))) dx (.frz o (.xd [(f,i)])) e=vB (.ext (exo e C (vB dx))):=by unfold upd;rw[if_neg (Ne.symm ne),if_pos rfl]
   have feN:upd H1 dx (.frz o (.xd [(f,i)])) e=vC:=by unfold upd;rw[if_neg (Ne.symm ne)];exact fe
   obtain⟨⟨t',ht'⟩,_,_⟩:=hok e _ he3;obtain⟨bm',N',nm',qn',bs',sn',sub',ab',col',dd',l0,l1,l2,l3,l5,hcl',T',_⟩:=Ph I3.kIn XS.ec;have ne':∀b o,hp.get? b=vB o->b≠e:=λb o k z=>by rw[z,hm'.new]at k;cases k
   have mk:Made X H1 ⟨hp,g,d,tk,os⟩ e (.ref C) (vB dx) s' (upd H1 dx (.frz o (.xd [(f,i)]))):=by
    refine⟨os',bare',⟨λb o k n hb hx=>un.keep b o (hm'.keeps b o k) (by rw[h2n b (ne' b o k)];exact n) hb hx,λb o k n hb hx=>un.slot b o (hm'.keeps b o k) (by rw[h2n b (ne' b o k)];exact n) hb hx,λb o k n hx=>?_,λb o k hx=>un.there b o (hm'.keeps b o k) hx,λb xs k=>?_,λb o u k=>?_,λb ps k=>?_⟩,λb ob z=>?_,⟨_,_,ht',rfl,rfl,rfl,rfl⟩,feN,hm'.new⟩
    ·rw[<-hd3 b (ne' b o k)];exact un.free b o (hm'.keeps b o k) (by rw[h2n b (ne' b o k)];exact n) hx
    ·have nb:b≠e:=λz=>by rw[z,fe]at k;cases k
     rw[<-hd3 b nb];exact un.tups b xs (by rw[h2n b nb];exact k)
    ·have nb:b≠e:=λz=>by rw[z,fe]at k;cases k
     rw[<-hd3 b nb];exact un.frzs b o u (by rw[h2n b nb];exact k)
    ·have nb:b≠e:=λz=>by rw[z,fe]at k;cases k
     rw[<-hd3 b nb];exact un.tbls b ps (by rw[h2n b nb];exact k)
    ·have nb:b≠e:=λz'=>by rw[z',feN]at z;cases z
     rw[<-hd3 b nb]at z;refine(hok b ob z).stay (λ_ _ _ k=>k) (λb' k=>?_) λb' xs k=>?_
     ·rw[<-hd3 b' (λz'=>by rw[z',he3]at k;cases k)];exact k
     ·rw[<-hd3 b' (λz'=>by rw[z',he3]at k;cases k)];exact k
   exact⟨e,vB dx,t',bm',N',nm',qn',bs',vD,sn',sub',ab',col',dd',l0,l1,l2,l3,l5,_,rfl,hcl',T'.hasType FB.hasBase,ht',hxe _ _ (ZK2 hs hex hfr I1 mk (q dx o nd) ⟨C,rfl⟩)⟩
end
section
variable{X:Cx}{vA:List (jT×Obj)}{σ:St}{H H':Hp}{s s':xW}{B h'':Heap}{ea:jT}{cls:xY}{od:Option jT}{E:XK}{fl:xY}
theorem ZI8(I:Inv X vA σ H s)(os:s'.os=s.os)(bare:AllBare s'.gens)(un:Un (frs X.stack) [] H H' s.heap s'.heap)(hok:HOk X.prog X.w H' s'.heap)
  (bb:∀b o,s.heap.get? b=vB o->H b=vC->b∉frs X.stack->B.get? b=vB o) (al:∀b,H' b≠vC->∃o,B.get? b=vB o) (eb:B.get? ea=vC) (st:B.StaysIn s'.heap) (new:s.heap.get? ea=vC)
  (n:Noted B X.stack ea cls od fl s'.heap h''):∃oe vs,h''.get? ea=vB oe/\oe.cls=cls/\oe.dict=od/\oe.data=.fields vs/\H' ea=vC/\Inv X vA σ (upd H' ea (.frz oe (.own 0))) {s' with heap:=h''}:=by
 obtain⟨oe,vs,T,oT,ts,he,⟨hc,hd⟩,hda,_⟩:=n.tr;have fe:H' ea=vC:=by
  cases z:H' ea with
  |none=>rfl
  |some u=>
   obtain⟨o,k⟩:=al ea (by rw[z];simp);rw[eb]at k;cases k
 have ud:∀b,b≠ea->upd H' ea (.frz oe (.own 0)) b=H' b:=λb k=>by unfold upd;rw[if_neg k]
 have ns:∀b o,s.heap.get? b=vB o->b≠ea:=λb o k z=>by rw[z,new]at k;cases k
 have hk:=ZDi hok al st n.st;refine⟨oe,vs,he,hc,hd,hda,fe,I.call' (ch:=[]) os ⟨λb o q hn hb _=>n.st b o (bb b o q hn hb),λb o q hn hb _=>?_,λb o q hn hx=>?_,λb o q hx=>?_,λb xs q=>?_,λb o u q=>?_,λb ps q=>?_⟩ (λb ob z=>?_) bare λb z=>absurd z (by simp)⟩
 ·obtain⟨sl,k⟩:=un.slot b o q hn hb (by simp);obtain⟨_,o2,k2,nf⟩:=I.stack.mem hb;rw[q]at k2;cases k2;obtain⟨sl',k3⟩:=n.up b _ k nf;exact⟨sl',k3⟩
 ·rw[ud b (ns b o q)];exact un.free b o q hn hx
 ·obtain⟨o1,k1⟩:=un.there b o q hx;exact n.th b o1 k1
 ·have:=un.tups b xs q;rw[ud b (λz=>by rw[z,fe]at this;cases this)];exact this
 ·have:=un.frzs b o u q;rw[ud b (λz=>by rw[z,fe]at this;cases this)];exact this
 ·obtain⟨m,this⟩:=un.tbls b ps q;exact⟨m,by rw[ud b (λz=>by rw[z,fe]at this;cases this)];exact this⟩
 ·by_cases zb:b=ea
  ·subst zb;have zo:ob=.frz oe (.own 0):=by unfold upd at z;rw[if_pos rfl]at z;exact(Option.some.inj z).symm
   subst zo;exact⟨he,oe,he⟩
  ·rw[ud b zb]at z;refine(hk b ob z).stay (λ_ _ _ k=>k) (λb' k=>?_) λb' xs k=>?_
   ·rw[ud b' (λz'=>by rw[z',fe]at k;cases k)];exact k
   ·rw[ud b' (λz'=>by rw[z',fe]at k;cases k)];exact k
theorem lands(hs:X.stack=X.env::X.outer)(hfr:X.env.frame=vB X.env.locals)(I:Inv X vA σ H s){e:xY}(h:CXx X.prog X.w X.stack H s E e s'){Q:Unit->xW->Prop}{E':xY->xW->Prop}
  (q:∀(ea:jT)(C:xY)(od:Option jT)(H':Hp)(oe:Obj)(vs:Array xY)(h'':Heap),e=.ref ea->h''.get? ea=vB oe->oe.cls=C->oe.dict=od->oe.data=.fields vs->E C od H'->H' ea=vC->Inv X vA σ (upd H' ea (.frz oe (.own 0))) {s' with heap:=h''}->
   (∃B:Heap,Trc h'' B ea C od .none)->(∃C',C=.ref C')->Q () {s' with heap:=h''}):
  vX (xS X.prog X.w) X.A (noteFrame e X.env) (λ_ s2=>vX (xS X.prog X.w) X.A (setFlight e vC) Q E' s2) E' s':=by
 obtain⟨ea,cls,od,H',B,rfl,os,bare,un,hok,fly,bb,new,hE,hcC⟩:=h;have ff:=fly.fr;rw[hs]at ff;refine ZF7 (B:=B) (L:=X.env.locals) (outer:=X.outer) (by rw[I.ok.frames,hs]) ff hfr fly.tr fly.st fly.eb λh1 n1=>?_
 refine Wn n1.fr n1.tr n1.st λh2 n2=>?_
 have n:=n1.trans n2;rw[<-hs]at n;obtain⟨oe,vs,he,hc,hd,hda,fe,J⟩:=ZI8 I os bare un hok bb fly.al fly.eb fly.st new n;exact q ea cls od H' oe vs h2 rfl he hc hd hda hE fe J ⟨B,n.tr⟩ hcC
end
section
variable{M:Model}{A:jU}{E:xY->xW->Prop}{h:Heap}{g:Array GenState}{d:Drawn}{t:Nat}{os:OsState}
theorem ZIg{W e:jT}{oe:Obj}{b:Bool}{nm q:Str}{N:jT}{bs bm:List xY}{hdct:Bool}{sn:List Str}{sub:List xY}{ab:Bool}{col:Option Bool}{dd:Option jT}{k0 k1 k2 k3 k5:Option xY}{newId:String}
  {nm' q':Str} {N':jT} {bs' bm':List xY} {hdct':Bool} {sn':List Str} {sub':List xY} {ab':Bool} {col':Option Bool} {dd':Option jT} {l0 l1 l2 l3 l5:Option xY} {newId':String} {Q:Bool->xW->Prop}
  (hC:h.get? C=vB (excClassObj nm q C N bs bm hdct sn sub ab col dd k0 k1 k2 k3 k5 newId)) (hW:h.get? W=vB (excClassObj nm' q' W N' bs' bm' hdct' sn' sub' ab' col' dd' l0 l1 l2 l3 l5 newId')) (he:h.get? e=vB oe) (hc:oe.cls=.ref C)
  (hb:bm'.contains (.type "BaseException")=vD) (hin:(Value.ref C::bm).contains (.ref W)=b) (hq:Q b ⟨h,g,d,t,os⟩):vX M A (excMatches (.ref e) (.ref W)) Q E ⟨h,g,d,t,os⟩:=by
 have hcB:(Value.ref W::bm').contains (.type "BaseException")=vD:=by rw[List.contains_cons,hb,Bool.or_true]
 have f:=tc_notTuple;unfold excMatches
 repeat (first|(with_reducible refine wpAny_loadPart_at he ?_;rw[hc])|with_reducible refine wpAny_loadPart_at hW ?_|(with_reducible refine wpAny_isSubtype_exc hW ?_;rw[hcB])|(with_reducible refine wpAny_isSubtype_exc hC ?_;rw[hin])|wp_step)
 cases b<;>(wp_walk;exact hq)
theorem ZJN{B:Heap}{e:jT}{Q:Unit->xW->Prop}(ht:Trc s.heap B e cls od .none)(q:∀h',(∀b o,s.heap.get? b=vB o->h'.get? b=vB o)->Q () {s with heap:=h'}):vX M A (setFlight (.ref e) vC) Q E s:=by
 obtain⟨oe,vs,T,oT,ts,he,_,hd,h1,⟨nT,nTe⟩,hT,dT,h3⟩:=ht;unfold setFlight;refine vW (vq he hd h1 ?_)
 rw[if_pos (show(Value.ref T != Value.none)=vD from by simp)]
 refine wpAny_setField hT dT (qV.mp h3).1 (q _ λb o k=>?_);by_cases z:b=T
 ·subst z;rw[hT]at k;cases k;rw[qj _ hT (Obj.isFreed_of_fields (Obj.data_mapFields dT _))];obtain⟨c,dd,dt,sl⟩:=oT;obtain rfl:dt=.fields ts:=dT;unfold Obj.mapFields;dsimp only
  congr 2
  have:ts.setIfInBounds 3 Value.none=ts:=by
   refine Array.ext_getElem? λi=>?_
   rw[Array.getElem?_setIfInBounds];split
   ·rename_i z;subst z;rw[if_pos (qV.mp h3).1,h3]
   ·rfl
  exact congrArg _ this
 ·rw[qk _ _ (Ne.symm z)];exact k
end
section
variable{X:Cx}{vA:List (jT×Obj)}{σ:St}{H:Hp}{s:xW}
theorem Uh{M:Model}{E:xY->xW->Prop}{i:Nat}{n:Str}{pos:Pos}{Q:Unit->xW->Prop}(I:Inv X vA σ H s)(hN:X.N.Nodup)(hi:X.N[i]?=vB n)(hk:X.env.kindOf n=vB .local)
  (q:∀s',Inv X vA (σ.set i vC) H s'->Q () s'):vX M A (do bindName X.env n .none;unbindBehindTheSuite X.env n pos) Q E s:=by
 obtain⟨m,hn,hl⟩:=I.loc;have hp:(X.env.scope.kind == .class||(X.env.scope.kind == .module&&X.env.locals != X.env.globals))=vE:=by rw[I.ok.kind];rfl
 refine wpAny_nameGoes_keeps hk hn hp λh' v hn' hs=>q _ ?_
 have neL:∀b o,X.s₀.heap.get? b=vB o->b≠X.env.locals:=λb o e=>zE (zV (zY e) I.ok.above)
 refine⟨I.ok,I.os,I.bare,⟨λb o e nn hb hx=>(hs.2 b (neL b o e)).trans (I.base.keep b o e nn hb hx),λb o e nn hb hx=>?_,I.base.free,λb o e hx=>?_,I.base.tups,I.base.frzs,I.base.tbls⟩,⟨_,hn',λj y v' e1 e2 e3=>?_⟩,λy c e=>?_,I.free,I.Gd,λp hp=>?_,?_,by rw[jz];exact I.len⟩
 ·obtain⟨sl,e1⟩:=I.base.slot b o e nn hb hx;exact⟨sl,(hs.2 b (neL b o e)).trans e1⟩
 ·obtain⟨o',e1⟩:=I.base.there b o e hx;exact⟨o',(hs.2 b (neL b o e)).trans e1⟩
 ·have hj:j≠i:=λz=>by
   subst z;rw[qL]at e2;split at e2
   ·split at e2<;>cases e2
   ·rename_i z;exact z rfl
  rw[q9 (Ne.symm hj)]at e2;obtain⟨u',r',z⟩:=hl j y v' e1 e2 e3;refine⟨u',r',?_⟩;rcases z with⟨k,e⟩|⟨k,c,e,z⟩
  ·refine .inl ⟨k,?_⟩;have:y≠n:=λe=>hj (ZA3 hN e1 (e▸hi))
   simp[this,e]
  ·exact .inr ⟨k,c,e,z.sameBut hs (I.cne y c e)⟩
 ·obtain⟨w',z⟩:=I.cell y c e;exact⟨w',z.sameBut hs (I.cne y c e)⟩
 ·obtain⟨e,nn,ne,nf,d⟩:=I.pin p hp;exact⟨(hs.2 p.1 ne).trans e,nn,ne,nf,d⟩
 ·exact λa o e=>(I.hok a o e).stay (λb u hb k=>(hs.2 b (λz=>by
   rcases hb with rfl|hb
   ·rw[z,I.free]at e;cases e
   ·rw[z,I.free]at hb;cases hb)).trans k) (λ_ k=>k) λ_ _ k=>k
end
noncomputable def Jh(X:Cx)(ea:jT):Cx:={X with A:=X.A.mark (vB (.ref ea)),calm:=vE,xe:=λ_ _=>False}
section
variable{X:Cx}{vA:List (jT×Obj)}{σ:St}{H:Hp}{s:xW}{ea:jT}
theorem ZFF(I:Inv X vA σ H s):Inv (Jh X ea) vA σ H s:=
 ⟨⟨I.ok.mod,I.ok.kind,I.ok.glob,I.ok.blt,I.ok.above,I.ok.inj,I.ok.has,I.ok.cab,λz=>absurd z (by simp[Jh]),I.ok.frames,I.ok.stk,I.ok.exf,I.ok.bs,I.ok.bsz,I.ok.noex,I.ok.exfs,I.ok.funs,I.ok.frf⟩,I.os,I.bare,I.base,I.loc,I.cell,I.free,I.Gd,I.pin,I.hok,I.len⟩
theorem U8{calm:X.calm=vD}(hh:X.A.handled=vC)(I:Inv (Jh X ea) vA σ H s):Inv X vA σ H s:=
 ⟨⟨I.ok.mod,I.ok.kind,I.ok.glob,I.ok.blt,I.ok.above,I.ok.inj,I.ok.has,I.ok.cab,λ_=>hh,I.ok.frames,I.ok.stk,I.ok.exf,I.ok.bs,I.ok.bsz,I.ok.noex,I.ok.exfs,I.ok.funs,I.ok.frf⟩,I.os,I.bare,I.base,I.loc,I.cell,I.free,I.Gd,I.pin,I.hok,I.len⟩
end
section
variable{X:Cx}{f W:jT}{fn x n:Str}{fp cp ep np hp pos:Pos}{a:xQ}{es:List xQ}{ta:TA}{sp:Sp}{k i:Nat}{fd:xZ}{ps:List Str}{b₀:xK}{suite:List xK}{th:TS}
def takes(K:PySem.W.Frag)(C W:jT):Bool:=Jy K C&&Jy K W&&match K.lookup C with
 |some ⟨_,_,.cls cd,_⟩=>cd.mro.contains (.ref W)
 |_=>vE
def tTry(K:PySem.W.Frag)(W:jT)(i:Nat)(sp:Sp)(ta:TA)(th:TS):TS:=λD σ H=>ta σ H λvs H1=>sp vs H1 (λ_ H2=>D.nx σ H2) λcls od H'=>cls=.none∨∃C,cls=.ref C/\takes K C W=vD/\
 ∀(ea:jT)(oe:Obj)(vs:Array xY),H' ea=vC->oe.cls=.ref C->oe.dict=od->oe.data=.fields vs->th {nx:=λσ2 H2=>D.nx (σ2.set i vC) H2,rt:=D.rt,bk:=λσ2 H2=>D.bk (σ2.set i vC) H2,ct:=λσ2 H2=>D.ct (σ2.set i vC) H2} (σ.set i (vB (.ref ea))) (upd H' ea (.frz oe (.own 0)))
theorem ZJ3(hcalm:X.calm=vD)(hs:X.stack=X.env::X.outer)(hfr:X.env.frame=vB X.env.locals)(F:FnOk X.prog X.w X.K X.mg X.base (CXx X.prog X.w) k f fd ps sp)(hr:Room k X.A)(hb:Binds X.K fd ps [])(hg:Gl X fn)(hm:X.mg fn=vB (.ref f))
  (hk:PySem.W.keepIn X.K (.ref f)=vD) (ha:PA X.nox (a::es) ta) (hgx:Gl X x) (hmx:X.mg x=vB (.ref W)) (hN:X.N.Nodup) (hi:X.N[i]?=vB n) (hl:X.env.kindOf n=vB .local)
  (hh:∀ea,PSs (Jh X ea) (b₀::suite) th)
  (hdb:(fn==("__debug__":Str))=vE:=by decide) (hdx:(x==("__debug__":Str))=vE:=by decide) (he:vZ (a::es) X.env=(vE,eval a X.env)::vZ es X.env:=by rfl) (hpl:(xk cp (vZ es X.env)).any (·.1)=vE:=by rfl)
  (hsw:swapsWith (.Call (.Name fn fp) (a::es) [] cp) vC ep.line X.env=pure vE:=by rfl):
  PS X (.Try [.Expr (.Call (.Name fn fp) (a::es) [] cp) ep] [.ExceptHandler (vB (.Name x np)) (vB n) (b₀::suite) hp] [] [] pos) (tTry X.K W i sp ta th):=by
 intro vA s σ H D I h;refine wpAny_Try_except (wpAny_execs_cons (wpAny_Expr_any ?_ I.quiet hsw));refine vV (Ld I hg hm ?_ hdb);refine PySem.W.callWith_K (h₀:=X.base) I.ok.mod.kin hk (vj (ha cp vA s σ H _ (I.wish _) h) (λus s1 ⟨vs,H1,I1,r,q⟩=>⟨I1.kIn,?_⟩) λ_ _ z=>z.elim) he hpl;have I1':=I1.unwish;have hlen:(us++[]).length=ps.length:=by rw[q8,<-r.length];exact F.len _ _ _ _ q
 refine wpAny_call (xD (F.run X.A X.stack s1 H1 ⟨us,[]⟩ us vs _ _ hr I1'.env0 (by have:=hb s1 us I1'.kIn hlen;rwa[q8]at this) r q) λr s' hq=>?_);cases r with
 | ok fl=>
  cases fl with
  |next=>exact False.elim hq
  |brk=>exact False.elim hq
  |cont=>exact False.elim hq
  |ret u=>
   obtain⟨v,H2,I2,rv,q2⟩:=I1'.after hq;exact wpAny_execs_nil (wpAny_execs_nil ⟨σ,H2,I2,q2⟩)
 | error e=>
  refine lands hs hfr I1' hq λea C od H' oe vs' h'' ee ho hc hd hda hE fe J tr hcC=>?_
  subst ee;rcases hE with z|⟨C',hC',ht,hE⟩
  ·obtain⟨C2,z2⟩:=hcC;rw[z]at z2;cases z2
  subst hC';obtain⟨B,tr⟩:=tr;have hcalm':=I.ok.hd hcalm;unfold takes at ht;simp only[zB]at ht;obtain⟨⟨t1,t2⟩,t3⟩:=ht;obtain⟨bm,N,nm,qn,bs,sn,sub,ab,col,dd,k0,k1,k2,k3,k5,hcl,T,_⟩:=Ph J.kIn t1;obtain⟨bm',N',nm',qn',bs',sn',sub',ab',col',dd',l0,l1,l2,l3,l5,hcl',T',_⟩:=Ph J.kIn t2;have hin:(Value.ref C'::bm).contains (.ref W)=vD:=by
   split at t3
   ·rename_i c0 d0 cd sl0 ho';have:=J.kIn _ _ ho';rw[hcl]at this;cases this;exact t3
   ·cases t3
  refine wpAny_handleBy_cons (codeAny_handlers_test (Ld (X:=Jh X ea) (ZFF J) hgx hmx ?_ hdx)) (by intro q;cases q);refine ZIg hcl hcl' ho hc (T'.hasType PySem.F.excBase_ValueError.hasBase) hin ?_;refine codeAny_handlers_suite_as (ZJN tr λh3 kp=>?_);have J3:=J.kept (h':=h3) (t':=s'.toks) kp;refine Tz J3 hN hi (.inl hl) (v:=.ref ea) rfl (λs4 I4=>?_) (.inr hl);refine vj (hh ea vA s4 _ _ _ (ZFF I4) (hE ea oe vs' fe hc hd hda)) (λfl s5 q5=>?_) λ_ _ z=>z.elim
  cases fl with
  |next=>
   obtain⟨σ2,H2,I5,q5⟩:=q5;exact Uh (U8 (calm:=hcalm) hcalm' I5) hN hi hl λs6 I6=>⟨_,H2,I6,q5⟩
  |brk=>
   obtain⟨σ2,H2,I5,q5⟩:=q5;exact Uh (U8 (calm:=hcalm) hcalm' I5) hN hi hl λs6 I6=>⟨_,H2,I6,q5⟩
  |cont=>
   obtain⟨σ2,H2,I5,q5⟩:=q5;exact Uh (U8 (calm:=hcalm) hcalm' I5) hN hi hl λs6 I6=>⟨_,H2,I6,q5⟩
  |ret u=>
   obtain⟨v,σ2,H2,I5,rv,q5⟩:=q5;exact Uh (U8 (calm:=hcalm) hcalm' I5) hN hi hl λs6 I6=>⟨v,_,H2,I6,rv,q5⟩
end
theorem ZGy:∀n:Nat,n<100->intS (n:Int):=by
 have h:∀n:Fin 100,((n.1:Int).natAbs.log2<1920/\(Str.ofString (toString (n.1:Int))).length<=1000):=by decide +kernel
 exact λn hn=>h ⟨n,hn⟩
def sRz(c f:Str)(t:DA):DS:=λS G=>match t S G with
 |.ok ds G1=>(match ds with
  |[.int i]=>if 0<=i/\i<100 then .err ⟨c,[(f,.int i)]⟩ G1 else .bad
  |[.non]=>.err ⟨c,[(f,.non)]⟩ G1
  |_=>.bad)
 |.err x G1=>.err x G1
 |.bad=>.bad
section
variable{X:Cx}{E:XK}{C fI:jT}{c f v:Str}{np cpos pos:Pos}{a:xQ}{t:DA}{k:Nat}{fd:xZ}
theorem ZNt(hn:PySem.W.nsIn X.K xR c=vB (vB (.ref C)))(hcalm:X.calm=vD)(hs:X.stack=X.env::X.outer)(hex:X.ex=[])(hfr:X.env.frame=vB X.env.locals)(hxe:∀e s,Kc X E e s->X.xe e s)
  (XS:XSet X.K C f) (hi:Ln X.K C fI=vD) (hfn:∃o,X.K.lookup fI=vB o/\o.cls=.type "function") (F:FnOk X.prog X.w X.K X.mg X.base CX0 k fI fd ["self",v] (spI C f)) (hr:Room (k+1) X.A) (hb:Binds X.K fd ["self",v] [])
  (hg:Gl X c) (hm:X.mg c=vB (.ref C)) (hk:PySem.W.keepIn X.K (.ref C)=vD) (ha:QA X E [a] t) (hdb:(c==("__debug__":Str))=vE:=by decide) (hst:notStar a=vD:=by rfl):
  QS X E (.Raise (vB (.Call (.Name c np) [a] [] cpos)) vC pos) (sRz c f t):=
 (ZOh hcalm hs hex hfr hxe XS hi hfn F hr hb hg hm hk ha hdb (Hw a [] X.env hst) rfl).mono λW σ H h=>by
  obtain⟨w,S,G,hk,rfl,sm,r,h⟩:=h;refine⟨w,S,G,hk,rfl,sm,r,?_⟩;unfold sRz at h;cases ht:t S G with
  |err x G1=>rw[ht]at h;exact h
  |bad=>rw[ht]at h;exact h
  | ok ds G1=>
   rw[ht]at h;dsimp only at h;split at h
   ·rename_i i;split at h
    ·rename_i hi;intro b vs x s1 q;obtain⟨v1,r1,rfl,q1,q2⟩:=q;obtain rfl:v1=.int i:=q1;obtain rfl:r1=[]:=q2;refine⟨.int i,rfl,.inl ⟨i,rfl,?_⟩,λdx o nd=>?_⟩
     ·have:=ZGy i.toNat (by lia);rwa[show((i.toNat:Nat):Int)=i by lia]at this
     ·refine h.2 (b.put dx (.frz o (.xd [(f,.int i)]))) C (vB dx) (x.trans (Ext.put nd)) (s1.put nd) ?_ (.inr ⟨dx,o,[(f,.int i)],rfl,?_,rfl,?_⟩)
      ·show PySem.W.nsIn b.K _ _=_;rw[x.k,hk];exact hn
      ·show upd b.H dx _ dx=_;unfold upd;rw[if_pos rfl]
      ·exact⟨.int i,[],rfl,rfl,rfl⟩
    ·exact h.elim
   ·intro b vs x s1 q;obtain⟨v1,r1,rfl,q1,q2⟩:=q;obtain rfl:v1=.non:=q1;obtain rfl:r1=[]:=q2;refine⟨.non,rfl,.inr rfl,λdx o nd=>?_⟩;refine h.2 (b.put dx (.frz o (.xd [(f,.non)]))) C (vB dx) (x.trans (Ext.put nd)) (s1.put nd) ?_ (.inr ⟨dx,o,[(f,.non)],rfl,?_,rfl,?_⟩)
    ·show PySem.W.nsIn b.K _ _=_;rw[x.k,hk];exact hn
    ·show upd b.H dx _ dx=_;unfold upd;rw[if_pos rfl]
    ·exact⟨.non,[],rfl,rfl,rfl⟩
   ·exact h.elim
end
noncomputable def unnm(i:Nat):SR->SR
 |.nx S G=>.nx (S.set i vC) G
 |.bk S G=>.bk (S.set i vC) G
 |.ct S G=>.ct (S.set i vC) G
 |.rt d G=>.rt d G
 |_=>.bad
def Oo(ws:List Str)(i:Nat)(F:List D->DH->R D)(t:DA)(hb:DS):DS:=λS G=>match t S G with
 |.ok ds G1=>(match F ds G1 with
  |.ok _ G2=>.nx S G2
  |.err x G2=>if x.cls∈ws then unnm i (hb (S.set i (vB (.ref G2.length))) (G2++[.exc x.cls x.fs]))else .bad
  |.bad=>.bad)
 |_=>.bad
theorem RepS.unset{a:Wd}{S:DSt}{σ:St}(r:RepS a S σ)(i:Nat):RepS a (S.set i vC) (σ.set i vC):=by
 refine⟨by simpa using r.len,λj e he=>?_⟩;rw[qL]at he⊢;by_cases hij:i=j
 ·subst hij;rw[if_pos rfl]at he
  split at he<;>cases he
 ·rw[if_neg hij]at he⊢;exact r.get j e he
section
variable{X:Cx}{E:XK}{f W:jT}{fn x n:Str}{fp cp ep np hp pos:Pos}{a:xQ}{es:List xQ}{t:DA}{F:List D->DH->R D}{k i:Nat}{fd:xZ}{ps:List Str}{b₀:xK}{suite:List xK}{hb:DS}{ws:List Str}
theorem ZGu(hcalm:X.calm=vD)(hs:X.stack=X.env::X.outer)(hfr:X.env.frame=vB X.env.locals)(FF:FnOk X.prog X.w X.K X.mg X.base (CXx X.prog X.w) k f fd ps (lFx X.K F))(hr:Room k X.A)(hbd:Binds X.K fd ps [])(hg:Gl X fn)(hm:X.mg fn=vB (.ref f))
  (hk:PySem.W.keepIn X.K (.ref f)=vD) (ha:QA X.nox E0 (a::es) t) (hgx:Gl X x) (hmx:X.mg x=vB (.ref W)) (hN:X.N.Nodup) (hi:X.N[i]?=vB n) (hl:X.env.kindOf n=vB .local)
  (hws:∀c∈ws,∀C,PySem.W.nsIn X.K xR c=vB (vB (.ref C))->takes X.K C W=vD) (hh:∀ea,QSs (Jh X ea) E0 (b₀::suite) hb)
  (hdb:(fn==("__debug__":Str))=vE:=by decide) (hdx:(x==("__debug__":Str))=vE:=by decide) (he:vZ (a::es) X.env=(vE,eval a X.env)::vZ es X.env:=by rfl) (hpl:(xk cp (vZ es X.env)).any (·.1)=vE:=by rfl)
  (hsw:swapsWith (.Call (.Name fn fp) (a::es) [] cp) vC ep.line X.env=pure vE:=by rfl):
  QS X E (.Try [.Expr (.Call (.Name fn fp) (a::es) [] cp) ep] [.ExceptHandler (vB (.Name x np)) (vB n) (b₀::suite) hp] [] [] pos) (Oo ws i F t hb):=
 (ZJ3 (th:=lS X.K E0 hb) hcalm hs hfr FF hr hbd hg hm hk ha hgx hmx hN hi hl (λea=>hh ea) hdb hdx he hpl hsw).mono λD σ H h=>by
  obtain⟨w,S,G,hk,rfl,sm,r,h⟩:=h;refine⟨w,S,G,hk,rfl,sm,r,?_⟩;unfold Oo at h;cases ht:t S G with
  |err x G1=>rw[ht]at h;exact h.elim
  |bad=>rw[ht]at h;exact h
  | ok ds G1=>
   rw[ht]at h;dsimp only at h;intro b vs y s1 q;refine⟨b,G1,ds,y.k.trans hk,rfl,s1,q,?_⟩;cases hF:F ds G1 with
   |bad=>rw[hF]at h;exact h
   |ok d G2=>
    rw[hF]at h;exact λb2 v y2 s2 _=>h b2 σ (y.trans y2) s2 (r.mono (y.trans y2))
   | err xn G2=>
    rw[hF]at h;dsimp only at h;split at h
    ·rename_i hw;refine⟨λz=>?_,λb2 C od y2 s2 hn hx=>.inr ⟨C,rfl,hws _ hw C (by rw[<-hk,<-y.k,<-y2.k];exact hn),λea oe vs fe hc hd hda=>?_⟩⟩
     ·have:=congrFun (congrFun (congrFun z Value.none) vC) w.H;exact cast this (.inl rfl)
     ·subst hd;have yp:=Ext.push (a:=b2) (p:=ea) (ho:=.frz oe (.own 0)) fe;refine⟨b2.push ea (.frz oe (.own 0)),S.set i (vB (.ref G2.length)),G2++[.exc xn.cls xn.fs],?_,rfl,?_,?_,?_⟩
      ·show b2.K=_;rw[y2.k,y.k,hk]
      ·exact s2.push fe ⟨C,oe,.own 0,vs,hn,rfl,hc,hda,hx.mono yp⟩
      ·refine(r.mono (y.trans (y2.trans yp))).set i ⟨?_,?_⟩
       ·show G2.length<b2.n+1;rw[s2.len];exact qX _
       ·show V.ref ea=V.ref (if G2.length=b2.n then ea else b2.m G2.length);rw[if_pos s2.len]
      ·have yw:=y.trans (y2.trans yp)
       revert h
       cases hb (S.set i (vB (.ref G2.length))) (G2++[.exc xn.cls xn.fs])with
       |nx S3 G3=>exact λh c σ3 y3 s3 r3=>h c _ (yw.trans y3) s3 (r3.unset i)
       |bk S3 G3=>exact λh c σ3 y3 s3 r3=>h c _ (yw.trans y3) s3 (r3.unset i)
       |ct S3 G3=>exact λh c σ3 y3 s3 r3=>h c _ (yw.trans y3) s3 (r3.unset i)
       |rt d3 G3=>exact λh c v3 y3 s3 r3=>h c v3 (yw.trans y3) s3 r3
       |err x3 G3=>exact λh=>h.elim
       |bad=>exact λh=>h.elim
    ·exact h.elim
end
theorem ZLR{K:PySem.W.Frag}{x:Str}{f:jT}{b:DS}(F:Fun K x qual st f fd)(S:FnScope N ps (Aq st))
  (hbody:∀(cdv:xY)(A:jU)(outer:List Env)(s:xW)(H:Hp)(E:XK),Room k (A.deeper (envOfC qual (Aq st) s.heap.objs.size f cdv))->QSs (Fw (CXx P w) P w K mg base N qual (Aq st) f cdv A outer s H E) E (Dg st) b):
  FnOk P w K mg base (CXx P w) (k+1) f fd ps (lFx K (Be ps.length (N.length-ps.length) b)):=by
 have hlen:∀vs H Q E,lFx K (Be ps.length (N.length-ps.length) b) vs H Q E->vs.length=ps.length:=λvs H Q E h=>by
  obtain⟨a,G,ds,hk,rfl,sm,r,h⟩:=h;unfold Be at h;split at h
  ·rename_i hl;rw[<-r.length];exact hl
  ·exact h.elim
 obtain⟨oc,od,kV,doc,pm,an,cdv,ct,osl,rfl,lk,hcd⟩:=F.ex;refine Xe lk hcd S hlen λA outer s H vs Q E hr h=>⟨lS K E b,hbody cdv A outer s H E hr,?_⟩
 have hl:=hlen vs H Q E h;obtain⟨a,G,ds,hk,rfl,sm,r,h⟩:=h;unfold Be at h;split at h
 ·have h2:=Vb sm h;refine⟨a,ds.map vB++zx (N.length-ps.length) vC,G,hk,rfl,sm,ZAo r _ _ (by rw[hl]),?_⟩
  revert h2
  cases b (ds.map vB++zx (N.length-ps.length) vC) G with
  |nx S1 G1=>exact λh2 c σ x s1 _=>h2 c .non x s1 rfl
  |rt d G1=>exact λh2=>h2
  |err e G1=>exact λh2=>h2
  |bk S1 G1=>exact λh2=>h2.elim
  |ct S1 G1=>exact λh2=>h2.elim
  |bad=>exact λh2=>h2
 ·exact h.elim
theorem ZLo{K:PySem.W.Frag}{scope:xV}{f:jT}{cd:xY}{outer:List Env}{E:XK}:
  Passes (CXx P w) (Fw (CXx P w) P w K mg base N qual scope f cd A outer s H E) E:=λvA σ H1 s1 e s' I h=>ZMg rfl rfl rfl I h
theorem ownX{K:PySem.W.Frag}{scope:xV}{f:jT}{cd:xY}{outer:List Env}{E:XK}:
  PassesOwn (xS P w) (Fw (CXx P w) P w K mg base N qual scope f cd A outer s H E).A (Fw (CXx P w) P w K mg base N qual scope f cd A outer s H E).env (Fw (CXx P w) P w K mg base N qual scope f cd A outer s H E).xe:=PassesOwn.leaving
section
variable{X:Cx}{E:XK}{x:Str}{p pos:Pos}{e:xQ}{es:List xQ}{tr:DA}
theorem ZGK{f:jT}{F:List D->DH->R D}(FF:FnOk X.prog X.w X.K X.mg X.base (CXx X.prog X.w) k f fd ps (lFx X.K F))(hr:Room k X.A)(hg:Gl X x)(hm:X.mg x=vB (.ref f))(hk:PySem.W.keepIn X.K (.ref f)=vD)(hb:Binds X.K fd ps [])
  (hx:Passes (CXx X.prog X.w) X E) (ha:QA X E (e::es) tr) (hdb:(x==("__debug__":Str))=vE:=by decide) (he:notStar e=vD:=by rfl) (hpl:es.all notStar=vD:=by rfl):QE X E (.Call (.Name x p) (e::es) [] pos) (dFn F tr):=
 (X7 FF hr hg hm hk hb .nil hx ha hdb (Hw e es X.env he) (Jv pos X.env es hpl)).mono λσ H Q h=>by obtain⟨a,S,G,hk,rfl,s,r,h⟩:=Og h;refine⟨a,S,G,hk,rfl,s,r,h.imp ?_⟩;rintro vs _ ⟨b,G1,ds,hk,rfl,s1,q,h1⟩;exact⟨b,G1,ds,hk,rfl,s1,by rw[q8];exact q,h1⟩
end
structure RoomH (k:Nat) (A:jU):Prop where
 dp:A.depth+3*k+5<recursionLimit
 un:A.units+16*k+200<cLine
theorem RoomH.of(r:Room k A):RoomH k A:=⟨r.dp,r.un⟩
theorem RoomH.held{v:Option xY}(r:RoomH k A):RoomH k (A.mark v):=⟨r.dp,r.un⟩
section
variable{X:Cx}{E:XK}{x:Str}{p pos:Pos}{e:xQ}{es:List xQ}{tr:DA}
end
structure XGet (K:PySem.W.Frag) (C:jT):Prop where
 ga:PySem.W.findIn K (.ref C) "__getattribute__"=vB (vB (.builtin "BaseException.__getattribute__"))
 gn:PySem.W.findIn K (.ref C) "__getattr__"=vB vC
 sb:PySem.W.subIn K (.ref C) (.type "BaseException")=vB vD
 hd:PySem.W.hasDictIn K C=vD
 cl:PySem.W.findIn K (.ref C) "__class__"=vB (vB (.builtin "object.__class__"))
 cg:PySem.W.specialIn K (.builtin "object.__class__") "__get__"=vB (vB (.builtin "getset_descriptor.__get__"))
 ct:PySem.W.takesIn K (.builtin "object.__class__")=vB vD
 mo:PySem.W.mroIn K C (.type "object")=vB vD
 kc:PySem.W.kitCls K (.ref C) (.ref C)=vB vD
 ec:Jy K C=vD
section
variable{prog:xX}{w:xq}{A:jU}{E:xY->xW->Prop}{s:xW}{K:PySem.W.Frag}{x C:jT}{ox:Obj}{od:Option Obj}{name:Str}{tk:Tok}
theorem ZGg{M:Model}{nameV:xY}{Q:Unit->xW->Prop}(X:K.In s.heap)(I:PySem.W.InstAt s.heap x ox C od)(hs:PySem.W.subIn K (.ref C) (.type "BaseException")=vB vD)(hq:Q () s):
  vX M A (xC "BaseException.__getattribute__" ⟨[.ref x,nameV],[]⟩) Q E s:=by
 have hk:builtinKind "BaseException.__getattribute__"=vB .slot:=by decide +kernel
 have hsplit:splitId "BaseException.__getattribute__"=vB ("BaseException","__getattribute__"):=by decide +kernel
 have ha:=F.args_bexc_ga (.ref x) nameV;have LI:PySem.W.Looks M s.heap (isInstance (.ref x) (.type "BaseException")) vD:=(I.type (M:=M)).andThen (PySem.W.looks_subIn X hs);obtain⟨h,g,d,t,os⟩:=s;simp only[xC,hk,hsplit];refine vW (LI.at ?_)
 repeat (first|wp_step)
 exact hq
theorem ZOl{fill expr:Bool}{Q:xY->xW->Prop}(X:K.In s.heap)(I:PySem.W.InstAt s.heap x ox C od)(G:XGet K C)
  (h:∀A',vX (xS prog w) A' (Builtin.«object.__getattribute__» ⟨[.ref x,.str name tk],[]⟩) (λfin s'=>match fin with | .done (.ret v)=>PySem.W.handedIn v=vD/\Q v s'|_=>False) (λ_ _=>False) s):
  vX (xS prog w) A (getAttrBy (.ref x) (.str name tk) fill expr) Q E s:=by
 have L0:=I.type (M:=xS prog w);have L1:=PySem.W.looks_findIn (M:=xS prog w) X G.ga;have _L:=PySem.W.looks_findIn (M:=xS prog w) X G.gn;have f3:=F.excAttr_ValueError.ga.bind (.ref x)
 have hx0:(expr&&onTheHeap (Value.builtin "BaseException.__getattribute__"))=vE:=by cases expr<;>rfl
 obtain⟨hh,g,d,t,os⟩:=s;unfold getAttrBy;refine vz (vW (L0.at (vW (L1.at ?_))));dsimp only;rw[show(onTheHeap (Value.ref C)&&Value.builtin "BaseException.__getattribute__"==Value.builtin "object.__getattribute__")=vE by rw[show(Value.builtin "BaseException.__getattribute__"==Value.builtin "object.__getattribute__")=vE by decide +kernel];rfl];simp only[jA,if_false]
 unfold getAttrByItsOwn;show vX _ _ (typeLookup (.ref C) "__getattr__" >>=_) _ _ _;refine vW (_L.at ?_);refine vW (wpAny_attempt (vz ?_));unfold callGetattribute;rw[hx0];simp only[jA,if_false];unfold boundAndCalled;rw[f3];refine vW (v4 ?_);refine wpAny_call (codeAny_call_builtin F.excAttr_ValueError.ga.plain F.entry_bexc_ga (ZGg X I G.sb (vj (h _) (λfin s' z=>?_) λ_ _ z=>z.elim)))
 rcases fin with(_|_|_|_)|_<;>first|exact z.elim|exact PySem.W.handed_on z.1 z.2
theorem ZJW{fill expr:Bool}{v:xY}{Q:xY->xW->Prop}(X:K.In s.heap)(I:PySem.W.InstAt s.heap x ox C od)(G:XGet K C)(hf:PySem.W.findObj K C od name=vB (.value v))(hv:PySem.W.handedIn v=vD)(h:Q v s):
  vX (xS prog w) A (getAttrBy (.ref x) (.str name tk) fill expr) Q E s:=by
 refine ZOl X I G λA'=>?_
 have L0:=I.type (M:=xS prog w);have L1:=PySem.W.looks_find (M:=xS prog w) X I hf;obtain⟨hh,g,d,t,os⟩:=s;refine vW (v4 (vW (v4 (vW (L0.at (vW (L1.at ?_)))))));exact v4 ⟨hv,h⟩
end
def gtx(cs:List Str)(f:Str)(x:D)(G:DH):R D:=match x with
 | .ref i=>(match G[i]? with
  |some (.exc c (p::r))=>if c∈cs then(match(p::r).lookup f with
   |some d=>.ok d G
   |none=>.bad)else .bad
  |_=>.bad)
 |_=>.bad
def HeldAt(H:Hp)(x:V)(C:jT)(us:List (Str×V)):Prop:=∃a oe u vs dx o,x=.ref a/\H a=vB (.frz oe u)/\oe.cls=.ref C/\oe.data=.fields vs/\oe.dict=vB dx/\H dx=vB (.frz o (.xd us))
theorem Sim.exc{b:Wd}{G:DH}{i:Nat}{c:Str}{p:Str×D}{fs:List (Str×D)}{v:V}(s:Sim b G)(r:Rep b (.ref i) v)(h:G[i]?=vB (.exc c (p::fs))):∃C us,PySem.W.nsIn b.K xR c=vB (vB (.ref C))/\HeldAt b.H v C us/\RepF b (p::fs) us:=by
 obtain⟨_,ev⟩:=r;obtain⟨C,oe,u,vs,n,e,k1,k2,z⟩:=s.obj i _ h;rcases z with⟨z,_⟩|⟨dx,o,us,z1,z2,z3⟩
 ·cases z
 ·exact⟨C,us,n,⟨_,oe,u,vs,dx,o,ev,e,k1,k2,z1,z2⟩,z3⟩
section
variable{X:Cx}{E:XK}{vA:List (jT×Obj)}{σ:St}{H:Hp}{s:xW}
theorem ZMX{x:V}{us:List (Str×V)}(I:Inv X vA σ H s)(h:HeldAt H x C us):∃(a:jT)(oe od:Obj)(mA:Str->Option xY),x=.ref a/\PySem.W.InstAt s.heap a oe C (vB od)/\(∀name,PySem.W.lookIn name od=vB (mA name))/\∀f,RelO (us.lookup f) (mA f):=by
 obtain⟨a,oe,u,vs,dx,o,rfl,ea,k1,k2,k3,ed⟩:=h
 obtain⟨ha,_⟩:=(show ObjOk X.prog X.w H s.heap a (.frz oe u)from I.hok a _ ea)
 obtain⟨hd,mA,hn,hr⟩:=(show ObjOk X.prog X.w H s.heap dx (.frz o (.xd us))from I.hok dx _ ed)
 obtain⟨od,ho,hl⟩:=ZBy hn;refine⟨a,oe,od,mA,rfl,⟨ha,k1,?_,?_⟩,hl,hr⟩
 ·unfold PySem.W.notCls;rw[k2]
 ·rw[k3];exact ho
variable{e ce:xQ}{ces:List xQ}{t:DE}{tb:List (Str×Bool)}{cv:V}{cu:xY}{cvs:List V}{cus:List xY}{p pos tp:Pos}
variable{f:Str}{cs:List Str}
noncomputable def tXf(K:PySem.W.Frag)(ta:TE)(f:Str):TE:=λσ H Q=>ta σ H λx H1=>∃C us v,HeldAt H1 x C us/\XGet K C/\NoAttr K C f/\us.lookup f=vB v/\Q v H1
theorem ZLN{ta:TE}(he:PE X e ta)(hb:xj e f X.env (eval e X.env)=eval e X.env):PE X (.Attribute e f pos) (tXf X.K ta f):=by
 intro vA s σ H Q I h;refine ZDY hb (thn (he vA s σ H _ I h) λu s1 ⟨x,H1,I1,rx,C,us,v,hx,G,n,l,q⟩=>?_);obtain⟨a,oe,od,mA,rfl,J,hl,hr⟩:=ZMX I1 hx
 cases(show u=Value.ref a from rx)
 obtain⟨u',hu,ru⟩:=RelO.some_of (v:=v) (o:=mA f) (by rw[<-l];exact hr f);obtain⟨hh,g,d,t,os⟩:=s1;unfold getAttr;refine vW (wpAny_mkText ?_);exact ZJW (s:=⟨hh,g,d,t+1,os⟩) I1.kIn J G (PySem.W.findObj_own G.hd n rfl (by rw[hl,hu])) (ZDT ru) ⟨v,H1,I1.tok _,ru,q⟩
theorem ZIK(ha:QE X E e t)(hcs:∀c∈cs,∀C,PySem.W.nsIn X.K xR c=vB (vB (.ref C))->XGet X.K C/\NoAttr X.K C f)(hb:xj e f X.env (eval e X.env)=eval e X.env:=by rfl):
  QE X E (.Attribute e f pos) (dUn (gtx cs f) t):=
 (ZLN ha hb).mono λσ H Q h=>by
  obtain⟨a,S,G,hk,rfl,s,r,h⟩:=h;refine⟨a,S,G,hk,rfl,s,r,(Ei h).imp ?_⟩;rintro v _ ⟨b,d,G1,rfl,x,s1,q,-,h1⟩;unfold gtx at h1;split at h1
  ·rename_i i;split at h1
   ·rename_i c pf fs hi;split at h1
    ·rename_i hc;split at h1
     ·rename_i d' hd;obtain⟨C,us,n,hx,rf⟩:=s1.exc q hi;obtain⟨g1,g2⟩:=hcs c hc C (by rw[<-hk,<-x.k];exact n);obtain⟨u,eu,ru⟩:=rf.look hd;exact⟨C,us,u,hx,g1,g2,eu,h1 b u (Ext.refl b) s1 ru⟩
     ·exact h1.elim
    ·exact h1.elim
   ·exact h1.elim
  ·exact h1.elim
end
end _D
namespace _D
open PySem PySem.Spec PySem.W _L
open PyProof.Rows hiding St
variable{K:v7}{h:Heap}{mg:Str->Option xY}{G:DH}
noncomputable def isB(r:Option (Option xY))(n:String):Bool:=match r with
 |some (vB (.builtin m))=>m==n
 |_=>vE
theorem T8{r:Option (Option xY)}{n:String}(h:isB r n=vD):r=vB (vB (.builtin n)):=by
 unfold isB at h;split at h
 ·rw[beq_iff_eq.mp h]
 ·cases h
noncomputable def Mx(r:Option Bool)(b:Bool):Bool:=match r with
 |some c=>c==b
 |_=>vE
theorem Sw{r:Option Bool}{b:Bool}(h:Mx r b=vD):r=vB b:=by
 unfold Mx at h;split at h
 ·rw[beq_iff_eq.mp h]
 ·cases h
noncomputable def Ub{α:Type}(r:Option (Option α)):Bool:=match r with
 |some vC=>vD
 |_=>vE
theorem ZGL{α:Type}{r:Option (Option α)}(h:Ub r=vD):r=vB vC:=by
 unfold Ub at h;split at h
 ·rfl
 ·cases h
structure ET (K:v7) (mg:Str->Option xY) (c f:Str):Prop where
 N:nsIn K xR c=vB (vB (.ref (Af K c)))
 g:mg c=vB (.ref (Af K c))
 k:keepIn K (.ref (Af K c))=vD
 X:XSet K (Af K c) f
 i:Ln K (Af K c) (De K (Af K c) "__init__")=vD
 o:∃o,K.lookup (De K (Af K c) "__init__")=vB o/\o.cls=.type "function"
 G:XGet K (Af K c)
 no:NoAttr K (Af K c) f
noncomputable def ZAV(K:v7)(a:jT):Bool:=match K.lookup a with
 |some ⟨.type t,_,_,_⟩=>t == "function"
 |_=>vE
theorem ZKD{a:jT}(h:ZAV K a=vD):∃o,K.lookup a=vB o/\o.cls=.type "function":=by
 unfold ZAV at h;split at h
 ·rename_i t _ _ _ e;exact⟨_,e,by rw[beq_iff_eq.mp h]⟩
 ·cases h
def ZBX(c f:Str)(K:v7):Bool:=gOk K c&&keepIn K (.ref (Af K c))&&(Jy K (Af K c)&&Rt K (Af K c)&&T9 K (Af K c)&&Ub (takerIn K (Af K c) f)&&hasDictIn K (Af K c))&&Ln K (Af K c) (De K (Af K c) "__init__")&&ZAV K (De K (Af K c) "__init__") &&
 (isB (findIn K (.ref (Af K c)) "__getattribute__") "BaseException.__getattribute__"&&Ub (findIn K (.ref (Af K c)) "__getattr__")&&Mx (subIn K (.ref (Af K c)) (.type "BaseException")) vD&&isB (findIn K (.ref (Af K c)) "__class__") "object.__class__" &&
  isB (specialIn K (.builtin "object.__class__") "__get__") "getset_descriptor.__get__"&&Mx (takesIn K (.builtin "object.__class__")) vD&&Mx (mroIn K (Af K c) (.type "object")) vD&&Mx (kitCls K (.ref (Af K c)) (.ref (Af K c))) vD)&&noF K (Af K c) f
theorem ZJX{c f:Str}(X:K.In h)(G:h.Ns xR mg)(s:ZBX c f K=vD):ET K mg c f:=by simp only[ZBX,zB]at s;obtain⟨⟨⟨⟨⟨⟨h1,h2⟩,⟨⟨⟨h3,h4⟩,h5⟩,h6⟩,h7⟩,h8⟩,h9⟩,⟨⟨⟨⟨⟨⟨g1,g2⟩,g3⟩,g4⟩,g5⟩,g6⟩,g7⟩,g8⟩,h10⟩:=s;exact⟨Kl h1,mg_of X G (Kl h1),h2,⟨h3,ZEc h4,h5,ZGL h6,h7⟩,h8,ZKD h9,⟨T8 g1,ZGL g2,Sw g3,h7,T8 g4,T8 g5,Sw g6,Sw g7,Sw g8,h3⟩,ZCk h10⟩
noncomputable def ZAi(r:Option CFound)(n:String):Bool:=match r with
 |some (.val (.builtin m))=>m==n
 |_=>vE
theorem ZMD{r:Option CFound}{n:String}(h:ZAi r n=vD):r=vB (.val (.builtin n)):=by
 unfold ZAi at h;split at h
 ·rw[beq_iff_eq.mp h]
 ·cases h
def X4(x:Str)(K:v7):Bool:=gOk K x&&isB (specialIn K (.ref (Af K x)) "__getattribute__") "type.__getattribute__"&&readsIn K (Af K x) (.type "type")&&ZAi (findCls K (.ref (Af K x)) (.type "type") "__init__") "ValueError.__init__"
theorem ZKs{x:Str}(X:K.In h)(G:h.Ns xR mg)(s:X4 x K=vD):XBase K mg x (Af K x):=by simp only[X4,zB]at s;obtain⟨⟨⟨h1,h2⟩,h3⟩,h4⟩:=s;exact⟨mg_of X G (Kl h1),T8 h2,h3,ZMD h4⟩
theorem ZNM{x:Str}(X:K.In h)(G:h.Ns xR mg)(s:gOk K x=vD):mg x=vB (.ref (Af K x)):=mg_of X G (Kl s)
abbrev FnX(P:xX)(w:xq)(K:v7)(mg:Str->Option xY)(base:Heap)(k:Nat)(n:Str)(ps:List Str)(F:List D->DH->R D):Prop:=FnOk P w K mg base (CXx P w) k (Af K n) (Ax K (Af K n)) ps (lFx K F)
theorem ZCS{X:Cx}:Passes (CXx X.prog X.w) X E0:=λvA σ H s e s' I h=>by obtain⟨_,_,_,_,_,_,_,_,_,_,_,_,_,z,_⟩:=h;exact z.elim
section
variable{X:Cx}{E:XK}{c x n f v:Str}{e a:xQ}{es:List xQ}{t:DE}{tr:DA}{p q pos cpos np:Pos}{b:Bool}{F:List D->DH->R D}{k j:Nat}{ps:List Str}{st:xK}
theorem ZKM(T:ET X.K X.mg c f)(ha:QE X E e t)(hb:xj e f X.env (eval e X.env)=eval e X.env:=by rfl):QE X E (.Attribute e f pos) (dUn (gtx [c] f) t):=
 ZIK ha (λc' hc C hC=>by cases qz.mp hc;rw[T.N]at hC;cases hC;exact⟨T.G,T.no⟩) hb
theorem ZJj(T:ET X.K X.mg c f)(FI:FnOk X.prog X.w X.K X.mg X.base CX0 k (De X.K (Af X.K c) "__init__") (Ax X.K (De X.K (Af X.K c) "__init__")) ["self",v] (spI (Af X.K c) f))(hb:Binds X.K (Ax X.K (De X.K (Af X.K c) "__init__")) ["self",v] [])(hr:Room j X.A)(ha:QA X E [a] tr)
  (hxe:∀e s,Kc X E e s->X.xe e s:=by exact λ_ _ h=>h) (hj:Nat.ble (k+1) j=vD:=by rfl) (hcalm:X.calm=vD:=by rfl) (hs:X.stack=X.env::X.outer:=by rfl) (hex:X.ex=[]:=by rfl) (hfr:X.env.frame=vB X.env.locals:=by rfl) (hg:Gl X c:=by rfl) (hdb:(c==("__debug__":Str))=vE:=by decide) (hst:notStar a=vD:=by rfl):
  QS X E (.Raise (vB (.Call (.Name c np) [a] [] cpos)) vC pos) (sRz c f tr):=
 ZNt T.N hcalm hs hex hfr hxe T.X T.i T.o FI (hr.mono (jV hj)) hb hg T.g T.k ha hdb hst
end
noncomputable def SR.nr:SR->SR
 |.err _ _=>.bad
 |r=>r
def sNr(t:DS):DS:=λS G=>(t S G).nr
@[simp]theorem ev_sNr{t:DS}{S:DSt}:sNr t S G=(t S G).nr:=id rfl
@[simp]theorem nr_nx{S:DSt}:(SR.nx S G).nr=.nx S G:=id rfl
@[simp]theorem nr_rt{d:D}:(SR.rt d G).nr=.rt d G:=id rfl
theorem ZHm{E:XK}{t:DS}{W:Ends}{σ:St}{H:Hp}(h:lS K E (sNr t) W σ H):lS K E0 t W σ H:=by
 obtain⟨a,S,G,hk,rfl,sm,r,h⟩:=h;refine⟨a,S,G,hk,rfl,sm,r,?_⟩;unfold sNr at h
 revert h
 cases t S G with
 |err x G1=>exact λh=>h.elim
 |nx S1 G1=>exact λh=>h
 |bk S1 G1=>exact λh=>h
 |ct S1 G1=>exact λh=>h
 |rt d G1=>exact λh=>h
 |bad=>exact λh=>h
theorem Jr{X:Cx}{E:XK}{s:xK}{t:DS}(h:QS X E0 s t):QS X E s (sNr t):=PS.mono h λ_ _ _ z=>ZHm z
end _D
namespace _D
open PySem PySem.Spec _L
open PyProof.Rows hiding St
def Ku(G:DH)(d:D):List D->Option (List Bool)
 |[]=>vB []
 |x::r=>match eqD 30 G x d,Ku G d r with
  |some k,vB ks=>vB (k::ks)
  |_,_=>vC
def inE(d e:D)(G:DH):Option Bool:=match Bk e G with
 |some xs=>(Ku G d xs).map λks=>ks.any id
 |none=>vC
def N7(d e:D)(G:DH):R D:=match inE d e G with
 |some k=>.ok (.bl (!k)) G
 |none=>.bad
section
variable{X:Cx}{E:XK}{vA:List (jT×Obj)}{σ:St}{s:xW}
theorem ZAQ{a:Wd}{G:DH}(I:Inv X vA σ a.H s)(hk:a.K=X.K)(sm:Sim a G){A:jU}(hu:A.units+30<cLine){d:D}{x:V}{v:xY}(rd:Rep a d x)(rx:RelV x v):
  ∀{xs:List D}{vs:List V}{its:List xY}{ks:List Bool},Reps a xs vs->Vals vs its->Ku G d xs=vB ks->ks.length=its.length/\∀(i:Nat)(u:xY)(k:Bool),its[i]?=vB u->ks[i]?=vB k->SeqAt.EqAt A s u v k
 |[],vs,its,ks,r,q,h=>by obtain rfl:vs=[]:=r;cases q;cases h;exact⟨rfl,λi u k h=>by simp at h⟩
 | y::ys,vs,its,ks,r,q,h=>by
  obtain⟨w,ws,rfl,r1,r2⟩:=r;cases q with
  | cons p q'=>
   unfold Ku at h;split at h
   ·rename_i k ks' h1 h2;cases h;obtain⟨e1,e2⟩:=ZAQ I hk sm hu rd rx r2 q' h2;refine⟨by simp[e1],λi u k' hi hk'=>?_⟩;cases i with
    |zero=>
     cases hi;cases hk';exact(Rh I hk sm 30 hu r1 rd p rx h1).1
    |succ i=>exact e2 i u k' (by simpa using hi) (by simpa using hk')
   ·cases h
open Classical in
theorem ZEz{A:jU}{v:xY}{its:List xY}{ks:List Bool}(h1:ks.length=its.length)(h2:∀(i:Nat)(u:xY)(k:Bool),its[i]?=vB u->ks[i]?=vB k->SeqAt.EqAt A s u v k):
  ∃e:xY->Bool,(∀y,y∈its.toArray->SeqAt.EqAt A s y v (e y))/\its.toArray.any e=ks.any id:=by
 refine⟨λu=>decide (∃i:Nat,its[i]?=vB u/\ks[i]?=vB vD),λy hy=>?_,?_⟩
 ·obtain⟨j,hj,e⟩:=qK (by simpa using hy:y∈its);have hj2:j<ks.length:=by lia
  have g1:its[j]?=vB y:=by rw[zZ hj,e]
  have g2:ks[j]?=vB ks[j]:=zZ hj2;show SeqAt.EqAt A s y v (decide (∃i:Nat,its[i]?=vB y/\ks[i]?=vB vD));by_cases hE:∃i:Nat,its[i]?=vB y/\ks[i]?=vB vD
  ·rw[decide_eq_true hE];obtain⟨i,a1,a2⟩:=hE;exact h2 i y vD a1 a2
  ·rw[decide_eq_false hE];cases hk:ks[j]with
   |true=>exact absurd ⟨j,g1,by rw[g2,hk]⟩ hE
   |false=>exact h2 j y vE g1 (by rw[g2,hk])
 ·rw[Bool.eq_iff_iff];constructor
  ·intro h;have h':its.any (λu=>decide (∃i:Nat,its[i]?=vB u/\ks[i]?=vB vD))=vD:=by simpa using h
   obtain⟨u,_,hu⟩:=jL.mp h';obtain⟨i,_,a2⟩:=of_decide_eq_true hu;exact jL.mpr ⟨vD,jO a2,rfl⟩
  ·intro h;obtain⟨k,hk,e⟩:=jL.mp h;obtain⟨j,hj,e2⟩:=qK hk;have hj2:j<its.length:=by lia
   have e3:k=vD:=e;have:its.any (λu=>decide (∃i:Nat,its[i]?=vB u/\ks[i]?=vB vD))=vD:=jL.mpr ⟨its[j],qx hj2,decide_eq_true ⟨j,zZ hj2,by rw[zZ hj,e2,e3]⟩⟩;simpa using this
theorem ZHB{a:Wd}{G:DH}{d e:D}{y:V}{k:Bool}(sm:Sim a G)(re:Rep a e y)(h:inE d e G=vB k):∃xs ks p vs,y=.ref p/\(SqL a.K a.H p vs∨SqT a.K a.H p vs)/\Reps a xs vs/\Ku G d xs=vB ks/\k=ks.any id:=by
 unfold inE at h;split at h
 ·rename_i xs h1;rw[zN]at h;obtain⟨ks,h2,h3⟩:=h;obtain⟨p,vs,e1,q,r⟩:=M8 sm re h1;exact⟨xs,ks,p,vs,e1,q,r,h2,h3.symm⟩
 ·cases h
theorem ZGx(hu:X.A.units+64<cLine):OpR X (xE .NotIn) (lR2 X.K E N7):=by
 intro vA s σ H x y v u Q I rx ry ⟨a,G,d,e,hk,hH,sm,rd,re,q⟩;subst hH;unfold N7 at q;split at q
 ·rename_i k hd;obtain⟨xs,ks,p,vs,rfl,hq,r,h2,rfl⟩:=ZHB sm re hd;cases ry;have hu1:X.A.in1.units+30<cLine:=by show X.A.units+1+30<cLine;lia
  rw[hk]at hq;have fin:EP X vA σ Q (.bool (!ks.any id)) s:=⟨.bl _,a.H,I,rfl,q a _ (Ext.refl a) sm rfl⟩;rcases hq with hq|hq
  ·obtain⟨its,rv,pl,hz⟩:=I.list hq;obtain⟨z1,z2⟩:=ZAQ I hk sm hu1 rd rx r rv h2;obtain⟨f,f1,f2⟩:=ZEz z1 z2;exact SeqAt.notIn_listAt f pl.isList f1 (by rw[f2];exact fin)
  ·obtain⟨its,rv,pl,hz⟩:=I.tuple hq;obtain⟨z1,z2⟩:=ZAQ I hk sm hu1 rd rx r rv h2;obtain⟨f,f1,f2⟩:=ZEz z1 z2;exact SeqAt.notIn_tupleAt f pl f1 (by rw[f2];exact fin)
 ·exact q.elim
def Ra(o:D)(ds:List D)(G:DH):R D:=match o,ds with
 |.ref i,[.ref j]=>match G[i]?,G[j]? with
  |some (.lst xs),vB (.lst ys)=>if xs.length+ys.length<=1000000 then .ok .non (G.set i (.lst (xs++ys)))else .bad
  |_,_=>.bad
 |_,_=>.bad
theorem ZIl:MtM X "list.extend" (lRm X.K E Ra):=ZKh.mono λx xs H Q h=>by
 obtain⟨a,G,d,ds,hk,rfl,s,rd,r,q⟩:=h;unfold Ra at q;split at q
 ·rename_i i j;obtain⟨v,rfl,rv⟩:=reps1 r;split at q
  ·rename_i ys zs hy hz;split at q
   ·rename_i hl;obtain⟨vs,e1,r1⟩:=s.lst hy;obtain⟨ws,e2,r2⟩:=s.lst hz;obtain⟨x3,s3⟩:=Vg s rd.1 e1 (r1.append r2);refine⟨a.m i,a.m j,vs,ws,rd.2,by rw[rv.2],e1,e2,by rw[<-r1.length,<-r2.length];exact zC hl size6,?_⟩;exact q _ .non x3 s3 rfl
   ·exact q.elim
  ·exact q.elim
 ·exact q.elim
end
end _D
namespace _D
open PySem PySem.W PySem.Spec _L
open PyProof.Rows hiding St
variable{ps:List Str}
structure FunD (K:PySem.W.Frag) (x qual:Str) (st:xK) (f:jT) (fd:xZ):Prop where
 ex:∃(oc:xY)(od:Option jT)(dV kV doc pm:xY)(an:Option jT)(cdv ct:xY)(osl:Array (Option xY)),
  fd=PySem.W.fnOf x qual (Fg st) (Dg st) (Aq st) dV kV doc pm an cdv ct/\K.lookup f=vB ⟨oc,od,.func fd,osl⟩/\PySem.W.codeIn K cdv qual=vD
structure FTD (K:v7) (mg:Str->Option xY) (n:Str) (st:xK) (ps:List Str) (v:Int):Prop where
 F:FunD K n n st (Af K n) (Ax K (Af K n))
 b:Binds K (Ax K (Af K n)) ps []
 d:∃t,Binds K (Ax K (Af K n)) ps [.int v t]
 m:mg n=vB (.ref (Af K n))
 k:keepIn K (.ref (Af K n))=vD
theorem ZKA{P:xX}{w:xq}{K:PySem.W.Frag}{mg:Str->Option xY}{base:Heap}{x qual:Str}{st:xK}{f:jT}{fd:xZ}{N:List Str}{k:Nat}{b:DS}(F:FunD K x qual st f fd)(S:FnScope N ps (Aq st))
  (hbody:∀(cdv:xY)(A:jU)(outer:List Env)(s:xW)(H:Hp)(E:XK),Room k (A.deeper (envOfC qual (Aq st) s.heap.objs.size f cdv))->QSs (Fw (CXx P w) P w K mg base N qual (Aq st) f cdv A outer s H E) E (Dg st) b):
  FnOk P w K mg base (CXx P w) (k+1) f fd ps (lFx K (Be ps.length (N.length-ps.length) b)):=by
 have hlen:∀vs H Q E,lFx K (Be ps.length (N.length-ps.length) b) vs H Q E->vs.length=ps.length:=λvs H Q E h=>by
  obtain⟨a,G,ds,hk,rfl,sm,r,h⟩:=h;unfold Be at h;split at h
  ·rename_i hl;rw[<-r.length];exact hl
  ·exact h.elim
 obtain⟨oc,od,dV,kV,doc,pm,an,cdv,ct,osl,rfl,lk,hcd⟩:=F.ex;refine Xe lk hcd S hlen λA outer s H vs Q E hr h=>⟨lS K E b,hbody cdv A outer s H E hr,?_⟩
 have hl:=hlen vs H Q E h;obtain⟨a,G,ds,hk,rfl,sm,r,h⟩:=h;unfold Be at h;split at h
 ·have h2:=Vb sm h;refine⟨a,ds.map vB++zx (N.length-ps.length) vC,G,hk,rfl,sm,ZAo r _ _ (by rw[hl]),?_⟩
  revert h2
  cases b (ds.map vB++zx (N.length-ps.length) vC) G with
  |nx S1 G1=>exact λh2 c σ x s1 _=>h2 c .non x s1 rfl
  |rt d G1=>exact λh2=>h2
  |err e G1=>exact λh2=>h2
  |bk S1 G1=>exact λh2=>h2.elim
  |ct S1 G1=>exact λh2=>h2.elim
  |bad=>exact λh2=>h2
 ·exact h.elim
noncomputable def dfx(v:Int)(F:List D->DH->R D):List D->DH->R D:=λds G=>F (ds++[.int v]) G
section
variable{X:Cx}{E:XK}{x:Str}{p pos:Pos}{e:xQ}{es:List xQ}{tr:DA}
theorem ZMa{k:Nat}{f:jT}{fd:xZ}{F:List D->DH->R D}{v:Int}{t:Tok}(FF:FnOk X.prog X.w X.K X.mg X.base (CXx X.prog X.w) k f fd ps (lFx X.K F))(hr:Room k X.A)(hg:Gl X x)(hm:X.mg x=vB (.ref f))(hk:PySem.W.keepIn X.K (.ref f)=vD)(hb:Binds X.K fd ps [.int v t])
  (hx:Passes (CXx X.prog X.w) X E) (ha:QA X E (e::es) tr) (hdb:(x==("__debug__":Str))=vE:=by decide) (he:notStar e=vD:=by rfl) (hpl:es.all notStar=vD:=by rfl):QE X E (.Call (.Name x p) (e::es) [] pos) (dFn (dfx v F) tr):=
 (X7 FF hr hg hm hk hb (dvs:=[.int v]) (.cons ⟨t,rfl⟩ .nil) hx ha hdb (Hw e es X.env he) (Jv pos X.env es hpl)).mono λσ H Q h=>by obtain⟨a,S,G,hk,rfl,s,r,h⟩:=Og h;refine⟨a,S,G,hk,rfl,s,r,h.imp ?_⟩;rintro vs _ ⟨b,G1,ds,hk,rfl,s1,q,h1⟩;exact⟨b,G1,ds++[D.int v],hk,rfl,s1,q.append (Reps.cons (d:=.int v) (v:=.int v) rfl Reps.nil),h1⟩
end
section
variable{X:Cx}{E:XK}{n:Str}{e:xQ}{es:List xQ}{tr:DA}{p pos:Pos}{F:List D->DH->R D}{k j:Nat}{ps:List Str}{st:xK}{v:Int}
theorem ZHh(FF:FnX X.prog X.w X.K X.mg X.base k n ps F)(T:FTD X.K X.mg n st ps v)(hr:Room j X.A)(ha:QA X E0 (e::es) tr)(hj:Nat.ble k j=vD:=by rfl)(hg:Gl X n:=by rfl)(hdb:(n==("__debug__":Str))=vE:=by decide)(he:notStar e=vD:=by rfl)(hpl:es.all notStar=vD:=by rfl):
  QE X E0 (.Call (.Name n p) (e::es) [] pos) (dFn F tr):=ZGK FF (hr.mono (jV hj)) hg T.m T.k T.b ZCS ha hdb he hpl
theorem ZIc(FF:FnX X.prog X.w X.K X.mg X.base k n ps F)(T:FTD X.K X.mg n st ps v)(hr:Room j X.A)(ha:QA X E0 (e::es) tr)(hj:Nat.ble k j=vD:=by rfl)(hg:Gl X n:=by rfl)(hdb:(n==("__debug__":Str))=vE:=by decide)(he:notStar e=vD:=by rfl)(hpl:es.all notStar=vD:=by rfl):
  QE X E0 (.Call (.Name n p) (e::es) [] pos) (dFn (dfx v F) tr):=by
 obtain⟨t,hb⟩:=T.d;exact ZMa FF (hr.mono (jV hj)) hg T.m T.k hb ZCS ha hdb he hpl
end
section
variable{X:Cx}{E:XK}{c x n f v:Str}{e a:xQ}{es:List xQ}{t:DE}{tr:DA}{p q pos cpos np:Pos}{b:Bool}{F:List D->DH->R D}{k j:Nat}{ps:List Str}{st:xK}
theorem ZK9{dv:Int}{i:Nat}{fp cp ep hp:Pos}{b₀:xK}{suite:List xK}{hb:DS}{w:Str}(N:nsIn X.K xR c=vB (vB (.ref (Af X.K c))))(hw:takes X.K (Af X.K c) (Af X.K w)=vD)(mw:X.mg w=vB (.ref (Af X.K w)))(FF:FnX X.prog X.w X.K X.mg X.base k n ps F)(T:FTD X.K X.mg n st ps dv)(hr:Room j X.A)
  (ha:QA X.nox E0 (a::es) tr) (hN:X.N.Nodup) (hh:∀ea,RoomH j (Jh X ea).A->QSs (Jh X ea) E0 (b₀::suite) hb) (hj:Nat.ble k j=vD:=by rfl) (hcalm:X.calm=vD:=by rfl) (hs:X.stack=X.env::X.outer:=by rfl) (hfr:X.env.frame=vB X.env.locals:=by rfl) (hg:Gl X n:=by rfl) (hgw:Gl X w:=by rfl) (hi:X.N[i]?=vB x:=by rfl) (hl:X.env.kindOf x=vB .local:=by rfl)
  (hdb:(n==("__debug__":Str))=vE:=by decide) (hdx:(w==("__debug__":Str))=vE:=by decide) (he:vZ (a::es) X.env=(vE,eval a X.env)::vZ es X.env:=by rfl) (hpl:(xk cp (vZ es X.env)).any (·.1)=vE:=by rfl)
  (hsw:swapsWith (.Call (.Name n fp) (a::es) [] cp) vC ep.line X.env=pure vE:=by rfl):
  QS X E (.Try [.Expr (.Call (.Name n fp) (a::es) [] cp) ep] [.ExceptHandler (vB (.Name w np)) (vB x) (b₀::suite) hp] [] [] pos) (Oo [c] i F tr hb):=
 ZGu hcalm hs hfr FF (hr.mono (jV hj)) T.b hg T.m T.k ha hgw mw hN hi hl (λc' hc C hC=>by cases qz.mp hc;rw[N]at hC;cases hC;exact hw) (λea=>hh ea (RoomH.held (.of hr))) hdb hdx he hpl hsw
end
theorem ZGf{K:v7}{h:Heap}{mg:Str->Option xY}{n:Str}{st:xK}{v:Int}(X:K.In h)(G:h.Ns xR mg)(s:Ask.Said K (.fd n st v))
  (hb:∀(T:jT)(kV doc pm:xY)(an:Option jT)(cdv ct:xY)(us:List xY)(t:Tok),us.length=ps.length->∃k,bindArgs (fnOf n n (Fg st) (Dg st) (Aq st) (.ref T) kV doc pm an cdv ct) ⟨us,[]⟩=seqItems? (.ref T) >>=k/\k (vB #[.int v t])=pure (ps.zip us))
  (hd:∀(T:jT)(kV doc pm:xY)(an:Option jT)(cdv ct:xY)(us:List xY)(t:Tok),us.length+1=ps.length->∃k,bindArgs (fnOf n n (Fg st) (Dg st) (Aq st) (.ref T) kV doc pm an cdv ct) ⟨us,[]⟩=seqItems? (.ref T) >>=k/\k (vB #[.int v t])=pure (ps.zip (us++[.int v t]))):FTD K mg n st ps v:=by
 obtain⟨s1,s2,s3,s4,T,o,t,m,e1,e2,e3⟩:=s;have ef:Ax K (Af K n)=fnOf n n (Fg st) (Dg st) (Aq st) (.ref T) (Ax K (Af K n)).kwdefaults (Ax K (Af K n)).doc (Ax K (Af K n)).pyModule (Ax K (Af K n)).annotations (Ax K (Af K n)).code (Ax K (Af K n)).closureTuple:=by
  rw[<-e1]
  conv=>lhs;unfold Ax Gg;rw[s2]
 refine⟨⟨_,_,_,_,_,_,_,_,_,_,by rw[e1]at s2;exact ef,by rw[e1,<-ef]at s2;exact s2,s3⟩,λs us ki hl=>?_,⟨t,λs us ki hl=>?_⟩,mg_of X G s1,s4⟩
 ·rw[q8]at hl⊢;rw[ef];obtain⟨k,k1,k2⟩:=hb T (Ax K (Af K n)).kwdefaults (Ax K (Af K n)).doc (Ax K (Af K n)).pyModule (Ax K (Af K n)).annotations (Ax K (Af K n)).code (Ax K (Af K n)).closureTuple us t hl;exact BindsTo.of_defaults rfl (ki T o e2) e3 k1 k2
 ·rw[ef];obtain⟨k,k1,k2⟩:=hd T (Ax K (Af K n)).kwdefaults (Ax K (Af K n)).doc (Ax K (Af K n)).pyModule (Ax K (Af K n)).annotations (Ax K (Af K n)).code (Ax K (Af K n)).closureTuple us t (by simpa using hl);exact BindsTo.of_defaults rfl (ki T o e2) e3 k1 k2
end _D
namespace _W
open PySem _L _D
noncomputable def top(i:Nat):xK:=PySem.Challenge.pw_sluiceway_k59_water_that_goes_round.main.body.getD i (.Pass ⟨0,0,0,0⟩)
noncomputable def fuel:Nat:=100000
noncomputable def inC(s:xK)(j:Nat):xK:=match s with
 |.ClassDef _ _ _ body _ _ _ _ _ _ _=>body.getD j (.Pass ⟨0,0,0,0⟩)
 |_=>.Pass ⟨0,0,0,0⟩
noncomputable abbrev ZAF:xK:=inC (top 4) 0
theorem ZKu:FnScope ["self","most"] ["self","most"] (Aq ZAF):=⟨rfl,rfl,rfl,by decide +kernel,rfl,by decide +kernel,by decide +kernel⟩
noncomputable abbrev ZBK:xK:=top 48
noncomputable abbrev ZGG:List Str:=["_law_number","_law_k","_law_digit"]
noncomputable abbrev ZAU:List Str:=ZGG.take 2
theorem Q9:FnScope ZGG ZAU (Aq ZBK):=⟨rfl,rfl,rfl,by decide +kernel,rfl,by decide +kernel,by decide +kernel⟩
noncomputable abbrev ZBB:xK:=top 47
noncomputable abbrev ZFg:List Str:=["_law_script"]
noncomputable abbrev Xh:List Str:=ZFg.take 1
theorem ZIs:FnScope ZFg Xh (Aq ZBB):=⟨rfl,rfl,rfl,by decide +kernel,rfl,by decide +kernel,by decide +kernel⟩
noncomputable abbrev Wx:xK:=top 49
noncomputable abbrev ZDm:List Str:=["_law_script","_law_k","_law_number"]
noncomputable abbrev ZBa:List Str:=ZDm.take 2
theorem Rf:FnScope ZDm ZBa (Aq Wx):=⟨rfl,rfl,rfl,by decide +kernel,rfl,by decide +kernel,by decide +kernel⟩
noncomputable abbrev ZBP:xK:=top 50
noncomputable abbrev ZEW:List Str:=["_law_name","_law_down","_law_cubes","_law_to","_law_delay"]
noncomputable abbrev ZAq:List Str:=ZEW.take 5
theorem ZNl:FnScope ZEW ZAq (Aq ZBP):=⟨rfl,rfl,rfl,by decide +kernel,rfl,by decide +kernel,by decide +kernel⟩
noncomputable abbrev Xj:xK:=top 52
noncomputable abbrev ZCF:List Str:=["_law_order","_law_pairs","_law_names","_law_places","_law_k","_law_one","_law_other","_law_cubes","_law_delay"]
noncomputable abbrev ZBj:List Str:=ZCF.take 2
theorem Ji:FnScope ZCF ZBj (Aq Xj):=⟨rfl,rfl,rfl,by decide +kernel,rfl,by decide +kernel,by decide +kernel⟩
noncomputable abbrev Y8:xK:=top 44
noncomputable abbrev ZC7:List Str:=["house","floods"]
noncomputable abbrev Xu:List Str:=ZC7.take 2
theorem ZO2:FnScope ZC7 Xu (Aq Y8):=⟨rfl,rfl,rfl,by decide +kernel,rfl,by decide +kernel,by decide +kernel⟩
noncomputable abbrev Qf:xK:=inC (top 38) 0
noncomputable abbrev Tf:List Str:=["self","house","state","at","flood","levels","coming"]
noncomputable abbrev ZBM:List Str:=Tf.take 5
theorem ZBH:FnScope Tf ZBM (Aq Qf):=⟨rfl,rfl,rfl,by decide +kernel,rfl,by decide +kernel,by decide +kernel⟩
noncomputable abbrev Yq:xK:=inC (top 38) 5
noncomputable abbrev ZE0:List Str:=["self","to","delay","cubes"]
noncomputable abbrev ZAg:List Str:=ZE0.take 4
theorem ZJq:FnScope ZE0 ZAg (Aq Yq):=⟨rfl,rfl,rfl,by decide +kernel,rfl,by decide +kernel,by decide +kernel⟩
noncomputable abbrev Xd:xK:=top 20
noncomputable abbrev ZFD:List Str:=["house","name","number","place"]
noncomputable abbrev Xo:List Str:=ZFD.take 2
theorem Xl:FnScope ZFD Xo (Aq Xd):=⟨rfl,rfl,rfl,by decide +kernel,rfl,by decide +kernel,by decide +kernel⟩
noncomputable abbrev Ws:xK:=top 21
noncomputable abbrev ZF5:List Str:=["house","place","name"]
noncomputable abbrev Y5:List Str:=ZF5.take 2
theorem ZF6:FnScope ZF5 Y5 (Aq Ws):=⟨rfl,rfl,rfl,by decide +kernel,rfl,by decide +kernel,by decide +kernel⟩
noncomputable abbrev ZBU:xK:=inC (top 38) 4
noncomputable abbrev ZDN:List Str:=["self","number","cubes","down"]
noncomputable abbrev Wo:List Str:=ZDN.take 3
theorem ZEK:FnScope ZDN Wo (Aq ZBU):=⟨rfl,rfl,rfl,by decide +kernel,rfl,by decide +kernel,by decide +kernel⟩
noncomputable abbrev Yp:xK:=top 33
noncomputable abbrev ZD5:List Str:=["stairs","water","river","pump","height","many","way","cubes"]
noncomputable abbrev Ym:List Str:=ZD5.take 2
theorem Io:FnScope ZD5 Ym (Aq Yp):=⟨rfl,rfl,rfl,by decide +kernel,rfl,by decide +kernel,by decide +kernel⟩
noncomputable abbrev Za:xK:=top 32
noncomputable abbrev ZFM:List Str:=["rule","turn","held","first","stairs"]
noncomputable abbrev Xv:List Str:=ZFM.take 2
theorem Rb:FnScope ZFM Xv (Aq Za):=⟨rfl,rfl,rfl,by decide +kernel,rfl,by decide +kernel,by decide +kernel⟩
noncomputable abbrev ZAj:xK:=inC (top 38) 2
noncomputable abbrev ZC9:List Str:=["self","number","place","came","let","pumped","stays","lies","spilled"]
noncomputable abbrev Y0:List Str:=ZC9.take 2
theorem K1:FnScope ZC9 Y0 (Aq ZAj):=⟨rfl,rfl,rfl,by decide +kernel,rfl,by decide +kernel,by decide +kernel⟩
noncomputable abbrev We:xK:=top 28
noncomputable abbrev Z8:List Str:=["rows","takes","passing","row","number"]
noncomputable abbrev Y7:List Str:=Z8.take 2
theorem Uq:FnScope Z8 Y7 (Aq We):=⟨rfl,rfl,rfl,by decide +kernel,rfl,by decide +kernel,by decide +kernel⟩
noncomputable abbrev Yl:xK:=top 40
noncomputable abbrev ZDl:List Str:=["house","number","places","down"]
noncomputable abbrev Xp:List Str:=ZDl.take 2
theorem ZBC:FnScope ZDl Xp (Aq Yl):=⟨rfl,rfl,rfl,by decide +kernel,rfl,by decide +kernel,by decide +kernel⟩
noncomputable abbrev ZBE:xK:=top 41
noncomputable abbrev ZCC:List Str:=["house","members","came","rows","number","place","down","row_down"]
noncomputable abbrev ZAK:List Str:=ZCC.take 3
theorem N8:FnScope ZCC ZAK (Aq ZBE):=⟨rfl,rfl,rfl,by decide +kernel,rfl,by decide +kernel,by decide +kernel⟩
noncomputable abbrev Qa:xK:=top 29
noncomputable abbrev S9:List Str:=["rows","order"]
noncomputable abbrev ZAY:List Str:=S9.take 1
theorem ZEw:FnScope S9 ZAY (Aq Qa):=⟨rfl,rfl,rfl,by decide +kernel,rfl,by decide +kernel,by decide +kernel⟩
noncomputable abbrev ZAw:xK:=top 30
noncomputable abbrev ZCO:List Str:=["rows","number","way","down"]
noncomputable abbrev X8:List Str:=ZCO.take 2
theorem V6:FnScope ZCO X8 (Aq ZAw):=⟨rfl,rfl,rfl,by decide +kernel,rfl,by decide +kernel,by decide +kernel⟩
noncomputable abbrev U9:xK:=top 27
noncomputable abbrev Zd:List Str:=["rows","takes","passing","number","way","take","below"]
noncomputable abbrev Yv:List Str:=Zd.take 1
theorem Ka:FnScope Zd Yv (Aq U9):=⟨rfl,rfl,rfl,by decide +kernel,rfl,by decide +kernel,by decide +kernel⟩
noncomputable abbrev ZBN:xK:=inC (top 38) 3
noncomputable abbrev ZFW:List Str:=["self","members","rows","takes","number","took","let"]
noncomputable abbrev X5:List Str:=ZFW.take 2
theorem Mm:FnScope ZFW X5 (Aq ZBN):=⟨rfl,rfl,rfl,by decide +kernel,rfl,by decide +kernel,by decide +kernel⟩
noncomputable abbrev ZA9:xK:=top 39
noncomputable abbrev ZFu:List Str:=["house","lasts","number","down"]
noncomputable abbrev ZBk:List Str:=ZFu.take 1
theorem Ui:FnScope ZFu ZBk (Aq ZA9):=⟨rfl,rfl,rfl,by decide +kernel,rfl,by decide +kernel,by decide +kernel⟩
noncomputable abbrev Vn:xK:=inC (top 38) 1
noncomputable abbrev Xi:List Str:=["self","lasts","number","last"]
noncomputable abbrev Wm:List Str:=Xi.take 1
theorem Vo:FnScope Xi Wm (Aq Vn):=⟨rfl,rfl,rfl,by decide +kernel,rfl,by decide +kernel,by decide +kernel⟩
noncomputable abbrev Oz:xK:=inC (top 38) 6
noncomputable abbrev Uv:List Str:=["self"]
noncomputable abbrev Zx:List Str:=Uv.take 1
theorem ZNQ:FnScope Uv Zx (Aq Oz):=⟨rfl,rfl,rfl,by decide +kernel,rfl,by decide +kernel,by decide +kernel⟩
noncomputable abbrev Yg:xK:=top 36
noncomputable abbrev ZGC:List Str:=["house","state","at","flood","course"]
noncomputable abbrev Wu:List Str:=ZGC.take 4
theorem ZFi:FnScope ZGC Wu (Aq Yg):=⟨rfl,rfl,rfl,by decide +kernel,rfl,by decide +kernel,by decide +kernel⟩
noncomputable abbrev ZBR:xK:=top 37
noncomputable abbrev ZDA:List Str:=["house","state","at","floods","pages","number","flood","page"]
noncomputable abbrev ZBm:List Str:=ZDA.take 4
theorem Nf:FnScope ZDA ZBm (Aq ZBR):=⟨rfl,rfl,rfl,by decide +kernel,rfl,by decide +kernel,by decide +kernel⟩
noncomputable abbrev Zo:xK:=top 45
noncomputable abbrev ZEO:List Str:=["house","state","floods","most","states","pages","year","behind"]
noncomputable abbrev Yn:List Str:=ZEO.take 4
theorem Qh:FnScope ZEO Yn (Aq Zo):=⟨rfl,rfl,rfl,by decide +kernel,rfl,by decide +kernel,by decide +kernel⟩
noncomputable abbrev ZAR:xK:=top 43
noncomputable abbrev ZCJ:List Str:=["house","state","floods","most","states","pages"]
noncomputable abbrev ZAc:List Str:=ZCJ.take 4
theorem ZAd:FnScope ZCJ ZAc (Aq ZAR):=⟨rfl,rfl,rfl,by decide +kernel,rfl,by decide +kernel,by decide +kernel⟩
noncomputable abbrev Zk:xK:=top 55
noncomputable abbrev ZDr:List Str:=["_law_house_here","_law_state_here","_law_floods","_law_most","_law_told","e"]
noncomputable abbrev Z5:List Str:=ZDr.take 4
theorem T4:FnScope ZDr Z5 (Aq Zk):=⟨rfl,rfl,rfl,by decide +kernel,rfl,by decide +kernel,by decide +kernel⟩
noncomputable abbrev ZA4:xK:=top 51
noncomputable abbrev ZC1:List Str:=["_law_script","_law_b","_law_cell","_law_cubes"]
noncomputable abbrev Yb:List Str:=ZC1.take 2
theorem Wk:FnScope ZC1 Yb (Aq ZA4):=⟨rfl,rfl,rfl,by decide +kernel,rfl,by decide +kernel,by decide +kernel⟩
noncomputable abbrev ZA0:xK:=top 53
noncomputable abbrev ZDo:List Str:=["_law_pair_here","_law_when","_law_one","_law_other","_law_cubes","_law_rows","_law_at"]
noncomputable abbrev Ye:List Str:=ZDo.take 2
theorem Np:FnScope ZDo Ye (Aq ZA0):=⟨rfl,rfl,rfl,by decide +kernel,rfl,by decide +kernel,by decide +kernel⟩
noncomputable abbrev Ry:xK:=top 54
noncomputable abbrev ZAm:List Str:=["_law_order","_law_pairs","_law_when","_law_rows"]
noncomputable abbrev Zv:List Str:=ZAm.take 3
theorem ZEa:FnScope ZAm Zv (Aq Ry):=⟨rfl,rfl,rfl,by decide +kernel,rfl,by decide +kernel,by decide +kernel⟩
noncomputable abbrev Gk:xK:=top 56
noncomputable abbrev ZAW:List Str:=["_law_script","_law_pairs","_law_turned","_law_order","_law_k","_law_at","_law_house_here","_law_years","_law_due","_law_floods","_law_found","_law_told"]
noncomputable abbrev ZAf:List Str:=ZAW.take 1
theorem Ga:FnScope ZAW ZAf (Aq Gk):=⟨rfl,rfl,rfl,by decide +kernel,rfl,by decide +kernel,by decide +kernel⟩
def Qi:DS:=(sAs (dOp Hh (dV 0) (dOp K7 (dC (.int 10)) (dC (.int 8)))) (gV 0))
def ZAh:DS:=(Ai (sIf (Bl (V5 Qd Ny (dC (.int 0)) (dV 0) (dOp K7 (dC (.int 10)) (dC (.int 18))))) (Ai (sAs (dOp Dj (dOp By (dOp By (dV 0) (dOp Ep (dC (.int 1009)) (dV 1))) (dC (.int 7))) (dC (.int 999999937))) (gV 0)) (Ai (sAs (dOp Dj (dOp Ep (dV 0) (dV 0)) (dC (.int 999999929))) (gV 0)) (sRt (dOp Dj (dOp Ep (dV 0) (dOp By (dV 0) (dV 1))) (dC (.int 99999989)))))) sNx) (Ai (El (Dr rng1 (Ab (dV 1) Ad)) (gV 2) Qi) (sRt (dOp Dj (dV 0) (dOp K7 (dC (.int 10)) (dC (.int 8)))))))
def O9:List D->DH->R D:=Be 2 1 ZAh
def ZAt:DS:=(sRt (Qc (dOp Mw (dFn Dc (Ab (dV 0) Ad)) (dC (.int 0))) (Xr (dOp Ny (dOp Ah (dV 0) (dC (.int 0))) (dC (.int 0))) (dOp ZBh (dOp Ah (dV 0) (dC (.int 0))) (dOp K7 (dC (.int 10)) (dC (.int 18)))))))
def Ma:List D->DH->R D:=Be 1 0 ZAt
def Mh:DS:=(Ai (sIf (Bl (dFn Ma (Ab (dV 0) Ad))) (Ai (sAs (dC (.int 0)) (gV 2)) (Ai (sIf (Bl (dOp Ny (dOp By (dC (.int 1)) (dOp Hh (dV 1) (dC (.int 14)))) (dFn Dc (Ab (dV 0) Ad)))) (sAs (dOp Ah (dV 0) (dOp By (dC (.int 1)) (dOp Hh (dV 1) (dC (.int 14))))) (gV 2)) sNx) (sRt (dFn O9 (Ab (dV 2) (Ab (dOp Dj (dV 1) (dC (.int 14))) Ad)))))) sNx) (Ai (sIf (Bl (dOp Ny (dV 1) (dFn Dc (Ab (dV 0) Ad)))) (sRt (dOp Ah (dV 0) (dV 1))) sNx) (Ai (sAs (dOp Dj (dOp Ep (dC (.int 48271)) (dOp By (dOp Ep (dV 1) (dV 1)) (dOp Ep (dC (.int 7)) (dFn Dc (Ab (dV 0) Ad))))) (dC (.int 2147483647))) (gV 2)) (Ai (sIf (Bl (dOp Mw (dFn Dc (Ab (dV 0) Ad)) (dC (.int 0)))) (sAs (dOp By (dV 2) (dOp Dj (dOp Ep (dOp Ah (dV 0) (dOp Dj (dV 1) (dFn Dc (Ab (dV 0) Ad)))) (dC (.int 69621))) (dC (.int 2147483629)))) (gV 2)) sNx) (sRt (dV 2))))))
def Gn:List D->DH->R D:=Be 2 1 Mh
def ZBq:DS:=(sRt (dFn Bj (Ab (dC (.str "basin")) (Ab (dV 0) (Ab (dV 1) (Ab (dV 4) (Ab (dC (.int 0)) (Ab (dFn Bj (Ab (dFn Bj (Ab (dC (.int 0)) (Ab (dFn Bj (Ab (dFn Bj (Ab (dC (.int 0)) (Ab (dV 2) (Ab (dC (.str "pump")) Ad)))) Ad)) Ad))) Ad)) (Ab (dFn Bj (Ab (dV 3) (Ab (dV 4) (Ab (dV 2) Ad)))) Ad)))))))))
def U5:List D->DH->R D:=Be 5 0 ZBq
def Ko:DS:=(Ai (sAs (dOp Ah (dV 1) (dOp Hh (dV 4) (dC (.int 2)))) (Bd 3 (Al (gV 5) (Al (gV 6) (Al (gV 7) Bf))))) (Ai (sAs (dOp Ah (Bu (dFn Aw (Ab (dV 5) (Ab (dV 6) Ad)))) (dOp Dj (dV 4) (dC (.int 2)))) (gV 8)) (sEx (Hj Ih (dV 3) (Ab (dFn U5 (Ab (dOp Ah (dV 2) (dV 4)) (Ab (dC (.str "sea")) (Ab (dV 7) (Ab (dOp Ah (dV 2) (dOp Dy (dOp By (dV 4) (dC (.int 1))) (dOp Ep (dC (.int 2)) (dOp Dj (dV 4) (dC (.int 2)))))) (Ab (dV 8) Ad)))))) Ad)))))
def ZCB:DS:=(Ai (sAs (Bu (dFn Aw (Ab (dC (.str "aa")) (Ab (dC (.str "ab")) (Ab (dC (.str "ba")) (Ab (dC (.str "bb")) Ad)))))) (gV 2)) (Ai (sAs (Di (dFn Aw Ad)) (gV 3)) (Ai (El (Fq (dV 0)) (gV 4) Ko) (sRt (dFn Bj (Ab (dC (.int 1)) (Ab (dFn Gs (Ab (dV 3) Ad)) Ad)))))))
def W4:List D->DH->R D:=Be 2 7 ZCB
def ZEC:DS:=(sIf (Bl (dOp Gx (dFn Dc (Ab (dV 1) Ad)) (dOp Ah (dV 0) (dC (.int 0))))) Zr sNx)
def Td:List D->DH->R D:=Be 2 0 ZEC
def Rk:DE:=(dOp By (dV 0) (dOp Ah (dV 1) (dC (.int 0))))
def Ob:DE:=(Di (dOp By (Bu (dFn Ke (Ab (Bu (dSl (dV 0) (vB (dC (.int 1))) vC)) Ad))) (Bu (dFn Aw (Ab (dC (.int 0)) Ad)))))
def ZEF:DS:=(Ai (sAs (dV 2) (Bd 2 (Al (gV 5) (Al (gV 6) Bf)))) (Ai (Es "Course" (dV 0) (dV 1) "house") (Ai (Es "Course" (dV 0) (dV 5) "levels") (Ai (Es "Course" (dV 0) (dOp Dj (dV 3) (dOp Ah (dV 1) (dC (.int 0)))) "year_turn") (Ai (Es "Course" (dV 0) (Ex (Dr (Gz 2) (Ab (dV 4) (Ab (dV 6) Ad))) 2 [] (Bd 2 (Al (gV 0) (Al (gV 1) Bf))) Ci Rk) "came") (Ai (Es "Course" (dV 0) (Ex (Fq (dV 6)) 1 [] (gV 0) Ci Ob) "coming") (Ai (Es "Course" (dV 0) (Di (dOp Jd (dFn Aw (Ab (dC .non) Ad)) (dFn Dc (Ab (dV 5) Ad)))) "page") (Es "Course" (dV 0) (Di (dFn Aw Ad)) "reaches"))))))))
def Oe:List D->DH->R D:=Be 5 2 ZEF
def ZEI:DS:=(sIf (Bl (dOp Ej (dV 2) (dC (.int 0)))) (Nu (Dm "Course" (dV 0) "came") (dV 1) (dV 3) Jz) (Nu (dOp Ah (Dm "Course" (dV 0) "coming") (dV 1)) (dOp Dy (dV 2) (dC (.int 1))) (dV 3) Jz))
def Q7:List D->DH->R D:=Be 4 0 ZEI
def Mf:DS:=(sIf (Bl (dOp Ej (dOp Ah (dV 3) (dC (.int 1))) (dV 1))) (sRt (dV 2)) sNx)
def ZCG:DS:=(Ai (El (Dr Gu (Ab (dOp Ah (dV 0) (dC (.int 1))) Ad)) (Bd 2 (Al (gV 2) (Al (gV 3) Bf))) Mf) Zr)
def Oi:List D->DH->R D:=Be 2 2 ZCG
def ZEg:DS:=(Ai (sAs (dOp Ah (dOp Ah (dOp Ah (dV 0) (dC (.int 1))) (dV 1)) (dC (.int 2))) (gV 2)) (Ai (sIf (Bl (dOp Ej (dV 2) (dC (.str "sea")))) (sRt (dC .non)) sNx) (sRt (dFn Oi (Ab (dV 0) (Ab (dV 2) Ad))))))
def R1:List D->DH->R D:=Be 2 1 ZEg
def ZEe:DS:=(Ai (sAs (dFn R1 (Ab (Dm "Course" (dV 0) "house") (Ab (dV 1) Ad))) (gV 3)) (sIf (Bl (dOp Ly (dV 3) (dC .non))) (sEx (Gw "Course" "send" Q7 (dV 0) (Ab (dV 3) (Ab (dOp Ah (dOp Ah (dOp Ah (Dm "Course" (dV 0) "house") (dC (.int 1))) (dV 1)) (dC (.int 3))) (Ab (dV 2) Ad))))) sNx))
def R7:List D->DH->R D:=Be 3 1 ZEe
def Sy:DS:=(Ai (sAs (dFn Wa (Ab (dC (.int 0)) (Ab (dFn O3 (Ab (dV 5) (Ab (dOp Dy (dV 1) (dV 4)) Ad))) Ad))) (gV 7)) (sIf (Bl (dOp Ej (dV 6) (dC (.str "river")))) (sAu 2 (dV 7) Jz) (sAu 3 (dV 7) Jz)))
def ZFX:DS:=(Ai (sAs (dC (.int 0)) (gV 2)) (Ai (sAs (dC (.int 0)) (gV 3)) (Ai (El (Fq (dV 0)) (Bd 3 (Al (gV 4) (Al (gV 5) (Al (gV 6) Bf)))) Sy) (sRt (dFn Bj (Ab (dV 2) (Ab (dV 3) (Ab (dOp Dy (dOp Dy (dV 1) (dV 2)) (dV 3)) Ad))))))))
def Ul:List D->DH->R D:=Be 2 6 ZFX
def Sx:DS:=(sIf (Bl (dOp Qd (dV 3) (dV 1))) (sAs (dV 4) (gV 2)) sNx)
def ZC5:DS:=(Ai (sAs (dFn Bj Ad) (gV 2)) (Ai (El (Fq (dV 0)) (Bd 2 (Al (gV 3) (Al (gV 4) Bf))) Sx) (sRt (dV 2))))
def Ud:List D->DH->R D:=Be 2 3 ZC5
def ZDG:DS:=(Ai (sAs (dOp Ah (dOp Ah (Dm "Course" (dV 0) "house") (dC (.int 1))) (dV 1)) (gV 2)) (Ai (sAs (dOp Ah (Dm "Course" (dV 0) "came") (dV 1)) (gV 3)) (Ai (sAs (dFn Ul (Ab (dFn Ud (Ab (dOp Ah (dV 2) (dC (.int 5))) (Ab (Dm "Course" (dV 0) "year_turn") Ad))) (Ab (dOp By (dOp Ah (Dm "Course" (dV 0) "levels") (dV 1)) (dV 3)) Ad))) (Bd 3 (Al (gV 4) (Al (gV 5) (Al (gV 6) Bf))))) (Ai (sAs (dFn O3 (Ab (dV 6) (Ab (dOp Ah (dV 2) (dC (.int 4))) Ad))) (gV 7)) (Ai (sAs (dOp Dy (dV 6) (dV 7)) (gV 8)) (Ai (sAs (dFn Bj (Ab (dV 3) (Ab (dC (.int 0)) (Ab (dV 8) (Ab (dV 4) (Ab (dV 5) (Ab (dV 7) Ad))))))) (gIx (Dm "Course" (dV 0) "page") (dV 1))) (Ai (sEx (Gw "Course" "send_down" R7 (dV 0) (Ab (dV 1) (Ab (dOp By (dV 4) (dV 8)) Ad)))) (sIf (Bl (dOp Ly (dOp Ah (dV 2) (dC (.int 6))) (dC .non))) (sEx (Gw "Course" "send" Q7 (dV 0) (Ab (dFn Oi (Ab (Dm "Course" (dV 0) "house") (Ab (dOp Ah (dOp Ah (dV 2) (dC (.int 6))) (dC (.int 0))) Ad))) (Ab (dOp Ah (dOp Ah (dV 2) (dC (.int 6))) (dC (.int 1))) (Ab (dV 5) Ad))))) sNx))))))))
def Wb:List D->DH->R D:=Be 2 7 ZDG
def ZA6:DE:=(dOp Dy (dOp Ah (dV 0) (dC (.int 1))) (dV 1))
def Ls:DS:=(sIf (Bl (dOp Ly (dOp Ah (dV 3) (dC (.int 0))) (dC .non))) (Nu (dV 2) (dOp Ah (dV 3) (dC (.int 0))) (dOp Ah (dV 2) (dV 4)) Jz) sNx)
def ZEk:DS:=(Ai (sAs (Ex (Dr (Gz 2) (Ab (dV 0) (Ab (dV 1) Ad))) 2 [] (Bd 2 (Al (gV 0) (Al (gV 1) Bf))) Ci ZA6) (gV 2)) (Ai (El (Dr Gu (Ab (dV 0) Ad)) (Bd 2 (Al (gV 4) (Al (gV 3) Bf))) Ls) (sRt (dV 2))))
def M5:List D->DH->R D:=Be 2 3 ZEk
def ZEV:DS:=(Ai (sAs (dOp Ah (dV 0) (dC (.int 1))) (gV 2)) (Ai (sAs (dFn R1 (Ab (dV 0) (Ab (dV 1) Ad))) (gV 3)) (Ai (sIf (dOr (Bl (dOp Uj (dV 3) (dC .non))) (Bl (dOp Mw (dOp Ah (dOp Ah (dV 2) (dV 1)) (dC (.int 3))) (dC (.int 0))))) (sRt (dC .non)) sNx) (Ai (sIf (dOr (Bl (dOp Ej (dOp Ah (dOp Ah (dV 2) (dV 1)) (dC (.int 0))) (dC (.str "basin")))) (Bl (dOp Ej (dOp Ah (dOp Ah (dV 2) (dV 3)) (dC (.int 0))) (dC (.str "basin"))))) (sRt (dC .non)) sNx) (sRt (dV 3))))))
def Pu:List D->DH->R D:=Be 2 2 ZEV
def Ot:DS:=(Ai (sAs (dOp Ah (dOp Ah (dV 0) (dC (.int 1))) (dV 4)) (gV 5)) (Ai (sAs (dFn Pu (Ab (dV 0) (Ab (dV 4) Ad))) (gV 6)) (Ai (sAs (dIf (Bl (dOp Uj (dV 6) (dC .non))) (dC .non) (Hj N5 (dV 1) (Ab (dV 6) Ad))) (gV 7)) (sIf (Bl (dOp Ej (dOp Ah (dV 5) (dC (.int 0))) (dC (.str "town")))) (sEx (Hj Ih (dV 3) (Ab (dFn Bj (Ab (dV 7) (Ab (dOp Ah (dV 2) (dV 4)) (Ab (dOp Ah (dV 5) (dC (.int 4))) (Ab (dOp Ah (dV 5) (dC (.int 5))) Ad))))) Ad))) (sEx (Hj Ih (dV 3) (Ab (dFn Bj (Ab (dV 7) (Ab (dOp Ah (dV 2) (dV 4)) (Ab (dC (.int 0)) (Ab (dC (.int 0)) Ad))))) Ad)))))))
def ZCl:DS:=(Ai (sAs (Di (dFn Aw Ad)) (gV 3)) (Ai (El (Fq (dV 1)) (gV 4) Ot) (sRt (dV 3))))
def Vd:List D->DH->R D:=Be 3 5 ZCl
def ZAk:DE:=(dFn Bj (Ab (dOp Ah (dV 1) (dC (.int 3))) (Ab (dV 0) Ad)))
def Wt:DE:=(dV 1)
def ZCZ:DS:=(Ai (sAs (Bu (dFn P0 (Ab (Bu (Ex (Dr Gu (Ab (dV 0) Ad)) 2 [] (Bd 2 (Al (gV 0) (Al (gV 1) Bf))) Ci ZAk)) Ad))) (gV 1)) (sRt (Ex (Fq (dV 1)) 2 [] (Bd 2 (Al (gV 0) (Al (gV 1) Bf))) Ci Wt)))
def Tn:List D->DH->R D:=Be 1 1 ZCZ
def R4:DS:=(Ai (sEx (Hj Ih (dV 2) (Ab (dV 3) Ad))) (sAs (dOp Ah (dOp Ah (dV 0) (dV 3)) (dC (.int 0))) (gV 3)))
def Lx:DB:=(Bl (dOp Ly (dV 3) (dC .non)))
def ZFI:DS:=(Ai (sAs (Di (dFn Aw (Ab (dV 1) Ad))) (gV 2)) (Ai (sAs (dOp Ah (dOp Ah (dV 0) (dV 1)) (dC (.int 0))) (gV 3)) (Ai (sWh Lx R4 fuel) (sRt (dV 2)))))
def Sg:List D->DH->R D:=Be 2 2 ZFI
def Xk:DE:=(dOp Ah (dV 1) (dV 0))
def Vp:DS:=(Nu (dV 2) (dV 6) (dV 5) Dy)
def Q0:DS:=(Ai (sAs (Bu (dFn Sg (Ab (dV 0) (Ab (dV 3) Ad)))) (gV 4)) (Ai (sAs (dFn O3 (Ab (dOp Ah (dOp Ah (dV 0) (dV 3)) (dC (.int 2))) (Ab (dFn Mq (Ab (Bu (Ex (Fq (dV 4)) 1 [2] (gV 0) Ci Xk)) Ad)) Ad))) (gV 5)) (Ai (sAs (dV 5) (gIx (dV 1) (dV 3))) (El (Fq (dV 4)) (gV 6) Vp))))
def ZEL:DS:=(Ai (sAs (Di (dOp Jd (dFn Aw (Ab (dC (.int 0)) Ad)) (dFn Dc (Ab (dV 0) Ad)))) (gV 1)) (Ai (sAs (Di (dFn M5 (Ab (dV 0) (Ab (dV 1) Ad)))) (gV 2)) (Ai (El (Fq (Bu (dFn Tn (Ab (dV 0) Ad)))) (gV 3) Q0) (sRt (dV 1)))))
def Uc:List D->DH->R D:=Be 1 6 ZEL
def Jw:DS:=(Ai (sAs (dFn Bj (Ab (dOp By (dV 5) (dV 6)) (Ab (dV 5) (Ab (dC (.int 0)) (Ab (dV 6) (Ab (dC (.int 0)) (Ab (dC (.int 0)) Ad))))))) (gIx (Dm "Course" (dV 0) "page") (dV 4))) (sIf (Bl (dOp Ej (dV 4) (dOp Ah (dV 1) (dUn Ib (dC (.int 1)))))) (sEx (Gw "Course" "send_down" R7 (dV 0) (Ab (dV 4) (Ab (dV 6) Ad)))) sNx))
def ZD6:DS:=(Ai (sAs (Bu (dFn Vd (Ab (Dm "Course" (dV 0) "house") (Ab (dV 1) (Ab (Dm "Course" (dV 0) "came") Ad))))) (gV 2)) (Ai (sAs (Bu (dFn Uc (Ab (dV 2) Ad))) (gV 3)) (Ai (El (Dr (Gz 3) (Ab (dV 1) (Ab (dV 3) (Ab (Bu (dFn M5 (Ab (dV 2) (Ab (dV 3) Ad)))) Ad)))) (Bd 3 (Al (gV 4) (Al (gV 5) (Al (gV 6) Bf)))) Jw) (sEx (Hj Ih (Dm "Course" (dV 0) "reaches") (Ab (Di (dFn Bj (Ab (dV 1) (Ab (dV 2) Ad)))) Ad))))))
def V1:List D->DH->R D:=Be 2 5 ZD6
def V3:DS:=(Ai (sAs (dFn Pu (Ab (dV 0) (Ab (dV 2) Ad))) (gV 3)) (sIf (Bl (dOp Ly (dV 3) (dC .non))) (sAs (dOp Ah (dV 1) (dV 3)) (gIx (dV 1) (dV 2))) sNx))
def ZEt:DS:=(Ai (sAs (Di (dLR (Ab (dFn Dc (Ab (dOp Ah (dV 0) (dC (.int 1))) Ad)) Ad))) (gV 1)) (Ai (El (Dr rng3 (Ab (dOp Dy (dFn Dc (Ab (dOp Ah (dV 0) (dC (.int 1))) Ad)) (dC (.int 1))) (Ab (dUn Ib (dC (.int 1))) (Ab (dUn Ib (dC (.int 1))) Ad)))) (gV 2) V3) (sRt (dV 1))))
def T3:List D->DH->R D:=Be 1 3 ZEt
def Uk:DE:=(dV 0)
def Ow:DB:=(Bl (dOp Ej (dV 1) (dV 2)))
def Nr:DS:=(sIf (Bl (dOp Ej (dOp Ah (dOp Ah (dOp Ah (Dm "Course" (dV 0) "house") (dC (.int 1))) (dV 2)) (dC (.int 0))) (dC (.str "basin")))) (sEx (Gw "Course" "go_basin" Wb (dV 0) (Ab (dV 2) Ad))) (sIf (Bl (dOp Ej (dV 3) (dV 2))) (sEx (Gw "Course" "go_reach" V1 (dV 0) (Ab (Bu (Ex (Dr Gu (Ab (dV 1) Ad)) 2 [2] (Bd 2 (Al (gV 0) (Al (gV 1) Bf))) Ow Uk)) Ad))) sNx))
def ZGX:DS:=(Ai (sAs (Bu (dFn T3 (Ab (Dm "Course" (dV 0) "house") Ad))) (gV 1)) (El (Dr Gu (Ab (dV 1) Ad)) (Bd 2 (Al (gV 2) (Al (gV 3) Bf))) Nr))
def V2:List D->DH->R D:=Be 1 3 ZGX
def Tg:DE:=(dOp Ah (dV 0) (dC (.int 5)))
def Tr:DE:=(dFn Gs (Ab (dV 0) Ad))
def ZCb:DS:=(sRt (dFn Bj (Ab (dFn Gs (Ab (Bu (Ex (Fq (Dm "Course" (dV 0) "page")) 1 [] (gV 0) Ci Tg)) Ad)) (Ab (dFn Gs (Ab (Bu (Ex (Fq (Dm "Course" (dV 0) "coming")) 1 [] (gV 0) Ci Tr)) Ad)) Ad))))
def Ti:List D->DH->R D:=Be 1 0 ZCb
def ZDz:DS:=(Ai (sAs (ZAZ "Course" Oe (Ab (dV 0) (Ab (dV 1) (Ab (dV 2) (Ab (dV 3) Ad))))) (gV 4)) (Ai (sEx (Gw "Course" "go" V2 (dV 4) Ad)) (sRt (dFn Bj (Ab (dFn Gs (Ab (Dm "Course" (dV 4) "page") Ad)) (Ab (Gw "Course" "state_behind" Ti (dV 4) Ad) Ad))))))
def Rx:List D->DH->R D:=Be 4 1 ZDz
def Py:DS:=(Ai (sAs (dFn Rx (Ab (dV 0) (Ab (dV 1) (Ab (dV 5) (Ab (dV 6) Ad))))) (Bd 2 (Al (gV 7) (Al (gV 1) Bf)))) (sEx (Hj Ih (dV 4) (Ab (dV 7) Ad))))
def ZFC:DS:=(Ai (sAs (Di (dFn Aw Ad)) (gV 4)) (Ai (El (ZA5 (Ab (dV 3) Ad) (dV 2)) (Bd 2 (Al (gV 5) (Al (gV 6) Bf))) Py) (sRt (dFn Bj (Ab (dV 4) (Ab (dV 1) Ad))))))
def O5:List D->DH->R D:=Be 4 4 ZFC
def Lg:DS:=(Ai (sIf (Bl (dOp Mw (dFn Dc (Ab (dV 4) Ad)) (dV 3))) (sRz "TooLong" "most" (Ab (dV 3) Ad)) sNx) (Ai (sNr (sAs (Di (dFn O5 (Ab (dV 0) (Ab (dOp Ah (dV 4) (dUn Ib (dC (.int 1)))) (Ab (dC (.int 0)) (Ab (dV 2) Ad)))))) (Bd 2 (Al (gV 6) (Al (gV 7) Bf))))) (Ai (sNr (sEx (Hj Ra (dV 5) (Ab (dV 6) Ad)))) (sNr (sEx (Hj Ih (dV 4) (Ab (dV 7) Ad)))))))
def Qe:DB:=(Bl (dOp N7 (dOp Ah (dV 4) (dUn Ib (dC (.int 1)))) (Bu (dSl (dV 4) vC (vB (dUn Ib (dC (.int 1))))))))
def Zh:DS:=(Ai (sNr (sAs (Di (dFn Aw (Ab (dV 1) Ad))) (gV 4))) (Ai (sNr (sAs (Di (dFn Aw Ad)) (gV 5))) (Ai (sWh Qe Lg fuel) (sNr (sRt (dFn Bj (Ab (dV 4) (Ab (dV 5) Ad))))))))
def Kz:List D->DH->R D:=Be 4 4 Zh
def Yj:DS:=(Ai (sNr (sEx (dFn Td (Ab (dV 0) (Ab (dV 2) Ad))))) (Ai (sAs (Bu (dFn Kz (Ab (dV 0) (Ab (dV 1) (Ab (dV 2) (Ab (dV 3) Ad)))))) (Bd 2 (Al (gV 4) (Al (gV 5) Bf)))) (sNr (sRt (dV 4)))))
def Jg:List D->DH->R D:=Be 4 2 Yj
def ZCo:DS:=(sAs (dUn (gtx ["TooLong"] "most") (dV 5)) (gV 4))
def ZE8:DS:=(Ai (sAs (dC .non) (gV 4)) (Ai (Oo ["TooLong"] 5 Jg (Ab (dV 0) (Ab (dV 1) (Ab (dV 2) (Ab (dV 3) Ad)))) ZCo) (sRt (dV 4))))
def Vx:List D->DH->R D:=Be 4 2 ZE8
def ZFd:DS:=(Ai (sAs (dFn Gn (Ab (dV 0) (Ab (dV 1) Ad))) (gV 2)) (Ai (sAs (dOp By (dC (.int 1)) (dOp Dj (dFn Gn (Ab (dV 0) (Ab (dOp By (dV 1) (dC (.int 1))) Ad))) (dOp K7 (dC (.int 10)) (dC (.int 30))))) (gV 3)) (sRt (dFn Bj (Ab (dOp By (dC (.int 1)) (dOp Dj (dV 2) (dC (.int 5)))) (Ab (dOp By (dC (.int 1)) (dOp Dj (dOp Hh (dV 2) (dC (.int 5))) (dC (.int 5)))) (Ab (dV 3) Ad)))))))
def Kv:List D->DH->R D:=Be 2 2 ZFd
def Tv:DS:=(Ai (sAs (dV 0) (Bd 3 (Al (gV 2) (Al (gV 3) (Al (gV 4) Bf))))) (Ai (sAs (Di (dFn Aw (Ab (Di (dFn Aw (Ab (dC (.int 0)) (Ab (dC (.int 0)) (Ab (dC (.int 0)) (Ab (dC (.int 0)) (Ab (dC (.int 0)) Ad))))))) (Ab (Di (dFn Aw (Ab (dC (.int 0)) (Ab (dC (.int 0)) (Ab (dC (.int 0)) (Ab (dC (.int 0)) (Ab (dC (.int 0)) Ad))))))) Ad)))) (gV 5)) (Ai (sAs (dOp Dj (dV 1) (dOp By (dV 2) (dV 3))) (gV 6)) (Ai (sIf (Bl (dOp Ej (dV 6) (dC (.int 0)))) (sAs (dV 4) (gIx (dOp Ah (dV 5) (dC (.int 0))) (dC (.int 0)))) (sIf (Bl (dOp Qd (dV 6) (dV 2))) (sAs (dV 4) (gIx (dOp Ah (dV 5) (dC (.int 1))) (dOp Dy (dV 2) (dV 6)))) (sAs (dV 4) (gIx (dOp Ah (dV 5) (dC (.int 0))) (dOp Dy (dOp By (dV 2) (dV 3)) (dV 6)))))) (sRt (dV 5))))))
def K6:List D->DH->R D:=Be 2 5 Tv
def Rr:DE:=(dFn Gs (Ab (dOp Ah (dV 1) (dV 0)) Ad))
def ZF3:DS:=(Ai (sAs (Bu (dOp By (Bu (dFn K6 (Ab (dOp Ah (dV 1) (dC (.int 0))) (Ab (dV 2) Ad)))) (Bu (dFn K6 (Ab (dOp Ah (dV 1) (dC (.int 1))) (Ab (dV 2) Ad)))))) (gV 3)) (sRt (dFn Bj (Ab (dFn Bj (Ab (dC (.int 0)) (Ab (dC (.int 0)) (Ab (dC (.int 0)) (Ab (dC (.int 0)) Ad))))) (Ab (dFn Gs (Ab (Bu (Ex (Fq (dV 0)) 1 [3] (gV 0) Ci Rr)) Ad)) Ad)))))
def T6:List D->DH->R D:=Be 3 1 ZF3
def Qg:DS:=(Ai (sAs (dOp By (dV 4) (dOp Dj (dV 2) (dOp Dy (dC (.int 4)) (dV 4)))) (gV 5)) (Ai (sAs (dFn Bj (Ab (dOp Ah (dV 3) (dV 5)) (Ab (dOp Ah (dV 3) (dV 4)) Ad))) (Bd 2 (Al (gIx (dV 3) (dV 4)) (Al (gIx (dV 3) (dV 5)) Bf)))) (sAs (dOp Hh (dV 2) (dOp Dy (dC (.int 4)) (dV 4))) (gV 2))))
def Rg:DS:=(sAs (dOp By (dV 7) (dC (.int 1))) (gV 7))
def Kr:DB:=(dOr (Bl (dOp Gx (dOp Dj (dV 7) (dOp By (dOp Ah (dOp Ah (dV 1) (dC (.int 0))) (dC (.int 0))) (dOp Ah (dOp Ah (dV 1) (dC (.int 0))) (dC (.int 1))))) (dC (.int 0)))) (Bl (dOp Gx (dOp Dj (dV 7) (dOp By (dOp Ah (dOp Ah (dV 1) (dC (.int 1))) (dC (.int 0))) (dOp Ah (dOp Ah (dV 1) (dC (.int 1))) (dC (.int 1))))) (dC (.int 0)))))
def Qz:DE:=(dFn T6 (Ab (dV 2) (Ab (dV 1) (Ab (dV 0) Ad))))
def ZCh:DS:=(sRt (Qc (dFn Hn (Ab (dV 11) (Ab (dC (.ty "int")) Ad))) (Qc (Zw (dFn Hn (Ab (dV 11) (Ab (dC (.ty "bool")) Ad)))) (dOp Ej (dV 11) (dOp Dy (dV 7) (dC (.int 1)))))))
def ZEo:DS:=(Ai (sAs (dFn Vx (Ab (dV 6) (Ab (dOp Ah (dV 8) (dC (.int 0))) (Ab (dV 9) (Ab (dOp Dy (dV 7) (dC (.int 1))) Ad))))) (gV 11)) ZCh)
def ZDR:DS:=(Ai (sIf (dOr (ZBO (Bl (dFn Hn (Ab (dV 10) (Ab (dC (.ty "list")) Ad))))) (dOr (Bl (dOp Gx (dV 10) (dV 8))) (Bl (dOp Gx (dFn Jg (Ab (dV 6) (Ab (dOp Ah (dV 8) (dC (.int 0))) (Ab (Bu (dFn Ke (Ab (dV 9) Ad))) (Ab (dV 7) Ad))))) (dV 8))))) (sRt (dC (.bl vE))) sNx) ZEo)
def ZBz:DS:=(Ai (sAs (dFn (dfx 100 Jg) (Ab (dV 6) (Ab (dOp Ah (dV 8) (dC (.int 0))) (Ab (Bu (dFn Ke (Ab (dV 9) Ad))) Ad)))) (gV 10)) ZDR)
def ZC6:DS:=(Ai (sAs (Bu (dFn Aw (Ab (dFn Bj (Ab (dC (.int 0)) (Ab (dC (.int 0)) (Ab (dC (.int 0)) (Ab (dC (.int 0)) Ad))))) Ad))) (gV 9)) ZBz)
def Zt:DS:=(Ai (sAs (Bu (Ex (Dr rng1 (Ab (dOp By (dV 7) (dC (.int 1))) Ad)) 1 [1,3] (gV 0) Ci Qz)) (gV 8)) ZC6)
def ZFH:DS:=(Ai (sWh Kr Rg fuel) Zt)
def ZD1:DS:=(Ai (sAs (dC (.int 1)) (gV 7)) ZFH)
def ZGE:DS:=(Ai (sAs (dFn W4 (Ab (dV 3) (Ab (dV 1) Ad))) (gV 6)) ZD1)
def ZB5:DS:=(Ai (El (Dr rng1 (Ab (dC (.int 3)) Ad)) (gV 4) Qg) ZGE)
def ZB1:DS:=(Ai (sAs (Di (dFn Aw (Ab (dC (.int 0)) (Ab (dC (.int 1)) (Ab (dC (.int 2)) (Ab (dC (.int 3)) Ad)))))) (gV 3)) ZB5)
def ZDs:DS:=(Ai (sAs (dFn Gn (Ab (dV 0) (Ab (dC (.int 4)) Ad))) (gV 2)) ZB1)
def ZEQ:DS:=(Ai (sAs (Bu (dFn Aw (Ab (dFn Kv (Ab (dV 0) (Ab (dC (.int 0)) Ad))) (Ab (dFn Kv (Ab (dV 0) (Ab (dC (.int 2)) Ad))) Ad)))) (gV 1)) ZDs)
def Lb:List D->DH->R D:=Be 1 11 ZEQ
def Holds:Prop:=∀ns:List Int,ns.length<=63->∃G,Lb [.fl (ns.map D.int)] []=.ok (.bl vD) G
end _W
namespace _W
open PySem _L _D
variable{ns l:List Int}{k m i d b j p to dl w Y M v:Nat}{F T ca fl lv:Nat->Int}{G L:DH}{A:DO}{ds xs:List D}{ws ms od:List Nat}{α:Type}{t c a at_ most:Int}{H LV:D}{pg:Nat->List Int}{S:DSt}{co:Nat->Nat->Int}{g:DG}{e:Nat->Nat}{s0 s1 s2 s5 s6 s7 s8 s9 s10 s11:Option D}
theorem ZHz:∃b,∀G,Ma [.fl (ns.map D.int)] G=.ok (.bl b) G:=by
 cases ns with
 |nil=>exact⟨vE,λG=>by unfold Ma ZAt;rw[Bh];simp[Ce]⟩
 |cons n r=>
  refine⟨decide (n<0)||decide (1000000000000000000<=n),λG=>?_⟩;unfold Ma ZAt;rw[Bh];have a0:atI ((n::r).map D.int) 0=vB (.int n):=Er (k:=0) rfl rfl;by_cases h:n<0
  ·simp[a0,h,Ce]
  ·simp[a0,h,Ce]
noncomputable def offV:Nat->Int->Int
 |0,v=>v
 |n+1,v=>offV n (v/100000000)
theorem ZEJ{k:D}{G:DH}:∀(n:Nat)(j:Nat)(v:Int)(x:Option D),∃x',Bm (gV 2) Qi (Do j n) [vB (.int v),vB k,x] G=.nx [vB (.int (offV n v)),vB k,x'] G
 |0,j,v,x=>⟨x,by rw[ZBn,Hy];rfl⟩
 |n+1,j,v,x=>by
  obtain⟨x',ih⟩:=ZEJ (k:=k) (G:=G) n (j+1) (v/100000000) (vB (.int j));refine⟨x',?_⟩;have hb:Qi [vB (.int v),vB k,vB (.int j)] G=.nx [vB (.int (v/100000000)),vB k,vB (.int j)] G:=by unfold Qi;simp
  rw[ZFn,Et];simp only[Ea,R.Dk,qS,hb,Eb];have e1:((j:Int)+1)=((j+1:Nat):Int):=by lia
  rw[e1,ih]
  rfl
theorem ZCM{v:Int}(hk:k<=1000):∃r:Int,(0<=r/\r<100000000)/\∀G,O9 [.int v,.int k] G=.ok (.int r) G:=by
 by_cases h:0<=v/\v<1000000000000000000
 ·let a:=(v+1009*(k:Int)+7)%999999937;let b:=a*a%999999929;refine⟨b*(b+k)%99999989,by lia,λG=>?_⟩;have ha:0<=a/\a<999999937:=by lia
  have hb:0<=b/\b<999999929:=by lia
  unfold O9 ZAh;rw[Bh];have m1:Ep (.int a) (.int a)=λG=>R.ok (.int (a*a)) G:=by funext G;exact W9 (by lia) (by lia)
  have m2:Ep (.int b) (.int (b+k))=λG=>R.ok (.int (b*(b+k))) G:=by funext G;exact W9 (by lia) (by lia)
  simp[h.1,h.2]
  rw[show(v+1009*(k:Int)+7)%999999937=a from rfl,m1]
  simp
  rw[show a*a%999999929=b from rfl,m2]
  simp[Ce]
 ·refine⟨offV k v%100000000,by lia,λG=>?_⟩;obtain⟨x',hx⟩:=ZEJ (k:=.int k) (G:=G) k 0 v vC;have hx':Bm (gV 2) Qi (Do 0 k) [vB (.int v),vB (.int k),vC] G=.nx [vB (.int (offV k v)),vB (.int k),x'] G:=hx;unfold O9 ZAh;rw[Bh];have hr:inR (k:Int):=O8 (by lia) (by lia);by_cases h0:0<=v
  ·have h1:¬v<1000000000000000000:=λz=>h ⟨h0,z⟩
   simp[h0,h1,hr,hx',Ce]
  ·simp[h0,hr,hx',Ce]
theorem ZCx(hl:ns.length<=63)(hk:k<=1000):∃v:Int,∀G,Gn [.fl (ns.map D.int),.int k] G=.ok (.int v) G:=by
 obtain⟨b,ht⟩:=ZHz (ns:=ns);have hd:((k:Int)/14)=((k/14:Nat):Int):=by lia
 have hm:((k:Int)%14)=((k%14:Nat):Int):=by lia
 cases b with
 | true=>
  by_cases h:1+k/14<ns.length
  ·obtain⟨r,hr,ho⟩:=ZCM (v:=ns[1+k/14]) (k:=k%14) (by lia);refine⟨r,λG=>?_⟩;unfold Gn Mh;rw[Bh];have a1:atI (ns.map D.int) (1+(k:Int)/14)=vB (.int ns[1+k/14]):=Er (k:=1+k/14) (by lia) (by rw[zq,zZ h];rfl);have hc:(1+(k:Int)/14)<ns.length:=by lia
   simp[ht,hc,a1];rw[hm,ho];simp[Ce]
  ·obtain⟨r,hr,ho⟩:=ZCM (v:=0) (k:=k%14) (by lia);refine⟨r,λG=>?_⟩;unfold Gn Mh;rw[Bh];have hc:¬(1+(k:Int)/14)<ns.length:=by lia
   simp[ht,hc];rw[hm,ho];simp[Ce]
 | false=>
  by_cases h:k<ns.length
  ·refine⟨ns[k],λG=>?_⟩;unfold Gn Mh;rw[Bh];have a1:atI (ns.map D.int) (k:Int)=vB (.int ns[k]):=Er (k:=k) rfl (by rw[zq,zZ h];rfl);simp[ht,h,a1,Ce]
  ·have m0:∀G,Ep (.int k) (.int k) G=R.ok (.int ((k:Int)*k)) G:=λG=>W9 (by lia) (by lia)
   by_cases h0:0<ns.length
   ·have hi:k%ns.length<ns.length:=j3 _ h0;refine⟨48271*((k:Int)*k+7*ns.length)%2147483647+ns[k%ns.length]*69621%2147483629,λG=>?_⟩;unfold Gn Mh;rw[Bh];have a1:atI (ns.map D.int) ((k:Int)%ns.length)=vB (.int ns[k%ns.length]):=Er (k:=k%ns.length) (by simp) (by rw[zq,zZ hi];rfl);simp[ht,h,m0,h0,a1,Ce]
   ·have e:ns=[]:=jx (by lia);subst e;refine⟨48271*((k:Int)*k+7*0)%2147483647,λG=>?_⟩;unfold Gn Mh;rw[Bh];have ht':∀G,Ma [.fl []] G=.ok (.bl vE) G:=ht;have hk0:¬(k:Int)<0:=by lia
    simp[ht',hk0,m0,Ce]
theorem cells(hl:ns.length<=63):∃f:Nat->Int,∀k:Nat,k<=1000->∀G,Gn [.fl (ns.map D.int),.int k] G=.ok (.int (f k)) G:=by refine⟨λk=>if h:k<=1000 then(ZCx hl h).choose else 0,λk hk=>?_⟩;simp only[dif_pos hk];exact(ZCx hl hk).choose_spec
structure Row where
 down:Option Nat
 water:Int
 need:Int
 rank:Int
variable{rs:List Row}
noncomputable def dnD:Option Nat->D
 |none=>.non
 |some d=>.int d
def Row.enc(r:Row):D:=.tup [dnD r.down,.int r.water,.int r.need,.int r.rank]
@[simp]theorem ZQA{n:Nat}{o:Option Nat}:bel n (dnD o)=vD:=by cases o<;>rfl
@[simp]theorem ZNA{n:Nat}{r:Row}:bel n r.enc=vD:=by simp[Row.enc]
@[simp]theorem ZPt{n:Nat}:bels n (rs.map Row.enc)=vD:=G8 λr _=>ZNA
@[simp]theorem ZCa{n:Nat}{xs:List Int}:bels n (xs.map D.int)=vD:=G8 λr _=>rfl
structure Fine (k n:Nat) (r:Row):Prop where
 dn:∀d,r.down=vB d->k<d/\d<n
 w0:0<=r.water
 n0:0<=r.need
 r0:0<=r.rank
def Reach(rs:List Row):Prop:=∀k r,rs[k]?=vB r->Fine k rs.length r
noncomputable def tab(n:Nat)(F:Nat->Int):List D:=(zk n).map λi=>D.int (F i)
def fset(F:Nat->Int)(d:Nat)(v:Int):Nat->Int:=λi=>if i=d then v else F i
@[simp]theorem ZPL{n:Nat}:(tab n F).length=n:=by simp[tab]
@[simp]theorem Uw{n:Nat}:bels m (tab n F)=vD:=G8 λ_ _=>rfl
theorem Pq{n:Nat}(h:i<n):(tab n F)[i]?=vB (.int (F i)):=by unfold tab;rw[zq,zP h];rfl
theorem Gp{n:Nat}(h:i<n):atI (tab n F) (i:Int)=vB (.int (F i)):=Er rfl (Pq h)
theorem Mg{n:Nat}{v:Int}:(tab n F).set d (.int v)=tab n (fset F d v):=by
 refine jC λi=>?_
 by_cases hi:i<n
 ·by_cases e:d=i
  ·subst e;rw[qB (by simpa using hi),Pq hi];simp[fset]
  ·rw[q9 e,Pq hi,Pq hi];have:i≠d:=λz=>e z.symm
   simp[fset,this]
 ·rw[zD (by simp;lia),zD (by simp;lia)]
theorem Ho{n:Nat}{F':Nat->Int}(h:∀i,i<n->F i=F' i):tab n F=tab n F':=by
 unfold tab;refine qQ λi hi=>?_
 rw[h i (qY.mp hi)]
noncomputable def col(g:Row->Int)(rs:List Row)(i:Nat):Int:=match rs[i]? with
 |some r=>g r
 |none=>0
def Bq(rs:List Row)(i:Nat):Option Nat:=rs[i]?.bind Row.down
theorem Hq(h:Reach rs)(e:Bq rs k=vB d):k<d/\d<rs.length:=by
 unfold Bq at e;cases hr:rs[k]? with
 |none=>rw[hr]at e;cases e
 |some r=>rw[hr]at e;exact(h k r hr).dn d e
theorem V8(hk:k<rs.length):Bq rs k=rs[k].down:=by unfold Bq;rw[zZ hk];rfl
theorem ZEj(hk:¬k<rs.length):Bq rs k=vC:=by unfold Bq;rw[zD (by lia)];rfl
def gstep(F:Nat->Int)(k:Nat)(o:Option Nat):Nat->Int:=match o with
 |none=>F
 |some d=>fset F d (F d+F k)
def gat(rs:List Row):Nat->Nat->(Nat->Int)->Nat->Int
 |0,_,F=>F
 |m+1,k,F=>gat rs m (k+1) (gstep F k (Bq rs k))
noncomputable abbrev gath(rs:List Row)(F:Nat->Int):Nat->Int:=gat rs rs.length 0 F
theorem Yy(hk:k<rs.length):atI (rs.map Row.enc) (k:Int)=vB (.tup [dnD (Bq rs k),.int (col Row.water rs k),.int (col Row.need rs k),.int (col Row.rank rs k)]):=
 Er rfl (by rw[zq,V8 hk];simp[col,zZ hk,Row.enc])
theorem ZE1(hR:Reach rs){t:D}{G:DH}:∀(m k:Nat)(F:Nat->Int)(x y:Option D),k+m=rs.length->∃x' y',
  Bm (Bd 2 (Al (gV 4) (Al (gV 3) Bf))) Ls ((Cp (rs.map Row.enc)).drop k) [vB (.fl (rs.map Row.enc)),vB t,vB (.ref G.length),x,y] (G++[.lst (tab rs.length F)])=
   .nx [vB (.fl (rs.map Row.enc)),vB t,vB (.ref G.length),x',y'] (G++[.lst (tab rs.length (gat rs m k F))])
 |0,k,F,x,y,h=>⟨x,y,by rw[zO (by rw[Ip];simp;lia),Hy];rfl⟩
 | m+1,k,F,x,y,h=>by
  have hk:k<rs.length:=by lia
  have e0:(Cp (rs.map Row.enc)).drop k=.tup [.int k,rs[k].enc]::(Cp (rs.map Row.enc)).drop (k+1):=by rw[zM (by rw[Ip];simpa using hk)];simp[Cp]
  obtain⟨x',y',ih⟩:=ZE1 hR (t:=t) (G:=G) m (k+1) (gstep F k (Bq rs k)) (vB rs[k].enc) (vB (.int k)) (by lia);refine⟨x',y',?_⟩;have hb:Ls [vB (.fl (rs.map Row.enc)),vB t,vB (.ref G.length),vB rs[k].enc,vB (.int k)] (G++[.lst (tab rs.length F)])=
    .nx [vB (.fl (rs.map Row.enc)),vB t,vB (.ref G.length),vB rs[k].enc,vB (.int k)] (G++[.lst (tab rs.length (gstep F k (Bq rs k)))]):=by
   unfold Ls;cases hd:Bq rs k with
   |none=>
    have:rs[k].down=vC:=by rw[<-V8 hk];exact hd
    simp[Row.enc,this,dnD,gstep]
   |some d=>
    have e:rs[k].down=vB d:=by rw[<-V8 hk];exact hd
    have hdn:=Hq hR hd;have g0:(G++[DO.lst (tab rs.length F)])[G.length]?=vB (.lst (tab rs.length F)):=by simp
    simp[Row.enc,e,dnD,gstep,Uy g0 (Gp hdn.2),Cj,Gp hk,Ek,Fv,hdn.2,Mg]
  rw[e0,Et];simp[Ea,hb];exact ih
def K3(rs:List Row)(i:Nat):D:=.tup [dnD (Bq rs i),.int (col Row.water rs i),.int (col Row.need rs i),.int (col Row.rank rs i)]
theorem ZB2:rs.map Row.enc=(zk rs.length).map (K3 rs):=by
 refine jC λi=>?_
 by_cases hi:i<rs.length
 ·rw[zq,zq,zP hi,zZ hi];simp[K3,Row.enc,V8 hi,col,zZ hi]
 ·rw[zD (by simp;lia),zD (by simp;lia)]
theorem ZDe(hR:Reach rs)(hl:rs.length<=40){t:D}(ht:Bk t G=vB (tab rs.length T)):M5 [.fl (rs.map Row.enc),t] G=.ok (.ref G.length) (G++[.lst (tab rs.length (gath rs λi=>col Row.water rs i-T i))]):=by
 obtain⟨x',y',hL⟩:=ZE1 hR (t:=t) (G:=G) rs.length 0 (λi=>col Row.water rs i-T i) vC vC (by lia);have hz:∀j,Ft [.fl (rs.map Row.enc),t] j G=vB ((zk rs.length).map λi=>D.tup [K3 rs i,.int (T i)])[j]? :=λj=>by
  rw[ZGB ZDF ht,M7,ZB2,tab,List.zip_map',j0]
  rfl
 let F:D->Option D:=λd=>match d with
  |.tup [.tup [_,.int w,_,_],.int v]=>vB (.int (w-v))
  |_=>vC
 have hc:Cm (Ft [.fl (rs.map Row.enc),t]) (Bd 2 (Al (gV 0) (Al (gV 1) Bf))) Ci ZA6 (Bb 2 [] [vB (.fl (rs.map Row.enc)),vB t,vC,vC,vC]) rs.length 0 G=.ok (tab rs.length λi=>col Row.water rs i-T i) G:=by
  rw[W0 (F:=F) hz (λx hx=>?_) (by simp)]
  ·congr 1
   rw[qq];show(zk rs.length).filterMap (λi=>vB (D.int (col Row.water rs i-T i)))=_;rw[qC]
   rfl
  ·obtain⟨i,_,rfl⟩:=zF.mp hx;refine⟨[vB (K3 rs i),vB (.int (T i))],by simp[Bb],.inr ⟨rfl,.int (col Row.water rs i-T i),?_,rfl⟩⟩;unfold ZA6;simp[K3]
 have hl2:rs.length<=1000000:=by lia
 unfold M5 ZEk;rw[Bh];have hL':Bm (Bd 2 (Al (gV 4) (Al (gV 3) Bf))) Ls (Cp (rs.map Row.enc)) [vB (.fl (rs.map Row.enc)),vB t,vB (.ref G.length),vC,vC] (G++[.lst (tab rs.length λi=>col Row.water rs i-T i)])=_:=hL;have hcf:Cq (Dh 0 (.fl (rs.map Row.enc))) (Bd 2 (Al (gV 4) (Al (gV 3) Bf))) Ls rs.length 0 [vB (.fl (rs.map Row.enc)),vB t,vB (.ref G.length),vC,vC] (G++[.lst (tab rs.length λi=>col Row.water rs i-T i)])=.nx [vB (.fl (rs.map Row.enc)),vB t,vB (.ref G.length),x',y'] (G++[.lst (tab rs.length (gath rs λi=>col Row.water rs i-T i))]):=by
  have:=ZLy (S:=[vB (.fl (rs.map Row.enc)),vB t,vB (.ref G.length),vC,vC]) (G:=G++[.lst (tab rs.length λi=>col Row.water rs i-T i)]) (g:=Bd 2 (Al (gV 4) (Al (gV 3) Bf))) (b:=Ls) (xs:=rs.map Row.enc);rw[qJ]at this;rw[this];exact hL'
 simp[ZEU (ZDF (xs:=rs.map Row.enc)) ht,hc,Aw,hl2,hcf,Fi]
theorem ZGN{g:Row->Int}(h:∀r∈rs,0<=g r)(k:Nat):0<=col g rs k:=by
 unfold col;split
 ·rename_i r hr;exact h r (jO hr)
 ·exact qE _
theorem Reach.need(h:Reach rs)(k:Nat):0<=col Row.need rs k:=ZGN (λr hr=>by obtain⟨i,hi,rfl⟩:=qK hr;exact(h i _ (zZ hi)).n0) k
theorem Reach.water(h:Reach rs)(k:Nat):0<=col Row.water rs k:=ZGN (λr hr=>by obtain⟨i,hi,rfl⟩:=qK hr;exact(h i _ (zZ hi)).w0) k
theorem ZOD(h:bels (G.length+1) ds=vD):freeze (G++[A]) (.ok (.ref (G.length+1)) (G++A:: .lst ds::L))=.ok (.fl ds) (G++[A]):=by have:=H8 (G:=G++[A]) (ds:=ds) (L:=L) (by simpa using h);simpa using this
theorem V9(h:bels (G.length+1) ds=vD):tidy (G++[A]) (.ok (.ref (G.length+1)) (G++A:: .lst ds::L))=.ok (.ref (G.length+1)) (G++[A,.lst ds]):=by have:=Fi (G:=G++[A]) (ds:=ds) (L:=L) (by simpa using h);simpa using this
theorem ZAn{B:DO}(h:bels (G.length+2) ds=vD):freeze (G++[A,B]) (.ok (.ref (G.length+2)) (G++A::B:: .lst ds::L))=.ok (.fl ds) (G++[A,B]):=by have:=H8 (G:=G++[A,B]) (ds:=ds) (L:=L) (by simpa using h);simpa using this
def Jl(rs:List Row):Nat->Nat->List Nat
 |0,k=>[k]
 |m+1,k=>k::(match Bq rs k with
  |none=>[]
  |some d=>Jl rs m d)
def way(rs:List Row)(k:Nat):List Nat:=Jl rs rs.length k
theorem ZDc(hR:Reach rs):∀(m m' k:Nat),rs.length<=m+k+1->rs.length<=m'+k+1->Jl rs m k=Jl rs m' k
 | 0,m',k,h,h'=>by
  have hn:Bq rs k=vC:=by
   cases hd:Bq rs k with
   |none=>rfl
   |some d=>have:=Hq hR hd;lia
  cases m' with
  |zero=>rfl
  |succ m'=>simp[Jl,hn]
 | m+1,0,k,h,h'=>by
  have hn:Bq rs k=vC:=by
   cases hd:Bq rs k with
   |none=>rfl
   |some d=>have:=Hq hR hd;lia
  simp[Jl,hn]
 | m+1,m'+1,k,h,h'=>by
  cases hd:Bq rs k with
  |none=>simp[Jl,hd]
  |some d=>
   have:=Hq hR hd;simp[Jl,hd,ZDc hR m m' d (by lia) (by lia)]
def Hu(rs:List Row):Option Nat->List Nat
 |none=>[]
 |some d=>way rs d
theorem Hx(hR:Reach rs)(k:Nat):way rs k=k::Hu rs (Bq rs k):=by
 unfold way;rw[ZDc hR rs.length (rs.length+1) k (by lia) (by lia)];show k::_=_;cases hd:Bq rs k with
 |none=>rfl
 |some d=>rfl
@[simp]theorem ZP6:dnD (vB d)=.int d:=id rfl
noncomputable def Ak(ws:List Nat):List D:=ws.map λ(i:Nat)=>D.int (i:Int)
@[simp]theorem ZDf:bels m (Ak ws)=vD:=G8 λ_ _=>rfl
@[simp]theorem ZPI:(Ak ws).length=ws.length:=by simp[Ak]
theorem ZFy(hR:Reach rs)(hl:rs.length<=40){x:Option D}:∀(m:Nat)(o:Option Nat)(acc:List Nat),0<m->(∀d,o=vB d->d<rs.length/\rs.length-d<m/\acc.length+(rs.length-d)<=100)->
  sWh Lx R4 m [vB (.fl (rs.map Row.enc)),x,vB (.ref G.length),vB (dnD o)] (G++[.lst (Ak acc)])=.nx [vB (.fl (rs.map Row.enc)),x,vB (.ref G.length),vB .non] (G++[.lst (Ak (acc++Hu rs o))])
 |0,o,acc,h0,h=>by lia
 |m+1,vC,acc,h0,h=>by
  have ht:Lx [vB (.fl (rs.map Row.enc)),x,vB (.ref G.length),vB (dnD vC)] (G++[.lst (Ak acc)])=.ok vE (G++[.lst (Ak acc)]):=by unfold Lx;simp[dnD]
  unfold sWh;rw[ht];simp[Hu,dnD]
 |m+1,vB d,acc,h0,h=>by
  obtain⟨h1,h2,h3⟩:=h d rfl;have ht:Lx [vB (.fl (rs.map Row.enc)),x,vB (.ref G.length),vB (dnD (vB d))] (G++[.lst (Ak acc)])=.ok vD (G++[.lst (Ak acc)]):=by unfold Lx;simp[dnD]
  have hla:acc.length<1000000:=by lia
  have hb:R4 [vB (.fl (rs.map Row.enc)),x,vB (.ref G.length),vB (dnD (vB d))] (G++[.lst (Ak acc)])=.nx [vB (.fl (rs.map Row.enc)),x,vB (.ref G.length),vB (dnD (Bq rs d))] (G++[.lst (Ak (acc++[d]))]):=by unfold R4;simp[Cj,Ek,hla,Yy h1,Ak]
  unfold sWh;rw[ht];simp only[R.Dk,if_true,hb,Eb];rw[ZFy hR hl m (Bq rs d) (acc++[d]) (by lia) (λe he=>by have:=Hq hR he;simp;lia)]
  have:Hu rs (vB d)=d::Hu rs (Bq rs d):=Hx hR d;rw[this];simp
theorem ZMH(hR:Reach rs)(hl:rs.length<=40)(hk:k<rs.length)(G:DH):Sg [.fl (rs.map Row.enc),.int k] G=.ok (.ref G.length) (G++[.lst (Ak (way rs k))]):=by
 have hL:=ZFy hR hl (x:=vB (.int k)) (G:=G) fuel (Bq rs k) [k] (by unfold fuel;lia) (λd hd=>by have:=Hq hR hd;unfold fuel;simp;lia)
 have hL':sWh Lx R4 fuel [vB (.fl (rs.map Row.enc)),vB (.int k),vB (.ref G.length),vB (dnD (Bq rs k))] (G++[.lst [.int k]])=_:=hL;rw[Hx hR];unfold Sg ZFI;rw[Bh];simp[Aw,Fi,Yy hk,hL']
def ltK(rs:List Row)(i j:Nat):Bool:=decide (col Row.rank rs i<col Row.rank rs j∨(col Row.rank rs i=col Row.rank rs j/\i<j))
theorem ZCN(rs:List Row):WO (ltK rs) where
 asy:=λi j h=>by simp only[ltK,decide_eq_true_eq,decide_eq_false_iff_not]at h⊢;lia
 neg:=λi j k h=>by simp only[ltK,decide_eq_true_eq]at h⊢;lia
def ord(rs:List Row):List Nat:=if rs.length<2 then zk rs.length else(Bo (ltK rs) (PySem.W.kas_sort rs.length)).toList
theorem Z2(rs:List Row):(ord rs).Perm (zk rs.length):=by
 unfold ord;split
 ·exact .refl _
 ·exact(ZFe (ZCN rs) (by lia)).1
theorem ZER(h:k∈ord rs):k<rs.length:=by have:=(Z2 rs).mem_iff.mp h;simpa using this
theorem ZFZ(rs:List Row):(ord rs).length=rs.length:=by rw[(Z2 rs).length_eq];simp
theorem ZB7{n:Nat}{lt lt':Nat->Nat->Bool}(h:∀i j,i<n->j<n->lt i j=lt' i j){P:α->Prop}:∀{t:PySem.W.KasT α},Safe n P t->Bo lt t=Bo lt' t
 |.ret _,_=>rfl
 |.ask i j k,hs=>by show Bo lt (k (lt i j))=Bo lt' (k (lt' i j));rw[h i j hs.1 hs.2.1];exact ZB7 h (hs.2.2 _)
def Ez(rs:List Row)(k:Nat):D:=.tup [.int (col Row.rank rs k),.int k]
theorem ZGU(i j:Nat):ltD (Ez rs i) (Ez rs j)=vB (ltK rs i j):=by
 have e:ltD (Ez rs i) (Ez rs j)=if col Row.rank rs i=col Row.rank rs j then(if(i:Int)=j then vB vE else vB (decide ((i:Int)<j)))else vB (decide (col Row.rank rs i<col Row.rank rs j)):=rfl
 rw[e];by_cases h:col Row.rank rs i=col Row.rank rs j
 ·rw[if_pos h];by_cases h2:(i:Int)=j
  ·rw[if_pos h2]
   congr 1
   simp only[ltK]
   symm
   simp only[decide_eq_false_iff_not];lia
  ·rw[if_neg h2]
   congr 1
   simp only[ltK];rw[decide_eq_decide];lia
 ·rw[if_neg h]
  congr 1
  simp only[ltK];rw[decide_eq_decide];lia
def Fo(rs:List Row):List D:=(zk rs.length).map (Ez rs)
theorem Xg(h:i<rs.length):(Fo rs).getD i .non=Ez rs i:=by unfold Fo;rw[zA,zq,zP h];rfl
theorem ZB4(rs:List Row):Jp (Fo rs)=(ord rs).map (Ez rs):=by
 have hl:(Fo rs).length=rs.length:=by simp[Fo]
 unfold Jp ord;rw[hl];split
 ·rfl
 ·rename_i h;have e:Bo (ltI (Fo rs)) (PySem.W.kas_sort rs.length)=Bo (ltK rs) (PySem.W.kas_sort rs.length):=
   ZB7 (n:=rs.length) (λi j hi hj=>by unfold ltI;rw[Xg hi,Xg hj,ZGU];rfl) (ZON (by lia))
  rw[e];refine qQ λi hi=>?_
  have hp:=(ZFe (ZCN rs) (n:=rs.length) (by lia)).1;exact Xg (by simpa using hp.mem_iff.mp hi)
theorem ZJM(rs:List Row):M6 (Fo rs)=vD:=by
 unfold M6 Fo;rw[zB,j8];refine⟨.inl ?_,?_⟩
 ·rw[qA];intro x hx;obtain⟨i,_,rfl⟩:=zF.mp hx
  rfl
 ·rw[qA];intro x hx;rw[qA];intro y hy;obtain⟨i,_,rfl⟩:=zF.mp hx;obtain⟨j,_,rfl⟩:=zF.mp hy;rw[ZGU];rfl
@[simp]theorem ZHX:bels m (ws.map (Ez rs))=vD:=G8 λ_ _=>by simp[Ez]
theorem ZNZ(hl:rs.length<=40)(G:DH):Tn [.fl (rs.map Row.enc)] G=.ok (.ref G.length) (G++[.lst (Ak (ord rs))]):=by
 have he:∀j,Dh 0 (.fl (rs.map Row.enc)) j G=vB ((zk rs.length).map λ(k:Nat)=>D.tup [.int (k:Int),K3 rs k])[j]? :=λj=>by
  rw[Tu,Cp,ZB2,List.zipIdx_map,j0]
  congr 2
  refine qF (by simp) λi h1 h2=>by simp
 let F:D->Option D:=λd=>match d with
  |.tup [.int k,.tup [_,_,_,.int r]]=>vB (.tup [.int r,.int k])
  |_=>vC
 have hc:Cm (Dh 0 (.fl (rs.map Row.enc))) (Bd 2 (Al (gV 0) (Al (gV 1) Bf))) Ci ZAk (Bb 2 [] [vB (.fl (rs.map Row.enc)),vC]) rs.length 0 G=.ok (Fo rs) G:=by
  rw[W0 (F:=F) he (λx hx=>?_) (by simp)]
  ·congr 1
   rw[qq];show(zk rs.length).filterMap (λi=>vB (Ez rs i))=_;rw[qC]
   rfl
  ·obtain⟨i,_,rfl⟩:=zF.mp hx;refine⟨[vB (.int i),vB (K3 rs i)],by simp[Bb],.inr ⟨rfl,Ez rs i,?_,rfl⟩⟩;unfold ZAk;simp[K3,Ez,Bj]
 let F2:D->Option D:=λd=>match d with
  |.tup [_,k]=>vB k
  |_=>vC
 have hc2:∀S,Ed (Bd 2 (Al (gV 0) (Al (gV 1) Bf))) Ci Wt (Bb 2 [] S) ((ord rs).map (Ez rs)) G=.ok (Ak (ord rs)) G:=λS=>by
  rw[ZBA (F:=F2) (λx hx=>?_)]
  ·congr 1
   rw[qq];show(ord rs).filterMap (λ(i:Nat)=>vB (D.int (i:Int)))=_;rw[qC]
   rfl
  ·obtain⟨i,_,rfl⟩:=zF.mp hx;refine⟨[vB (.int (col Row.rank rs i)),vB (.int i)],by simp[Bb,Ez],.inr ⟨rfl,.int i,?_,rfl⟩⟩;unfold Wt;simp
 have hkl:(Fo rs).length=rs.length:=by simp[Fo]
 have hl2:rs.length<=1000000:=by lia
 have hs:∀G,P0 [.fl (Fo rs)] G=.ok (.ref G.length) (G++[.lst ((ord rs).map (Ez rs))]):=λG=>by have h1:G9 (.fl (Fo rs)) G=vB (Fo rs):=rfl;simp only[P0,h1];rw[if_pos ⟨⟨by rw[hkl];lia,by rw[ZB4];simp[ZFZ];lia⟩,ZJM rs⟩,ZB4]
 have hbk:bels G.length (Fo rs)=vD:=ZHX;have hol:=ZFZ rs;have hl3:(ord rs).length<=1000000:=by lia
 unfold Tn ZCZ;rw[Bh];simp[hc,Aw,hkl,hl2,H8,hbk,hs,hc2,hl3,Fi]
noncomputable def wmin(P:Nat->Int):List Nat->Int
 |[]=>0
 |k::r=>(r.map P).foldl min (P k)
theorem ZKy{P:Nat->Int}(h:b∈ws):wmin P ws<=P b:=by
 cases ws with
 |nil=>cases h
 |cons k r=>
  obtain⟨h1,h2,_⟩:=U4 (r.map P) (P k);rcases zw.mp h with rfl|h
  ·exact h1
  ·exact h2 _ (zF.mpr ⟨b,h,rfl⟩)
theorem ZKc{P:Nat->Int}(h:ws≠[]):∃b∈ws,wmin P ws=P b:=by
 cases ws with
 |nil=>exact absurd rfl h
 |cons k r=>
  obtain⟨_,_,h3⟩:=U4 (r.map P) (P k);rcases h3 with h3|h3
  ·exact⟨k,zX,h3⟩
  ·obtain⟨b,hb,e⟩:=zF.mp h3;exact⟨b,zJ _ hb,e.symm⟩
def Hi(P:Nat->Int)(ws:List Nat)(t:Int):Nat->Int:=λi=>if i∈ws then P i-t else P i
def W5(P:Nat->Int)(t:Int)(ws:List Nat):Nat->Int:=ws.foldl (λP b=>fset P b (P b-t)) P
theorem ZCD:∀{ws:List Nat}{P:Nat->Int},ws.Nodup->W5 P t ws=Hi P ws t
 |[],P,_=>by funext i;simp[W5,Hi]
 |b::ws,P,h=>by
  obtain⟨h1,h2⟩:=qN.mp h;show W5 (fset P b (P b-t)) t ws=_;rw[ZCD h2];funext i;by_cases e:i=b
  ·subst e;simp[Hi,fset,h1]
  ·simp[Hi,fset,e]
theorem ZFA(hR:Reach rs):∀(m k:Nat),rs.length<=m+k->k<rs.length->∀b∈way rs k,k<=b/\b<rs.length
 |0,k,h,hk,b,hb=>by lia
 | m+1,k,h,hk,b,hb=>by
  rw[Hx hR]at hb;rcases zw.mp hb with rfl|hb
  ·lia
  ·cases hd:Bq rs k with
   |none=>rw[hd]at hb;cases hb
   |some d=>
    have:=Hq hR hd;rw[hd]at hb;have:=ZFA hR m d (by lia) (by lia) b hb;lia
theorem Sq(hR:Reach rs)(hk:k<rs.length)(hb:b∈way rs k):k<=b/\b<rs.length:=ZFA hR rs.length k (by lia) hk b hb
theorem ZBt(hR:Reach rs):∀(m k:Nat),rs.length<=m+k->(way rs k).Nodup
 |0,k,h=>by rw[Hx hR,ZEj (by lia)];simp[Hu]
 | m+1,k,h=>by
  rw[Hx hR];cases hd:Bq rs k with
  |none=>simp[Hu]
  |some d=>
   have hlt:=Hq hR hd;refine qN.mpr ⟨λhm=>?_,ZBt hR m d (by lia)⟩;have:=Sq hR hlt.2 hm;lia
theorem ZOy(hR:Reach rs)(k:Nat):(way rs k).Nodup:=ZBt hR rs.length k (by lia)
theorem ZEf(hR:Reach rs):∀(m k:Nat),rs.length<=m+k->(way rs k).length<=m+1
 |0,k,h=>by rw[Hx hR,ZEj (by lia)];simp[Hu]
 | m+1,k,h=>by
  rw[Hx hR];cases hd:Bq rs k with
  |none=>simp[Hu]
  |some d=>
   have hlt:=Hq hR hd;have:=ZEf hR m d (by lia);show(way rs d).length+1<=_;lia
def take1(rs:List Row)(P:Nat->Int)(k:Nat):Int:=min (col Row.need rs k) (wmin P (way rs k))
def srv(rs:List Row):List Nat->(Nat->Int)->(Nat->Int)->(Nat->Int)×(Nat->Int)
 |[],P,T=>(P,T)
 |k::ks,P,T=>srv rs ks (Hi P (way rs k) (take1 rs P k)) (fset T k (take1 rs P k))
def shr(rs:List Row):Nat->Int:=(srv rs (ord rs) (gath rs (col Row.water rs)) λ_=>0).2
noncomputable def pD(P:Nat->Int)(ws:List Nat):List D:=ws.map λi=>D.int (P i)
@[simp]theorem ZP4{P:Nat->Int}:(pD P ws).length=ws.length:=by simp[pD]
@[simp]theorem ZKz{P:Nat->Int}:bels m (pD P ws)=vD:=G8 λ_ _=>rfl
theorem ZDM{a b c d e:Option D}{t:Int}{A:DO}{G:DH}:∀(ws:List Nat)(P:Nat->Int)(x:Option D),(∀b∈ws,b<rs.length)->∃x',
  Bm (gV 6) Vp (Ak ws) [a,b,vB (.ref (G.length+1)),c,d,vB (.int t),x] (G++[A,.lst (tab rs.length P)])=.nx [a,b,vB (.ref (G.length+1)),c,d,vB (.int t),x'] (G++[A,.lst (tab rs.length (W5 P t ws))])
 |[],P,x,h=>⟨x,rfl⟩
 |w::ws,P,x,h=>by
  obtain⟨x',ih⟩:=ZDM (a:=a) (b:=b) (c:=c) (d:=d) (e:=e) (t:=t) (A:=A) (G:=G) ws (fset P w (P w-t)) (vB (.int w)) λb hb=>h b (zJ _ hb)
  refine⟨x',?_⟩;have hw:=h w zX;have g0:(G++[A,DO.lst (tab rs.length P)])[G.length+1]?=vB (.lst (tab rs.length P)):=Hl _ 1;have hse:∀(L:DH)o,(G++L).set (G.length+1) o=G++L.set 1 o:=λL o=>Ox L 1 o
  have hb:Vp [a,b,vB (.ref (G.length+1)),c,d,vB (.int t),vB (.int w)] (G++[A,.lst (tab rs.length P)])=.nx [a,b,vB (.ref (G.length+1)),c,d,vB (.int t),vB (.int w)] (G++[A,.lst (tab rs.length (fset P w (P w-t)))]):=by unfold Vp;simp[Uy g0 (Gp hw),g0,hse,Fv,hw,Mg]
  show Bm _ _ (.int w::Ak ws) _ _=_;rw[Et];simp only[Ea,R.Dk,qS,hb,Eb];exact ih
theorem ZDy{rs:List Row}(hR:Reach rs)(hl:rs.length<=40){G:DH}:∀(ks:List Nat)(P T:Nat->Int)(x y z w:Option D),(∀k∈ks,k<rs.length)->∃x' y' z' w',
  Bm (gV 3) Q0 (Ak ks) [vB (.fl (rs.map Row.enc)),vB (.ref G.length),vB (.ref (G.length+1)),x,y,z,w] (G++[.lst (tab rs.length T),.lst (tab rs.length P)])=
   .nx [vB (.fl (rs.map Row.enc)),vB (.ref G.length),vB (.ref (G.length+1)),x',y',z',w'] (G++[.lst (tab rs.length (srv rs ks P T).2),.lst (tab rs.length (srv rs ks P T).1)])
 |[],P,T,x,y,z,w,h=>⟨x,y,z,w,rfl⟩
 | k::ks,P,T,x,y,z,w,h=>by
  have hk:=h k zX;have hwl:∀b∈way rs k,b<rs.length:=λb hb=>(Sq hR hk hb).2
  obtain⟨w1,hsub⟩:=ZDM (rs:=rs) (a:=vB (.fl (rs.map Row.enc))) (b:=vB (.ref G.length)) (c:=vB (.int k)) (d:=vB (.fl (Ak (way rs k)))) (e:=vC) (t:=take1 rs P k) (A:=.lst (tab rs.length (fset T k (take1 rs P k)))) (G:=G) (way rs k) P w hwl;rw[ZCD (ZOy hR k)]at hsub;obtain⟨x',y',z',w',ih⟩:=ZDy hR hl (G:=G) ks (Hi P (way rs k) (take1 rs P k)) (fset T k (take1 rs P k)) (vB (.int k)) (vB (.fl (Ak (way rs k)))) (vB (.int (take1 rs P k))) w1 λj hj=>h j (zJ _ hj)
  refine⟨x',y',z',w',?_⟩;have g0:(G++[DO.lst (tab rs.length T),DO.lst (tab rs.length P)])[G.length+1]?=vB (.lst (tab rs.length P)):=Hl _ 1;have hcomp:Ed (gV 0) Ci Xk (Bb 1 [2] [vB (.fl (rs.map Row.enc)),vB (.ref G.length),vB (.ref (G.length+1)),vB (.int k),vB (.fl (Ak (way rs k))),z,w]) (Ak (way rs k)) (G++[DO.lst (tab rs.length T),DO.lst (tab rs.length P)])=.ok (pD P (way rs k)) (G++[DO.lst (tab rs.length T),DO.lst (tab rs.length P)]):=by
   rw[ZBA (F:=λd=>match d with | .int i=>vB (.int (P i.toNat))|_=>vC) (λq hq=>?_)]
   ·congr 1
    unfold Ak;rw[qq];show(way rs k).filterMap (λ(i:Nat)=>vB (D.int (P ((i:Int).toNat))))=_;rw[qC];simp[pD]
   ·obtain⟨i,hi,rfl⟩:=zF.mp hq;refine⟨[vB (.int i),vB (.ref (G.length+1))],by simp[Bb],.inr ⟨rfl,.int (P i),?_,by simp⟩⟩;unfold Xk;simp[g0,Gp (hwl i hi)]
  have hwn:(way rs k).length<=1000000:=by have h1:=ZEf hR rs.length k (by lia);lia
  have hmin:∀G,Mq [.fl (pD P (way rs k))] G=.ok (.int (wmin P (way rs k))) G:=λG=>by rw[Hx hR];exact ZKe (n:=P k) (ns:=(Hu rs (Bq rs k)).map P) (by simp[pD])
  have hfr:freeze (G++[DO.lst (tab rs.length T),DO.lst (tab rs.length P)]) (.ok (.ref (G.length+2)) (G++[DO.lst (tab rs.length T),DO.lst (tab rs.length P),.lst (pD P (way rs k))]))=.ok (.fl (pD P (way rs k))) (G++[DO.lst (tab rs.length T),DO.lst (tab rs.length P)]):=ZAn ZKz;have hfw:freeze (G++[DO.lst (tab rs.length T),DO.lst (tab rs.length P)]) (.ok (.ref (G.length+2)) (G++[DO.lst (tab rs.length T),DO.lst (tab rs.length P),.lst (Ak (way rs k))]))=.ok (.fl (Ak (way rs k))) (G++[DO.lst (tab rs.length T),DO.lst (tab rs.length P)]):=ZAn ZDf
  have hb:Q0 [vB (.fl (rs.map Row.enc)),vB (.ref G.length),vB (.ref (G.length+1)),vB (.int k),y,z,w] (G++[.lst (tab rs.length T),.lst (tab rs.length P)])=
    .nx [vB (.fl (rs.map Row.enc)),vB (.ref G.length),vB (.ref (G.length+1)),vB (.int k),vB (.fl (Ak (way rs k))),vB (.int (take1 rs P k)),w1] (G++[.lst (tab rs.length (fset T k (take1 rs P k))),.lst (tab rs.length (Hi P (way rs k) (take1 rs P k)))]):=by
   unfold Q0;have ht1:min (col Row.need rs k) (wmin P (way rs k))=take1 rs P k:=rfl;simp[ZMH hR hl hk,hfw,Yy hk,hcomp,Aw,hwn,hfr,hmin,ht1,Cj,Ek,Fv,hk,Mg,hsub]
  show Bm _ _ (.int k::Ak ks) _ _=_;rw[Et];simp only[Ea,R.Dk,qS,hb,Eb];exact ih
theorem ZJR(hR:Reach rs)(hl:rs.length<=40)(G:DH):Uc [.fl (rs.map Row.enc)] G=.ok (.ref G.length) (G++[.lst (tab rs.length (shr rs))]):=by
 have hz:zx rs.length (D.int 0)=tab rs.length λ_=>0:=by unfold tab;refine qF (by simp) λi h1 h2=>by simp
 have hrep:Jd (.ref G.length) (.int (rs.length:Int)) (G++[.lst [.int 0]])=.ok (.ref (G.length+1)) (G++[.lst [.int 0],.lst (tab rs.length λ_=>0)]):=by rw[ZCV (d:=.int 0) (by rw[Cj];rfl) (by lia),hz];simp
 have ht1:tidy G (.ok (.ref (G.length+1)) (G++[.lst [.int 0],.lst (tab rs.length λ_=>0)]))=.ok (.ref G.length) (G++[.lst (tab rs.length λ_=>0)]):=Wy _ (k:=1) rfl Uw;have hp:M5 [.fl (rs.map Row.enc),.ref G.length] (G++[.lst (tab rs.length λ_=>0)])=.ok (.ref (G.length+1)) (G++[.lst (tab rs.length λ_=>0),.lst (tab rs.length (gath rs (col Row.water rs)))]):=by rw[ZDe hR hl (T:=λ_=>0) (ZME (by rw[Cj];rfl))];simp
 have ht2:tidy (G++[.lst (tab rs.length λ_=>0)]) (.ok (.ref (G.length+1)) (G++[.lst (tab rs.length λ_=>0),.lst (tab rs.length (gath rs (col Row.water rs)))]))=.ok (.ref (G.length+1)) (G++[.lst (tab rs.length λ_=>0),.lst (tab rs.length (gath rs (col Row.water rs)))]):=V9 Uw;have hfs:freeze (G++[.lst (tab rs.length λ_=>0),.lst (tab rs.length (gath rs (col Row.water rs)))]) (.ok (.ref (G.length+2)) (G++[.lst (tab rs.length λ_=>0),.lst (tab rs.length (gath rs (col Row.water rs))),.lst (Ak (ord rs))]))=.ok (.fl (Ak (ord rs))) (G++[.lst (tab rs.length λ_=>0),.lst (tab rs.length (gath rs (col Row.water rs)))]):=ZAn ZDf
 obtain⟨x',y',z',w',hL⟩:=ZDy hR hl (G:=G) (ord rs) (gath rs (col Row.water rs)) (λ_=>0) vC vC vC vC λk hk=>ZER hk
 have hfin:∀A,tidy G (.ok (.ref G.length) (G++[.lst (tab rs.length (shr rs)),A]))=.ok (.ref G.length) (G++[.lst (tab rs.length (shr rs))]):=λA=>Fi Uw
 have hL':Bm (gV 3) Q0 (Ak (ord rs)) [vB (.fl (rs.map Row.enc)),vB (.ref G.length),vB (.ref (G.length+1)),vC,vC,vC,vC] (G++[.lst (tab rs.length λ_=>0),.lst (tab rs.length (gath rs (col Row.water rs)))])=
   .nx [vB (.fl (rs.map Row.enc)),vB (.ref G.length),vB (.ref (G.length+1)),x',y',z',w'] (G++[.lst (tab rs.length (shr rs)),.lst (tab rs.length (srv rs (ord rs) (gath rs (col Row.water rs)) λ_=>0).1)]):=hL
 unfold Uc ZEL;rw[Bh];simp[Aw,hrep,ht1,hp,ht2,ZNZ hl,hfs,hL',hfin]
def ind(t:Int)(ws:List Nat):Nat->Int:=λi=>if i∈ws then t else 0
theorem ZBJ(hR:Reach rs):∀(m j:Nat)(A:Nat->Int),k<j->gat rs m j (λi=>A i+ind t [k] i)=λi=>gat rs m j A i+ind t [k] i
 |0,j,A,h=>rfl
 | m+1,j,A,h=>by
  unfold gat;have e:gstep (λi=>A i+ind t [k] i) j (Bq rs j)=λi=>gstep A j (Bq rs j) i+ind t [k] i:=by
   cases hd:Bq rs j with
   |none=>rfl
   |some d=>
    have:=Hq hR hd;funext i;simp only[gstep,fset,ind,qz];have h1:j≠k:=by lia
    have h2:d≠k:=by lia
    by_cases hi:i=d
    ·subst hi;simp[h1,h2]
    ·simp[hi]
  rw[e,ZBJ hR m (j+1) _ (by lia)]
theorem ZBW(hR:Reach rs):∀(m j k:Nat)(A:Nat->Int),j+m=rs.length->j<=k->k<rs.length->gat rs m j (λi=>A i+ind t [k] i)=λi=>gat rs m j A i+ind t (way rs k) i
 |0,j,k,A,h,h1,h2=>by lia
 | m + 1,j,k,A,h,h1,h2=>by
  unfold gat;by_cases hjk:j<k
  ·have e:gstep (λi=>A i+ind t [k] i) j (Bq rs j)=λi=>gstep A j (Bq rs j) i+ind t [k] i:=by
    cases hd:Bq rs j with
    |none=>rfl
    |some d=>
     funext i;simp only[gstep,fset,ind,qz];have h3:j≠k:=by lia
     by_cases hi:i=d
     ·subst hi;simp[h3];split <;> lia
     ·simp[hi]
   rw[e,ZBW hR m (j+1) k _ (by lia) (by lia) h2]
  ·have ej:j=k:=by lia
   subst ej;cases hd:Bq rs j with
   |none=>
    have hw:way rs j=[j]:=by rw[Hx hR,hd];rfl
    show gat rs m (j+1) (λi=>A i+ind t [j] i)=_;rw[ZBJ hR m (j+1) A (by lia),hw]
    rfl
   | some d=>
    have hlt:=Hq hR hd;have hw:way rs j=j::way rs d:=by rw[Hx hR,hd];rfl
    have e:gstep (λi=>A i+ind t [j] i) j (vB d)=λi=>(gstep A j (vB d) i+ind t [d] i)+ind t [j] i:=by
     funext i;simp only[gstep,fset,ind,qz];have h3:d≠j:=by lia
     by_cases hi:i=d
     ·subst hi;simp[h3];lia
     ·simp[hi]
    rw[e,ZBJ hR m (j+1) _ (by lia),ZBW hR m (j+1) d _ (by lia) (by lia) hlt.2];funext i;have hnj:j∉way rs d:=λhm=>by have:=Sq hR hlt.2 hm;lia
    simp only[ind,hw,zw,qz];by_cases hi:i=j
    ·subst hi;simp[hnj]
    ·simp[hi]
theorem ZIq(hR:Reach rs){W:Nat->Int}(hk:k<rs.length)(h0:T k=0):gath rs (λi=>W i-fset T k t i)=Hi (gath rs λi=>W i-T i) (way rs k) t:=by
 have e:(λi=>W i-fset T k t i)=λi=>(W i-T i)+ind (-t) [k] i:=by
  funext i;simp only[fset,ind,qz];by_cases hi:i=k
  ·subst hi;simp[h0];lia
  ·simp[hi]
 rw[e];show gat rs rs.length 0 _=_;rw[ZBW hR rs.length 0 k _ (by lia) (by lia) hk];funext i;simp only[ind,Hi,gath]
 split <;> lia
theorem ZF9:∀(m k:Nat)(F:Nat->Int),(∀i,0<=F i)->∀i,0<=gat rs m k F i
 |0,k,F,h,i=>h i
 | m+1,k,F,h,i=>by
  refine ZF9 m (k+1) _ (λj=>?_) i;cases Bq rs k with
  |none=>exact h j
  |some d=>
   simp only[gstep,fset];have:=h d;have:=h k;have:=h j
   split <;> lia
structure SI (rs:List Row) (P T:Nat->Int):Prop where
 pg:P=gath rs λi=>col Row.water rs i-T i
 t0:∀i,0<=T i
 tn:∀i,T i<=col Row.need rs i
 p0:∀i,i<rs.length->0<=P i
theorem ZL7{P:Nat->Int}(h:∀b∈ws,0<=P b):0<=wmin P ws:=by
 cases ws with
 |nil=>exact qE _
 |cons k r=>
  obtain⟨b,hb,e⟩:=ZKc (P:=P) (ws:=k::r) (by simp);rw[e];exact h b hb
theorem SI.take(hR:Reach rs){P:Nat->Int}(s:SI rs P T)(hk:k<rs.length):0<=take1 rs P k/\take1 rs P k<=col Row.need rs k/\∀b∈way rs k,take1 rs P k<=P b:=by
 have h1:0<=wmin P (way rs k):=ZL7 λb hb=>s.p0 b (Sq hR hk hb).2
 have h2:=hR.need k;unfold take1;refine⟨by lia,by lia,λb hb=>?_⟩;have:=ZKy (P:=P) hb;lia
theorem SI.step(hR:Reach rs){P:Nat->Int}(s:SI rs P T)(hk:k<rs.length)(h0:T k=0):SI rs (Hi P (way rs k) (take1 rs P k)) (fset T k (take1 rs P k)):=by
 obtain⟨a,b,c⟩:=s.take hR hk;refine⟨?_,λi=>?_,λi=>?_,λi hi=>?_⟩
 ·rw[ZIq hR hk h0,<-s.pg]
 ·simp only[fset];split
  ·exact a
  ·exact s.t0 i
 ·simp only[fset];split
  ·rename_i e;rw[e];exact b
  ·exact s.tn i
 ·simp only[Hi];split
  ·rename_i hm;have:=c i hm;lia
  ·exact s.p0 i hi
theorem SI.run(hR:Reach rs):∀(ks:List Nat)(P T:Nat->Int),SI rs P T->ks.Nodup->(∀k∈ks,k<rs.length/\T k=0)->SI rs (srv rs ks P T).1 (srv rs ks P T).2
 |[],P,T,s,_,_=>s
 |k::ks,P,T,s,nd,h=>by
  obtain⟨n1,n2⟩:=qN.mp nd;obtain⟨hk,h0⟩:=h k zX;refine SI.run hR ks _ _ (s.step hR hk h0) n2 λj hj=>?_
  obtain⟨hj1,hj2⟩:=h j (zJ _ hj);have:j≠k:=λe=>n1 (e▸hj)
  exact⟨hj1,by simp[fset,this,hj2]⟩
theorem ZNU(rs:List Row):(ord rs).Nodup:=(Z2 rs).nodup_iff.mpr List.nodup_range
theorem SI.first(hR:Reach rs):SI rs (gath rs (col Row.water rs)) λ_=>0:=
 ⟨by simp,λ_=>qE _,hR.need,λi _=>ZF9 _ _ _ hR.water i⟩
theorem ZHx(hR:Reach rs):SI rs (srv rs (ord rs) (gath rs (col Row.water rs)) λ_=>0).1 (shr rs):=
 SI.run hR (ord rs) _ _ (SI.first hR) (ZNU rs) λk hk=>⟨ZER hk,rfl⟩
theorem rp:¬(("pump":Str)="river"):=by decide
structure Stp where
 h:Int
 m:Int
 r:Bool
def wy(r:Bool):Str:=if r then "river" else "pump"
def Stp.enc(s:Stp):D:=.tup [.int s.h,.int s.m,.str (wy s.r)]
@[simp]theorem ZPl{n:Nat}{st:List Stp}:bels n (st.map Stp.enc)=vD:=G8 λs _=>by simp[Stp.enc]
@[simp]theorem ZPj{r:Bool}:(wy r="river")=(r=vD):=by
 cases r
 ·exact propext ⟨λh=>absurd h rp,λh=>by cases h⟩
 ·exact propext ⟨λh=>rfl,λ_=>rfl⟩
noncomputable abbrev Ssn:=Int×List Stp
def Mj(s:Ssn):D:=.tup [.int s.1,.tup (s.2.map Stp.enc)]
def held(t:Int):List Ssn->List Stp->List Stp
 |[],h=>h
 |s::r,h=>held t r (if s.1<=t then s.2 else h)
theorem ZFa{c:D}{t:Int}{G:DH}:∀{ss:List Ssn}{h:List Stp}{a b:Option D},∃a' b',Bm (Bd 2 (Al (gV 3) (Al (gV 4) Bf))) Sx (ss.map Mj) [vB c,vB (.int t),vB (.tup (h.map Stp.enc)),a,b] G=
  .nx [vB c,vB (.int t),vB (.tup ((held t ss h).map Stp.enc)),a',b'] G
 |[],h,a,b=>⟨a,b,by rw[List.map_nil,Hy];rfl⟩
 | s::r,h,a,b=>by
  obtain⟨a',b',ih⟩:=ZFa (c:=c) (t:=t) (G:=G) (ss:=r) (h:=if s.1<=t then s.2 else h) (a:=vB (.int s.1)) (b:=vB (.tup (s.2.map Stp.enc)));refine⟨a',b',?_⟩;have hb:Sx [vB c,vB (.int t),vB (.tup (h.map Stp.enc)),vB (.int s.1),vB (.tup (s.2.map Stp.enc))] G=.nx [vB c,vB (.int t),vB (.tup ((if s.1<=t then s.2 else h).map Stp.enc)),vB (.int s.1),vB (.tup (s.2.map Stp.enc))] G:=by
   unfold Sx
   by_cases h1:s.1<=t<;>simp[h1]
  rw[zG,Et];simp only[Mj,Q3,Pg,Oc,Ea,R.Hr,R.Dk,qS,hb,Eb,qZ,jv,Nat.reduceAdd,if_true];exact ih
theorem c_at{ss:List Ssn}:Ud [.tup (ss.map Mj),.int t] G=.ok (.tup ((held t ss []).map Stp.enc)) G:=by obtain⟨a,b,h⟩:=ZFa (c:=.tup (ss.map Mj)) (t:=t) (G:=G) (ss:=ss) (h:=[]) (a:=vC) (b:=vC);unfold Ud ZC5;rw[Bh];simp at h;simp[h,Ce]
noncomputable def cub(w:Int)(s:Stp):Int:=max 0 (min s.m (w-s.h))
def rv(w:Int):List Stp->Int
 |[]=>0
 |s::r=>(if s.r then cub w s else 0)+rv w r
def pm(w:Int):List Stp->Int
 |[]=>0
 |s::r=>(if s.r then 0 else cub w s)+pm w r
theorem ZB8{c:D}{w:Int}{G:DH}:∀{st:List Stp}{a b:Int}{e f g h:Option D},∃e' f' g' h',Bm (Bd 3 (Al (gV 4) (Al (gV 5) (Al (gV 6) Bf)))) Sy (st.map Stp.enc) [vB c,vB (.int w),vB (.int a),vB (.int b),e,f,g,h] G=
  .nx [vB c,vB (.int w),vB (.int (a+rv w st)),vB (.int (b+pm w st)),e',f',g',h'] G
 |[],a,b,e,f,g,h=>⟨e,f,g,h,by simp[Hy,rv,pm]⟩
 | s::r,a,b,e,f,g,h=>by
  obtain⟨e',f',g',h',ih⟩:=ZB8 (c:=c) (w:=w) (G:=G) (st:=r) (a:=a+(if s.r then cub w s else 0)) (b:=b+(if s.r then 0 else cub w s)) (e:=vB (.int s.h)) (f:=vB (.int s.m)) (g:=vB (.str (wy s.r))) (h:=vB (.int (cub w s)));refine⟨e',f',g',h',?_⟩;have hb:Sy [vB c,vB (.int w),vB (.int a),vB (.int b),vB (.int s.h),vB (.int s.m),vB (.str (wy s.r)),h] G=.nx [vB c,vB (.int w),vB (.int (a+(if s.r then cub w s else 0))),vB (.int (b+(if s.r then 0 else cub w s))),vB (.int s.h),vB (.int s.m),vB (.str (wy s.r)),vB (.int (cub w s))] G:=by
   unfold Sy cub
   cases s.r<;>simp
  rw[zG,Et];simp[Stp.enc,hb];rw[ih];simp[rv,pm,Int.add_assoc]
theorem ZD9{st:List Stp}{w:Int}:Ul [.tup (st.map Stp.enc),.int w] G=.ok (.tup [.int (rv w st),.int (pm w st),.int (w-rv w st-pm w st)]) G:=by obtain⟨e,f,g,h,hl⟩:=ZB8 (c:=.tup (st.map Stp.enc)) (w:=w) (G:=G) (st:=st) (a:=0) (b:=0) (e:=vC) (f:=vC) (g:=vC) (h:=vC);unfold Ul ZFX;rw[Bh];simp at hl;simp[hl,Ce]
inductive Kd where
 |basin (brim:Int) (rule:List Ssn) (pump:Option (Nat×Nat×Int))
 |town (need rank:Int)
 |mill (most:Int)
structure Pl where
 nm:Str
 dn:Option Nat
 dl:Nat
 kd:Kd
noncomputable def Zm:Pl:=⟨"",vC,0,.mill 0⟩
structure Hs where
 yr:Int
 ps:List Pl
variable{h:Hs}
noncomputable def Kd.txt:Kd->Str
 |.basin ..=>"basin"
 |.town ..=>"town"
 |.mill ..=>"mill"
noncomputable def Kd.isB:Kd->Bool
 |.basin ..=>vD
 |_=>vE
noncomputable def Kd.isT:Kd->Bool
 |.town ..=>vD
 |_=>vE
def Hs.pl(h:Hs)(k:Nat):Pl:=h.ps.getD k Zm
noncomputable def Hs.n(h:Hs):Nat:=h.ps.length
def Hs.dnT(h:Hs):Option Nat->Str
 |none=>"sea"
 |some d=>(h.pl d).nm
def Hs.Px(h:Hs):Option (Nat×Nat×Int)->D
 |none=>.non
 |some (to,dl,m)=>.tup [.str (h.pl to).nm,.int dl,.int m]
def Hs.encP(h:Hs)(p:Pl):D:=match p.kd with
 |.basin b r q=>.tup [.str "basin",.str p.nm,.str (h.dnT p.dn),.int p.dl,.int b,.tup (r.map Mj),h.Px q]
 |.town a b=>.tup [.str "town",.str p.nm,.str (h.dnT p.dn),.int p.dl,.int a,.int b]
 |.mill a=>.tup [.str "mill",.str p.nm,.str (h.dnT p.dn),.int p.dl,.int a]
def Hs.Hg(h:Hs):List D:=h.ps.map h.encP
def Hs.enc(h:Hs):D:=.tup [.int h.yr,.tup h.Hg]
def Good:Int->List Stp->Prop
 |_,[]=>True
 |t,s::r=>t<=s.h/\1<=s.m/\Good (s.h+s.m) r
structure GoodH (h:Hs):Prop where
 yr:0<h.yr
 len:h.n<=12
 inj:∀i j,i<h.n->j<h.n->(h.pl i).nm=(h.pl j).nm->i=j
 sea:∀i,i<h.n->(h.pl i).nm≠"sea"
 dn:∀k d,k<h.n->(h.pl k).dn=vB d->k<d/\d<h.n
 dl:∀k,k<h.n->(h.pl k).dl<=5
 pump:∀k b r to dl m,k<h.n->(h.pl k).kd=.basin b r (vB (to,dl,m))->to<h.n/\1<=dl/\dl<=5
 brim:∀k b r q,k<h.n->(h.pl k).kd=.basin b r q->0<=b/\∀s∈r,Good 0 s.2
 town:∀k a b,k<h.n->(h.pl k).kd=.town a b->0<=a/\0<=b
theorem Hs.ZBb:h.Hg.length=h.n:=by simp[Hs.Hg,Hs.n]
theorem Hs.ZGS(hk:k<h.n):h.Hg[k]?=vB (h.encP (h.pl k)):=by unfold Hs.Hg Hs.pl;rw[zq,zZ hk];simp[zA,zZ hk]
theorem Hs.Ec(hk:k<h.n):atI h.Hg (k:Int)=vB (h.encP (h.pl k)):=Er rfl (Hs.ZGS hk)
section
variable{h:Hs}{p:Pl}{G:DH}
@[simp]theorem encP0:Ah (h.encP p) (.int 0) G=.ok (.str p.kd.txt) G:=by
 unfold Hs.encP
 cases p.kd<;>simp[Kd.txt]
@[simp]theorem encP1:Ah (h.encP p) (.int 1) G=.ok (.str p.nm) G:=by
 unfold Hs.encP
 cases p.kd<;>simp
@[simp]theorem encP2:Ah (h.encP p) (.int 2) G=.ok (.str (h.dnT p.dn)) G:=by
 unfold Hs.encP
 cases p.kd<;>simp
@[simp]theorem encP3:Ah (h.encP p) (.int 3) G=.ok (.int p.dl) G:=by
 unfold Hs.encP
 cases p.kd<;>simp
theorem Du:Ah h.enc (.int 1) G=.ok (.tup h.Hg) G:=by unfold Hs.enc;simp
theorem ZGJ:Ah h.enc (.int 0) G=.ok (.int h.yr) G:=by unfold Hs.enc;simp
theorem Nv{k:Kd}:(k.txt="basin")=(k.isB=vD):=by cases k<;>simp[Kd.txt,Kd.isB]<;>decide
theorem Ut{k:Kd}:(k.txt="town")=(k.isT=vD):=by cases k<;>simp[Kd.txt,Kd.isT]<;>decide
end
theorem ZCq(g:GoodH h)(hd:d<h.n):∀(m k:Nat)(a b:Option D),k+m=d->
  Bm (Bd 2 (Al (gV 2) (Al (gV 3) Bf))) Mf ((Cp h.Hg).drop k) [vB h.enc,vB (.str (h.pl d).nm),a,b] G=.rt (.int d) G
 | m,k,a,b,e=>by
  have hk:k<h.n:=by lia
  have e0:(Cp h.Hg).drop k=.tup [.int k,h.encP (h.pl k)]::(Cp h.Hg).drop (k+1):=by rw[zM (by rw[Ip,Hs.ZBb];exact hk)];have:=Hs.ZGS hk;rw[zZ (by rw[Hs.ZBb];exact hk)]at this;have e2:=Option.some.inj this;simp[Cp,e2]
  rw[e0,Et];cases m with
  |zero=>
   have e1:k=d:=by lia
   subst e1;have hb:Mf [vB h.enc,vB (.str (h.pl k).nm),vB (.int k),vB (h.encP (h.pl k))] G=.rt (.int k) G:=by unfold Mf;simp
   simp[hb]
  |succ m=>
   have hne:(h.pl k).nm≠(h.pl d).nm:=λz=>by have:=g.inj k d hk hd z;lia
   have hb:Mf [vB h.enc,vB (.str (h.pl d).nm),vB (.int k),vB (h.encP (h.pl k))] G=.nx [vB h.enc,vB (.str (h.pl d).nm),vB (.int k),vB (h.encP (h.pl k))] G:=by unfold Mf;simp[hne]
   simp[hb];exact ZCq g hd m (k+1) _ _ (by lia)
theorem ZCU(g:GoodH h)(hd:d<h.n)(G:DH):Oi [h.enc,.str (h.pl d).nm] G=.ok (.int d) G:=by have hL:=ZCq g hd (G:=G) d 0 vC vC (by lia);rw[jy]at hL;unfold Oi ZCG;rw[Bh];simp[Du,Gu,Jb,lenOf,hL,Ce]
def Hs.dn(h:Hs)(k:Nat):Option Nat:=(h.pl k).dn
theorem Kh(g:GoodH h)(hk:k<h.n)(G:DH):R1 [h.enc,.int k] G=.ok (dnD (h.dn k)) G:=by
 unfold R1 ZEg;rw[Bh];cases hd:h.dn k with
 |none=>
  have e:(h.pl k).dn=vC:=hd;simp[Du,Hs.Ec hk,e,Hs.dnT,dnD,Ce]
 |some d=>
  have e:(h.pl k).dn=vB d:=hd;have hl:=g.dn k d hk e;simp[Du,Hs.Ec hk,e,Hs.dnT,g.sea d hl.2,ZCU g hl.2,dnD,Ce]
def Hs.dir(h:Hs)(k:Nat):Option Nat:=match h.dn k with
 |none=>vC
 |some d=>if 0<(h.pl k).dl∨(h.pl k).kd.isB=vD∨(h.pl d).kd.isB=vD then vC else vB d
theorem Mi(g:GoodH h)(hk:k<h.n)(G:DH):Pu [h.enc,.int k] G=.ok (dnD (h.dir k)) G:=by
 unfold Pu ZEV;rw[Bh];cases hd:h.dn k with
 |none=>simp[Du,Kh g hk,hd,Hs.dir,dnD,Ce]
 | some d=>
  have hl:=g.dn k d hk hd;by_cases h1:0<(h.pl k).dl
  ·simp[Du,Kh g hk,hd,Hs.dir,dnD,Ce,Hs.Ec hk,h1]
  ·by_cases h2:(h.pl k).kd.isB=vD
   ·simp[Du,Kh g hk,hd,Hs.dir,dnD,Ce,Hs.Ec hk,h1,Nv,h2]
   ·by_cases h3:(h.pl d).kd.isB=vD
    ·simp[Du,Kh g hk,hd,Hs.dir,dnD,Ce,Hs.Ec hk,Hs.Ec hl.2,h1,Nv,h2,h3]
    ·simp[Du,Kh g hk,hd,Hs.dir,dnD,Ce,Hs.Ec hk,Hs.Ec hl.2,h1,Nv,h2,h3]
theorem ZOt(g:GoodH h)(hk:k<h.n)(e:h.dir k=vB d):k<d/\d<h.n:=by
 unfold Hs.dir at e;cases hd:h.dn k with
 |none=>rw[hd]at e;cases e
 |some d'=>
  rw[hd]at e;simp only at e;split at e
  ·cases e
  ·cases e;exact g.dn k d hk hd
theorem ZJT(hk:¬k<h.n):h.pl k=Zm:=by
 unfold Hs.pl;rw[zA,zD (by unfold Hs.n at hk;lia)]
 rfl
theorem Nk(hk:¬k<h.n):h.dir k=vC:=by
 have e:h.dn k=vC:=by unfold Hs.dn;rw[ZJT hk];rfl
 unfold Hs.dir;rw[e]
theorem Lw(g:GoodH h)(e:h.dir k=vB d):k<d/\d<h.n/\k<h.n:=by
 by_cases hk:k<h.n
 ·have:=ZOt g hk e;lia
 ·rw[Nk hk]at e;cases e
def Hs.Hv(h:Hs):Nat->Nat->Nat
 |0,k=>k
 |m+1,k=>match h.dir k with
  |none=>k
  |some d=>h.Hv m d
def Hs.last(h:Hs)(k:Nat):Nat:=h.Hv h.n k
theorem Wh(g:GoodH h):∀(m m' k:Nat),h.n<=m+k->h.n<=m'+k->h.Hv m k=h.Hv m' k
 |0,m',k,e,e'=>by
  have hn:h.dir k=vC:=Nk (by lia);cases m' with
  |zero=>rfl
  |succ m'=>simp[Hs.Hv,hn]
 |m+1,0,k,e,e'=>by have hn:h.dir k=vC:=Nk (by lia);simp[Hs.Hv,hn]
 | m+1,m'+1,k,e,e'=>by
  cases hd:h.dir k with
  |none=>simp[Hs.Hv,hd]
  |some d=>
   have:=Lw g hd;simp[Hs.Hv,hd,Wh g m m' d (by lia) (by lia)]
theorem Jx(g:GoodH h)(e:h.dir k=vC):h.last k=k:=by unfold Hs.last;rw[Wh g h.n (h.n+1) k (by lia) (by lia)];simp[Hs.Hv,e]
theorem Ng(g:GoodH h)(e:h.dir k=vB d):h.last k=h.last d:=by unfold Hs.last;rw[Wh g h.n (h.n+1) k (by lia) (by lia)];simp[Hs.Hv,e]
theorem ZF8(g:GoodH h):∀(m k:Nat),h.n<=m+k->k<=h.last k/\(k<h.n->h.last k<h.n)
 |0,k,e=>by rw[Jx g (Nk (by lia))];lia
 | m+1,k,e=>by
  cases hd:h.dir k with
  |none=>rw[Jx g hd];lia
  |some d=>
   have:=Lw g hd;rw[Ng g hd];have:=ZF8 g m d (by lia);lia
theorem ZCm(g:GoodH h)(k:Nat):k<=h.last k/\(k<h.n->h.last k<h.n):=ZF8 g h.n k (by lia)
def Hs.Fj(h:Hs)(j:Nat):Nat->Int:=λi=>if j<=i then h.last i else i
theorem ZB0(g:GoodH h){G:DH}:∀(j:Nat)(x y:Option D),j<=h.n->∃x' y',
  Bm (gV 2) V3 (Iz ((j:Int)-1) j) [vB h.enc,vB (.ref G.length),x,y] (G++[.lst (tab h.n (h.Fj j))])=.nx [vB h.enc,vB (.ref G.length),x',y'] (G++[.lst (tab h.n (h.Fj 0))])
 |0,x,y,e=>⟨x,y,by rw[ZKQ,Hy]⟩
 | j + 1,x,y,e=>by
  have hj:j<h.n:=by lia
  obtain⟨x',y',ih⟩:=ZB0 g (G:=G) j (vB (.int j)) (vB (dnD (h.dir j))) (by lia);refine⟨x',y',?_⟩;have e1:(((j+1:Nat):Int)-1)=j:=by lia
  have hb:V3 [vB h.enc,vB (.ref G.length),vB (.int j),y] (G++[.lst (tab h.n (h.Fj (j+1)))])=.nx [vB h.enc,vB (.ref G.length),vB (.int j),vB (dnD (h.dir j))] (G++[.lst (tab h.n (h.Fj j))]):=by
   unfold V3;cases hd:h.dir j with
   | none=>
    have et:tab h.n (h.Fj (j+1))=tab h.n (h.Fj j):=Ho λi hi=>by
     unfold Hs.Fj;by_cases e2:i=j
     ·subst e2;rw[Jx g hd];simp
     ·by_cases e3:j<=i
      ·rw[if_pos e3,if_pos (by lia)]
      ·rw[if_neg e3,if_neg (by lia)]
    simp[Mi g hj,hd,dnD,et]
   | some d=>
    have hl:=Lw g hd;have et:tab h.n (fset (h.Fj (j+1)) j (h.Fj (j+1) d))=tab h.n (h.Fj j):=Ho λi hi=>by
     unfold Hs.Fj fset;by_cases e2:i=j
     ·subst e2;rw[if_pos rfl,if_pos (by lia),if_pos (by lia),Ng g hd]
     ·rw[if_neg e2];dsimp only;by_cases e3:j<=i
      ·rw[if_pos e3,if_pos (by lia)]
      ·rw[if_neg e3,if_neg (by lia)]
    simp[Mi g hj,hd,dnD,Cj,Gp hl.2.1,Ek,Fv,hj,Mg,et]
  rw[e1,ZKJ,Et];simp only[Ea,R.Dk,qS,hb,Eb];exact ih
theorem ZLa(g:GoodH h)(G:DH):T3 [h.enc] G=.ok (.ref G.length) (G++[.lst (tab h.n λi=>(h.last i:Int))]):=by
 obtain⟨x',y',hL⟩:=ZB0 g (G:=G) h.n vC vC (zW _);have e0:tab h.n (h.Fj h.n)=Do 0 h.n:=by
  unfold tab Do;refine qQ λi hi=>?_
  have:=qY.mp hi;unfold Hs.Fj;rw[if_neg (by lia)];simp
 have e1:h.Fj 0=λi=>(h.last i:Int):=by funext i;unfold Hs.Fj;simp
 rw[e0,e1]at hL;have hn:=g.len;have r1:inR (h.n:Int):=O8 (by lia) (by lia);have r2:inR ((h.n:Int)-1):=O8 (by lia) (by lia);have r3:inR (-1):=O8 (by lia) (by lia);have e2:((h.n:Int)-1 - -1).toNat=h.n:=by lia
 have h6:(h.n:Int)<=1000000:=by lia
 have ebr:bels G.length (Do 0 h.n)=vD:=G8 λ_ _=>rfl
 unfold T3 ZEt;rw[Bh];simp[Du,Hs.ZBb,r1,h6,Fi ebr,r2,r3,ZOn,e2,hL,Fi]
def Hs.mem(h:Hs)(m:Nat):List Nat:=(zk h.n).filter λk=>decide (h.last k=m)
theorem mem_iff:k∈h.mem m↔k<h.n/\h.last k=m:=by unfold Hs.mem;rw[List.mem_filter,qY];simp
theorem Zc:(h.mem m).Pairwise (· < ·):=List.Pairwise.filter _ List.pairwise_lt_range
theorem ZFt:(h.mem m).length<=h.n:=by have:=List.length_filter_le (λk=>decide (h.last k=m)) (zk h.n);simpa[Hs.mem]using this
theorem ZMu(hs:ms.Pairwise (· < ·))(hi:i<ms.length)(hj:j<ms.length)(h:ms[i]<ms[j]):i<j:=by
 rcases Nat.lt_trichotomy i j with z|z|z
 ·exact z
 ·subst z;lia
 ·have:=jW.mp hs j i hj hi z;lia
theorem ZHk(g:GoodH h)(hm:m<h.n)(e:h.last m=m):(h.mem m).getLast?=vB m:=by
 have hmem:m∈h.mem m:=mem_iff.mpr ⟨hm,e⟩;have hne:h.mem m≠[]:=λz=>by rw[z]at hmem;cases hmem
 rw[List.getLast?_eq_some_getLast hne]
 congr 1
 have h1:=mem_iff.mp (List.getLast_mem hne);have h2:=(ZCm g ((h.mem m).getLast hne)).1;obtain⟨i,hi,ei⟩:=qK hmem;have h3:m<=(h.mem m).getLast hne:=by
  rw[List.getLast_eq_getElem];by_cases e4:i=(h.mem m).length-1
  ·subst e4;lia
  ·have:=jW.mp (Zc (h:=h) (m:=m)) i ((h.mem m).length-1) hi (by lia) (by lia);lia
 lia
def Hs.need(h:Hs)(k:Nat):Int:=match(h.pl k).kd with
 |.town a _=>a
 |_=>0
def Hs.rank(h:Hs)(k:Nat):Int:=match(h.pl k).kd with
 |.town _ b=>b
 |_=>0
def Hs.row(h:Hs)(ms:List Nat)(ca:Nat->Int)(k:Nat):Row:=⟨(h.dir k).map λd=>ms.idxOf d,ca k,h.need k,h.rank k⟩
def Hs.rows(h:Hs)(ms:List Nat)(ca:Nat->Int):List Row:=ms.map (h.row ms ca)
theorem idx_map(d:Nat):∀ms:List Nat,(ms.map λ(i:Nat)=>(i:Int)).idxOf (d:Int)=ms.idxOf d
 |[]=>rfl
 | m::ms=>by
  rw[zG,List.idxOf_cons,List.idxOf_cons,idx_map d ms];by_cases e:m=d
  ·subst e;simp
  ·have e2:¬((m:Int)=d):=by lia
   have b1:((m:Int)==(d:Int))=vE:=by simp[e2]
   have b2:(m==d)=vE:=by simp[e]
   rw[b1,b2]
theorem ZGA(g:GoodH h)(hm:∀k∈ms,k<h.n/\∀d,h.dir k=vB d->d∈ms)(hl:ms.length<=40)(hp:G[p]?=vB (.lst (tab h.n ca))):∀(ks:List Nat)(acc:List Row)(x1 x2 x3 x4:Option D),(∀k∈ks,k∈ms)->acc.length+ks.length<=40->∃y1 y2 y3 y4,
  Bm (gV 4) Ot (Ak ks) [vB h.enc,vB (.fl (Ak ms)),vB (.ref p),vB (.ref G.length),x1,x2,x3,x4] (G++[.lst (acc.map Row.enc)])=
   .nx [vB h.enc,vB (.fl (Ak ms)),vB (.ref p),vB (.ref G.length),y1,y2,y3,y4] (G++[.lst ((acc++ks.map (h.row ms ca)).map Row.enc)])
 |[],acc,x1,x2,x3,x4,_,_=>⟨x1,x2,x3,x4,by simp[Ak,Hy]⟩
 | k::ks,acc,x1,x2,x3,x4,hk,ha=>by
  obtain⟨hkn,hkd⟩:=hm k (hk k zX);obtain⟨y1,y2,y3,y4,ih⟩:=ZGA g hm hl hp ks (acc++[h.row ms ca k]) (vB (.int k)) (vB (h.encP (h.pl k))) (vB (dnD (h.dir k))) (vB (dnD ((h.dir k).map λd=>ms.idxOf d))) (λj hj=>hk j (zJ _ hj)) (by simp at ha⊢;lia);refine⟨y1,y2,y3,y4,?_⟩;have hpl:p<G.length:=(zH.mp hp).1;have hgp:∀L:DH,(G++L)[p]?=vB (.lst (tab h.n ca)):=λL=>by rw[zL hpl];exact hp
  have ha2:acc.length<1000000:=by simp at ha;lia
  have ht:h.row ms ca k=⟨(h.dir k).map λd=>ms.idxOf d,ca k,h.need k,h.rank k⟩:=rfl;have hb:Ot [vB h.enc,vB (.fl (Ak ms)),vB (.ref p),vB (.ref G.length),vB (.int k),x2,x3,x4] (G++[.lst (acc.map Row.enc)])=
    .nx [vB h.enc,vB (.fl (Ak ms)),vB (.ref p),vB (.ref G.length),vB (.int k),vB (h.encP (h.pl k)),vB (dnD (h.dir k)),vB (dnD ((h.dir k).map λd=>ms.idxOf d))] (G++[.lst ((acc++[h.row ms ca k]).map Row.enc)]):=by
   have hix:∀d,h.dir k=vB d->∀G',N5 (.fl (Ak ms)) [.int (d:Int)] G'=.ok (.int (ms.idxOf d:Nat)) G':=λd hd G'=>by
    have e:Ak ms=(ms.map λ(i:Nat)=>(i:Int)).map D.int:=by simp[Ak]
    rw[e,ZMf (ns:=ms.map λ(i:Nat)=>(i:Int)) (by simp[G9]) (zF.mpr ⟨d,hkd d hd,rfl⟩) (by simp;lia),idx_map]
   unfold Ot;by_cases hT:(h.pl k).kd.isT=vD
   ·obtain⟨a,b,ek⟩:∃a b,(h.pl k).kd=.town a b:=by
     cases e:(h.pl k).kd with
     |town a b=>exact⟨a,b,rfl⟩
     |basin _ _ _=>rw[e]at hT;cases hT
     |mill _=>rw[e]at hT;cases hT
    have e4:∀G',Ah (h.encP (h.pl k)) (.int 4) G'=.ok (.int a) G':=λG'=>by unfold Hs.encP;rw[ek];simp
    have e5:∀G',Ah (h.encP (h.pl k)) (.int 5) G'=.ok (.int b) G':=λG'=>by unfold Hs.encP;rw[ek];simp
    have en:h.need k=a:=by unfold Hs.need;rw[ek]
    have er:h.rank k=b:=by unfold Hs.rank;rw[ek]
    cases hd:h.dir k with
    |none=>simp[Du,Hs.Ec hkn,Mi g hkn,hd,dnD,Ut,hT,hgp,Gp hkn,e4,e5,Bj,Cj,Ek,ha2,ht,Row.enc,en,er]
    |some d=>simp[Du,Hs.Ec hkn,Mi g hkn,hd,dnD,hix d hd,Ut,hT,hgp,Gp hkn,e4,e5,Bj,Cj,Ek,ha2,ht,Row.enc,en,er]
   ·have en:h.need k=0:=by
     unfold Hs.need;cases e:(h.pl k).kd with
     |town a b=>rw[e]at hT;exact absurd rfl hT
     |basin _ _ _=>rfl
     |mill _=>rfl
    have er:h.rank k=0:=by
     unfold Hs.rank;cases e:(h.pl k).kd with
     |town a b=>rw[e]at hT;exact absurd rfl hT
     |basin _ _ _=>rfl
     |mill _=>rfl
    cases hd:h.dir k with
    |none=>simp[Du,Hs.Ec hkn,Mi g hkn,hd,dnD,Ut,hT,hgp,Gp hkn,Bj,Cj,Ek,ha2,ht,Row.enc,en,er]
    |some d=>simp[Du,Hs.Ec hkn,Mi g hkn,hd,dnD,hix d hd,Ut,hT,hgp,Gp hkn,Bj,Cj,Ek,ha2,ht,Row.enc,en,er]
  show Bm _ _ (.int k::Ak ks) _ _=_;rw[Et];simp only[Ea,R.Dk,qS,hb,Eb];rw[ih];simp
theorem ZG0(g:GoodH h)(hm:∀k∈ms,k<h.n/\∀d,h.dir k=vB d->d∈ms)(hl:ms.length<=40)(hp:G[p]?=vB (.lst (tab h.n ca))):
  Vd [h.enc,.fl (Ak ms),.ref p] G=.ok (.ref G.length) (G++[.lst ((h.rows ms ca).map Row.enc)]):=by
 obtain⟨y1,y2,y3,y4,hL⟩:=ZGA g hm hl hp ms [] vC vC vC vC (λk hk=>hk) (by simpa using hl);have hL':Bm (gV 4) Ot (Ak ms) [vB h.enc,vB (.fl (Ak ms)),vB (.ref p),vB (.ref G.length),vC,vC,vC,vC] (G++[.lst []])=.nx [vB h.enc,vB (.fl (Ak ms)),vB (.ref p),vB (.ref G.length),y1,y2,y3,y4] (G++[.lst ((h.rows ms ca).map Row.enc)]):=hL;unfold Vd ZCl;rw[Bh];simp[Aw,Fi,hL']
theorem ZDO(g:GoodH h)(hc:∀k,k<h.n->0<=ca k):Reach (h.rows (h.mem m) ca):=λi r hr=>by
 have hil:i<(h.mem m).length:=by have:=(zH.mp hr).1;simpa[Hs.rows]using this
 have e:r=h.row (h.mem m) ca (h.mem m)[i]:=by unfold Hs.rows at hr;rw[zq,zZ hil]at hr;simpa using hr.symm
 obtain⟨hk,hlast⟩:=mem_iff.mp (qx hil);subst e;refine⟨λd hd=>?_,hc _ hk,?_,?_⟩
 ·have hd':(h.dir (h.mem m)[i]).map (λd=>(h.mem m).idxOf d)=vB d:=hd;cases e:h.dir (h.mem m)[i]with
  |none=>rw[e]at hd';cases hd'
  |some d0=>
   rw[e]at hd';have ed:(h.mem m).idxOf d0=d:=by simpa using hd'
   have hl:=Lw g e;have hmem:d0∈h.mem m:=mem_iff.mpr ⟨hl.2.1,by rw[<-Ng g e];exact hlast⟩;have hlt:=jk hmem;have hg:(h.mem m)[(h.mem m).idxOf d0]=d0:=List.getElem_idxOf hlt;subst ed;refine⟨ZMu Zc hil hlt (by rw[hg];exact hl.1),by simpa[Hs.rows]using hlt⟩
 ·show 0<=h.need _;unfold Hs.need;cases e:(h.pl (h.mem m)[i]).kd with
  |town a b=>exact(g.town _ a b hk e).1
  |basin _ _ _=>exact qE _
  |mill _=>exact qE _
 ·show 0<=h.rank _;unfold Hs.rank;cases e:(h.pl (h.mem m)[i]).kd with
  |town a b=>exact(g.town _ a b hk e).2
  |basin _ _ _=>exact qE _
  |mill _=>exact qE _
structure Cs where
 came:Nat->Int
 coming:Nat->Nat->Int
 page:Nat->List Int
 rea:List D
variable{s:Cs}
noncomputable def Jm(l:List Int):D:=match l with
 |[]=>.non
 |_=>.tup (l.map D.int)
@[simp]theorem ZIF{n:Nat}:bel n (Jm l)=vD:=by
 cases l with
 |nil=>rfl
 |cons a l=>simp only[Jm,_D.bel];exact ZCa
noncomputable def cfl(ds:List D):List (Str×D):=(["house","levels","year_turn","came","coming","page","reaches"]:List Str).zip ds
def cflds(i n:Nat)(H LV:D)(yt:Int):List (Str×D):=cfl [H,LV,.int yt,.ref (i+1),.ref (i+(2+n)),.ref (i+(3+n)),.ref (i+(4+n))]
def Cd(n:Nat)(pg:Nat->List Int):List D:=(zk n).map λk=>Jm (pg k)
def Ck(i n:Nat):List D:=(zk n).map λk=>D.ref (i+(2+k))
def csT(i n:Nat)(H LV:D)(yt:Int)(s:Cs):DH:=.ins "Course" (cflds i n H LV yt):: .lst (tab n s.came)::((zk n).map (λk=>DO.lst (tab 5 (s.coming k)))++[.lst (Ck i n),.lst (Cd n s.page),.lst s.rea])
def csH(G:DH)(n:Nat)(H LV:D)(yt:Int)(s:Cs):DH:=G++csT G.length n H LV yt s
theorem ZMC{n:Nat}{yt:Int}:(csT i n H LV yt s).length=n+5:=by simp[csT]
theorem ZD3{n:Nat}{yt:Int}:(csH G n H LV yt s).length=G.length+(n+5):=by unfold csH;rw[zT,ZMC]
section
variable{G:DH}{n:Nat}{H LV:D}{yt:Int}{s:Cs}
theorem Mu(j:Nat):(csH G n H LV yt s)[G.length+j]?=(csT G.length n H LV yt s)[j]? :=Hl _ j
theorem Ir:(csH G n H LV yt s)[G.length]?=vB (.ins "Course" (cflds G.length n H LV yt)):=Mu 0
theorem Q6:(csH G n H LV yt s)[G.length+1]?=vB (.lst (tab n s.came)):=Mu 1
theorem Vv:(csT i n H LV yt s)[2+j]?=((zk n).map (λk=>DO.lst (tab 5 (s.coming k)))++[.lst (Ck i n),.lst (Cd n s.page),.lst s.rea])[j]? :=by
 have e:2+j=j+1+1:=by lia
 rw[e]
 rfl
theorem ZBS(hk:k<n):(csH G n H LV yt s)[G.length+(2+k)]?=vB (.lst (tab 5 (s.coming k))):=by
 rw[Mu,Vv,zL (by simpa using hk),zq,zP hk]
 rfl
theorem Uz:(csH G n H LV yt s)[G.length+(2+n)]?=vB (.lst (Ck G.length n)):=by rw[Mu,Vv,zI (by simp)];simp
theorem Je:(csH G n H LV yt s)[G.length+(3+n)]?=vB (.lst (Cd n s.page)):=by
 have e:3+n=2+(n+1):=by lia
 rw[e,Mu,Vv,zI (by simp)];simp
theorem csHe:(csH G n H LV yt s)[G.length+(4+n)]?=vB (.lst s.rea):=by
 have e:4+n=2+(n+2):=by lia
 rw[e,Mu,Vv,zI (by simp)];simp
theorem Vj(j:Nat)(o:DO):(csH G n H LV yt s).set (G.length+j) o=G++(csT G.length n H LV yt s).set j o:=Ox _ j o
theorem csS1:(csH G n H LV yt s).set (G.length+1) (.lst (tab n ca))=csH G n H LV yt {s with came:=ca}:=Vj 1 _
def upd2(co:Nat->Nat->Int)(k:Nat)(r:Nat->Int):Nat->Nat->Int:=λi=>if i=k then r else co i
theorem Wl{o:DO}:(csT i n H LV yt s).set (2+j) o=.ins "Course" (cflds i n H LV yt):: .lst (tab n s.came)::((zk n).map (λk=>DO.lst (tab 5 (s.coming k)))++[DO.lst (Ck i n),DO.lst (Cd n s.page),DO.lst s.rea]).set j o:=by
 have e:2+j=j+1+1:=by lia
 rw[e]
 rfl
theorem csSr(hk:k<n){r:Nat->Int}:(csH G n H LV yt s).set (G.length+(2+k)) (.lst (tab 5 r))=csH G n H LV yt {s with coming:=upd2 s.coming k r}:=by
 rw[Vj,Wl,List.set_append_left _ _ (by simpa using hk)];unfold csH csT
 congr 3
 congr 1
 refine jC λi=>?_
 by_cases hi:i<n
 ·by_cases e:k=i
  ·subst e;rw[qB (by simpa using hi),zq,zP hi];simp[upd2]
  ·rw[q9 e,zq,zP hi,zq,zP hi];have:i≠k:=λz=>e z.symm
   simp[upd2,this]
 ·rw[zD (by simp;lia),zD (by simp;lia)]
theorem U3:(csH G n H LV yt s).set (G.length+(3+n)) (.lst (Cd n pg))=csH G n H LV yt {s with page:=pg}:=by
 have e:3+n=2+(n+1):=by lia
 rw[e,Vj,Wl,jF _ _ (by simp)];unfold csH csT;simp
theorem csSe{re:List D}:(csH G n H LV yt s).set (G.length+(4+n)) (.lst re)=csH G n H LV yt {s with rea:=re}:=by
 have e:4+n=2+(n+2):=by lia
 rw[e,Vj,Wl,jF _ _ (by simp)];unfold csH csT;simp
theorem J8:Ii "Course" "house" (.ref G.length) (csH G n H LV yt s)=.ok H (csH G n H LV yt s):=M3 Ir rfl
theorem ZFm:Ii "Course" "levels" (.ref G.length) (csH G n H LV yt s)=.ok LV (csH G n H LV yt s):=M3 Ir rfl
theorem ZCd:Ii "Course" "year_turn" (.ref G.length) (csH G n H LV yt s)=.ok (.int yt) (csH G n H LV yt s):=M3 Ir rfl
theorem Up:Ii "Course" "came" (.ref G.length) (csH G n H LV yt s)=.ok (.ref (G.length+1)) (csH G n H LV yt s):=M3 Ir rfl
theorem ZEy:Ii "Course" "coming" (.ref G.length) (csH G n H LV yt s)=.ok (.ref (G.length+(2+n))) (csH G n H LV yt s):=M3 Ir rfl
theorem O6:Ii "Course" "page" (.ref G.length) (csH G n H LV yt s)=.ok (.ref (G.length+(3+n))) (csH G n H LV yt s):=M3 Ir rfl
theorem ZLK:Ii "Course" "reaches" (.ref G.length) (csH G n H LV yt s)=.ok (.ref (G.length+(4+n))) (csH G n H LV yt s):=M3 Ir rfl
theorem J1{m:Str}{F:List D->DH->R D}{t:DA}(hm:∀i,(cflds i n H LV yt).lookup m=vC):Rz "Course" m F t S (.ref G.length) (csH G n H LV yt s)=(t S (csH G n H LV yt s)).bind λds G2=>F (.ref G.length::ds) G2:=ZMO Ir (hm _)
theorem ZB9:∀i,(cflds i n H LV yt).lookup ("send":Str)=vC:=λ_=>rfl
theorem Xc:∀i,(cflds i n H LV yt).lookup ("send_down":Str)=vC:=λ_=>rfl
theorem ZML:∀i,(cflds i n H LV yt).lookup ("go_basin":Str)=vC:=λ_=>rfl
theorem ZNJ:∀i,(cflds i n H LV yt).lookup ("go_reach":Str)=vC:=λ_=>rfl
theorem ZKb:∀i,(cflds i n H LV yt).lookup ("go":Str)=vC:=λ_=>rfl
theorem ZJU:∀i,(cflds i n H LV yt).lookup ("state_behind":Str)=vC:=λ_=>rfl
theorem K8{s':Cs}{d:D}(hb:∀m,bel m d=vD):tidy (csH G n H LV yt s) (.ok d (csH G n H LV yt s'))=.ok d (csH G n H LV yt s'):=ZLl (by rw[ZD3,ZD3]) (hb _)
theorem ZJ8(hk:k<n):atI (Ck i n) (k:Int)=vB (.ref (i+(2+k))):=Er rfl (by unfold Ck;rw[zq,zP hk];rfl)
theorem ZM2:(Cd n pg).set k (Jm l)=Cd n λi=>if i=k then l else pg i:=by
 unfold Cd;refine jC λi=>?_
 by_cases hi:i<n
 ·by_cases e:k=i
  ·subst e;rw[qB (by simpa using hi),zq,zP hi];simp
  ·rw[q9 e,zq,zP hi,zq,zP hi];have:i≠k:=λz=>e z.symm
   simp[this]
 ·rw[zD (by simp;lia),zD (by simp;lia)]
@[simp]theorem ZL2:(Cd n pg).length=n:=by simp[Cd]
def Cs.send(s:Cs)(to dl:Nat)(c:Int):Cs:=if dl=0 then{s with came:=fset s.came to (s.came to+c)}else{s with coming:=upd2 s.coming to (fset (s.coming to) (dl-1) (s.coming to (dl-1)+c))}
theorem ZFp(ht:to<n)(hd:dl<=5):Q7 [.ref G.length,.int to,.int dl,.int c] (csH G n H LV yt s)=.ok .non (csH G n H LV yt (s.send to dl c)):=by
 unfold Q7 ZEI;rw[Bh];by_cases h0:dl=0
 ·subst h0;simp[Up,Uy Q6 (Gp ht),Q6,Fv,ht,Mg,csS1,Cs.send,K8]
 ·have e:((dl:Int)-1)=((dl-1:Nat):Int):=by lia
  have h1:dl-1<5:=by lia
  simp[h0,ZEy,Uz,ZJ8 ht,e,Uy (ZBS ht) (Gp h1),ZBS ht,Fv,h1,Mg,csSr ht,Cs.send,K8]
end
def Hs.Fb(h:Hs)(s:Cs)(k:Nat)(c:Int):Cs:=match h.dn k with
 |none=>s
 |some d=>s.send d (h.pl k).dl c
section
variable{G:DH}{h:Hs}{lv:Nat->Int}{yt:Int}{s:Cs}
theorem Xm(g:GoodH h)(hk:k<h.n):R7 [.ref G.length,.int k,.int c] (csH G h.n h.enc LV yt s)=.ok .non (csH G h.n h.enc LV yt (h.Fb s k c)):=by
 unfold R7 ZEe;rw[Bh];cases hd:h.dn k with
 |none=>simp[J8,Kh g hk,hd,dnD,Hs.Fb,K8]
 |some d=>
  have hl:=g.dn k d hk hd;simp[J8,Kh g hk,hd,dnD,J1 ZB9,Du,Hs.Ec hk,ZFp hl.2 (g.dl k hk),Hs.Fb,K8]
theorem Us{n:Nat}{b d e f:Int}:(Cd n pg).set k (.tup [.int a,.int b,.int c,.int d,.int e,.int f])=Cd n λi=>if i=k then[a,b,c,d,e,f]else pg i:=ZM2 (l:=[a,b,c,d,e,f])
def Hs.basin(h:Hs)(yt:Int)(lv:Nat->Int)(s:Cs)(k:Nat):Cs:=match(h.pl k).kd with
 |.basin brim rule pump=>
  let w:=lv k+s.came k;let st:=held yt rule [];let stays:=w-rv w st-pm w st;let lies:=min stays brim;let s1:Cs:={s with page:=λi=>if i=k then[s.came k,0,stays-lies,rv w st,pm w st,lies]else s.page i};let s2:=h.Fb s1 k (rv w st+(stays-lies))
  match pump with
  |none=>s2
  |some (to,dl,_)=>s2.send to dl (pm w st)
 |_=>s
theorem ZNn(g:GoodH h)(hk:k<h.n)(hB:(h.pl k).kd.isB=vD):Wb [.ref G.length,.int k] (csH G h.n h.enc (.tup (tab h.n lv)) yt s)=.ok .non (csH G h.n h.enc (.tup (tab h.n lv)) yt (h.basin yt lv s k)):=by
 obtain⟨brim,rule,pump,ek⟩:∃a b c,(h.pl k).kd=.basin a b c:=by
  cases e:(h.pl k).kd with
  |basin a b c=>exact⟨a,b,c,rfl⟩
  |town _ _=>rw[e]at hB;cases hB
  |mill _=>rw[e]at hB;cases hB
 have e4:∀G',Ah (h.encP (h.pl k)) (.int 4) G'=.ok (.int brim) G':=λG'=>by unfold Hs.encP;rw[ek];simp
 have e5:∀G',Ah (h.encP (h.pl k)) (.int 5) G'=.ok (.tup (rule.map Mj)) G':=λG'=>by unfold Hs.encP;rw[ek];simp
 have e6:∀G',Ah (h.encP (h.pl k)) (.int 6) G'=.ok (h.Px pump) G':=λG'=>by unfold Hs.encP;rw[ek];simp
 simp only[Hs.basin,ek];unfold Wb ZDG;rw[Bh];cases hp:pump with
 |none=>simp[J8,Du,Hs.Ec hk,Up,Q6,Gp hk,e5,ZCd,c_at,ZFm,ZD9,e4,Bj,O6,Je,Fv,hk,Us,U3,J1 Xc,Xm g hk,e6,hp,Hs.Px,K8]
 |some q=>
  obtain⟨to,dl,mo⟩:=q;have hl:=g.pump k brim rule to dl mo hk (by rw[ek,hp]);simp[J8,Du,Hs.Ec hk,Up,Q6,Gp hk,e5,ZCd,c_at,ZFm,ZD9,e4,Bj,O6,Je,Fv,hk,Us,U3,J1 Xc,Xm g hk,e6,hp,Hs.Px,J1 ZB9,ZCU g hl.1,ZFp hl.1 hl.2.2,K8]
end
noncomputable def z3(ms:List Nat)(T L:Nat->Int):List D:=(zk ms.length).map λi=>D.tup [.int (ms.getD i 0:Nat),.int (T i),.int (L i)]
theorem ZKa{L:Nat->Int}(j:Nat)(G:DH):Ft [.fl (Ak ms),.fl (tab ms.length T),.fl (tab ms.length L)] j G=vB (z3 ms T L)[j]? :=by
 unfold Ft z3;by_cases hj:j<ms.length
 ·have e1:(Ak ms)[j]?=vB (.int (ms.getD j 0:Nat)):=by unfold Ak;rw[zq,zZ hj];simp[zA,zZ hj]
  simp[Gh,e1,Pq hj,zP hj]
 ·have e1:(Ak ms)[j]?=vC:=zD (by simp;lia);have e2:(zk ms.length)[j]?=vC:=zD (by simp;lia);simp[Gh,e1,e2]
noncomputable def rrow(T L:Nat->Int)(i:Nat):List Int:=[T i+L i,T i,0,L i,0,0]
def pgM(ms:List Nat)(T L:Nat->Int)(pg:Nat->List Int)(i:Nat):Nat->List Int:=λk=>if k∈ms.take i then rrow T L (ms.idxOf k)else pg k
theorem ZNx{L:Nat->Int}:pgM ms T L pg 0=pg:=by funext k;simp[pgM]
theorem ZCw(nd:ms.Nodup)(hi:i<ms.length)(hj:j<ms.length)(e:ms[i]=ms[j]):i=j:=by
 rcases Nat.lt_trichotomy i j with z|z|z
 ·exact absurd e (jW.mp nd i j hi hj z)
 ·exact z
 ·exact absurd e.symm (jW.mp nd j i hj hi z)
theorem ZJ0(nd:ms.Nodup)(hi:i<ms.length):ms.idxOf ms[i]=i:=by have hl:=jk (qx hi);exact ZCw nd hl hi (List.getElem_idxOf hl)
theorem ZLS(nd:ms.Nodup){L:Nat->Int}(hi:i<ms.length):pgM ms T L pg (i+1)=λk=>if k=ms.getD i 0 then rrow T L i else pgM ms T L pg i k:=by
 have eg:ms.getD i 0=ms[i]:=by simp[zA,zZ hi]
 funext k;rw[eg];unfold pgM;rw[List.take_succ_eq_append_getElem hi];by_cases e:k=ms[i]
 ·subst e;rw[if_pos rfl,if_pos (j5.mpr (.inr (qz.mpr rfl))),ZJ0 nd hi]
 ·rw[if_neg e];have:(k∈ms.take i++[ms[i]])↔k∈ms.take i:=by rw[j5,qz];exact⟨λh=>h.elim id λz=>absurd z e,.inl⟩
  simp only[this]
section
variable{G:DH}{h:Hs}{LV:D}{yt:Int}
theorem ZCy(g:GoodH h)(hms:∀k∈ms,k<h.n)(nd:ms.Nodup)(hlast:ms.getLast?=vB m){T L:Nat->Int}{s:Cs}{r t:D}:∀(q i:Nat)(x y z:Option D),i+q=ms.length->0<q->∃x' y' z',
  Bm (Bd 3 (Al (gV 4) (Al (gV 5) (Al (gV 6) Bf)))) Jw ((z3 ms T L).drop i) [vB (.ref G.length),vB (.fl (Ak ms)),vB r,vB t,x,y,z] (csH G h.n h.enc LV yt {s with page:=pgM ms T L s.page i})=
   .nx [vB (.ref G.length),vB (.fl (Ak ms)),vB r,vB t,x',y',z'] (csH G h.n h.enc LV yt (h.Fb {s with page:=pgM ms T L s.page ms.length} m (L (ms.length-1))))
 |0,i,x,y,z,e,h0=>by lia
 | q + 1,i,x,y,z,e,h0=>by
  have hi:i<ms.length:=by lia
  have eg:ms.getD i 0=ms[i]:=by simp[zA,zZ hi]
  have hk:ms.getD i 0<h.n:=by rw[eg];exact hms _ (qx hi)
  have hmn:m<h.n:=hms m (List.mem_of_getLast? hlast);have e0:(z3 ms T L).drop i=.tup [.int (ms.getD i 0:Nat),.int (T i),.int (L i)]::(z3 ms T L).drop (i+1):=by rw[zM (by simp[z3];exact hi)];simp[z3]
  have hneg:atI (Ak ms) (-1)=vB (.int (m:Nat)):=by
   have hl:0<ms.length:=by lia
   rw[ZDv (by decide) (by simp;lia)]
   congr 1
   have e3:((-1:Int)+((Ak ms).length:Int)).toNat=ms.length-1:=by simp;lia
   simp only[e3];unfold Ak;rw[List.getElem_map];have e4:ms[ms.length-1]'(by lia)=m:=by have:=j4 (l:=ms);rw[hlast,zZ (by lia)]at this;exact(Option.some.inj this).symm
   rw[e4]
  have hpg:(λk=>if k=ms.getD i 0 then[T i+L i,T i,0,L i,0,0]else pgM ms T L s.page i k)=pgM ms T L s.page (i+1):=(ZLS nd hi).symm;rw[e0,Et];cases q with
  | zero=>
   have ei:i=ms.length-1:=by lia
   have em:ms.getD i 0=m:=by have:=j4 (l:=ms);rw[hlast,zZ (by lia)]at this;rw[eg];subst ei;exact(Option.some.inj this).symm
   have hb:Jw [vB (.ref G.length),vB (.fl (Ak ms)),vB r,vB t,vB (.int (ms.getD i 0:Nat)),vB (.int (T i)),vB (.int (L i))] (csH G h.n h.enc LV yt {s with page:=pgM ms T L s.page i})=
     .nx [vB (.ref G.length),vB (.fl (Ak ms)),vB r,vB t,vB (.int (ms.getD i 0:Nat)),vB (.int (T i)),vB (.int (L i))] (csH G h.n h.enc LV yt (h.Fb {s with page:=pgM ms T L s.page ms.length} m (L (ms.length-1)))):=by
    have e5:i+1=ms.length:=by lia
    rw[e5]at hpg;unfold Jw;simp only[em]at hk hpg⊢;simp[Bj,O6,Je,Fv,hk,Us,hpg,U3,hneg,J1 Xc,Xm g hmn,<-ei]
   refine⟨vB (.int (ms.getD i 0:Nat)),vB (.int (T i)),vB (.int (L i)),?_⟩;rw[zO (by simp[z3];lia)];simp only[Q3,Pg,Oc,Ea,R.Hr,R.Dk,qS,hb,Eb,qZ,jv,Nat.reduceAdd,if_true,Hy]
  | succ q=>
   have hne:ms.getD i 0≠m:=λz=>by have h1:=j4 (l:=ms);rw[hlast,zZ (by lia)]at h1;have h2:=Option.some.inj h1;rw[eg,h2]at z;have:=ZCw nd hi (by lia) z;lia
   have hne':¬((ms.getD i 0:Nat):Int)=(m:Int):=by lia
   have hb:Jw [vB (.ref G.length),vB (.fl (Ak ms)),vB r,vB t,vB (.int (ms.getD i 0:Nat)),vB (.int (T i)),vB (.int (L i))] (csH G h.n h.enc LV yt {s with page:=pgM ms T L s.page i})=
     .nx [vB (.ref G.length),vB (.fl (Ak ms)),vB r,vB t,vB (.int (ms.getD i 0:Nat)),vB (.int (T i)),vB (.int (L i))] (csH G h.n h.enc LV yt {s with page:=pgM ms T L s.page (i+1)}):=by
    unfold Jw;generalize ms.getD i 0=a at hk hpg hne';simp[Bj,O6,Je,Fv,hk,Us,hpg,U3,hneg,hne']
   obtain⟨x',y',z',ih⟩:=ZCy g hms nd hlast (T:=T) (L:=L) (s:=s) (r:=r) (t:=t) (q+1) (i+1) (vB (.int (ms.getD i 0:Nat))) (vB (.int (T i))) (vB (.int (L i))) (by lia) (by lia);refine⟨x',y',z',?_⟩;simp only[Q3,Pg,Oc,Ea,R.Hr,R.Dk,qS,hb,Eb,qZ,jv,Nat.reduceAdd,if_true];exact ih
def Hs.Ha(h:Hs)(s:Cs)(m:Nat):Nat->Int:=shr (h.rows (h.mem m) s.came)
def Hs.Gj(h:Hs)(s:Cs)(m:Nat):Nat->Int:=gath (h.rows (h.mem m) s.came) λi=>col Row.water (h.rows (h.mem m) s.came) i-h.Ha s m i
def Hs.reach(h:Hs)(s:Cs)(m:Nat):Cs:=
 let s1:=h.Fb {s with page:=pgM (h.mem m) (h.Ha s m) (h.Gj s m) s.page (h.mem m).length} m (h.Gj s m ((h.mem m).length-1))
 {s1 with rea:=s1.rea++[.tup [.fl (Ak (h.mem m)),.fl ((h.rows (h.mem m) s.came).map Row.enc)]]}
theorem Rn{n:Nat}(hb:∀m,bels m ds=vD):freeze (csH G n H LV yt s) (.ok (.ref (csH G n H LV yt s).length) (csH G n H LV yt s++[.lst ds]))=.ok (.fl ds) (csH G n H LV yt s):=H8 (hb _)
theorem Tt:(h.rows ms ca).length=ms.length:=by simp[Hs.rows]
theorem ZJs(g:GoodH h)(hm:m<h.n)(hl:h.last m=m)(hc:∀k,k<h.n->0<=s.came k)(hre:s.rea.length<=100):V1 [.ref G.length,.fl (Ak (h.mem m))] (csH G h.n h.enc LV yt s)=.ok .non (csH G h.n h.enc LV yt (h.reach s m)):=by
 have hR:=ZDO g (m:=m) hc;have hlen:(h.rows (h.mem m) s.came).length<=40:=by have:=ZFt (h:=h) (m:=m);have:=g.len;rw[Tt];lia
 have hmem:m∈h.mem m:=mem_iff.mpr ⟨hm,hl⟩;have hpos:0<(h.mem m).length:=List.length_pos_of_mem hmem;have nd:(h.mem m).Nodup:=(Zc (h:=h) (m:=m)).imp λhab=>zE hab
 have cr:=ZG0 g (ms:=h.mem m) (λk hk=>⟨(mem_iff.mp hk).1,λd hd=>by have h1:=mem_iff.mp hk;have h2:=Lw g hd;exact mem_iff.mpr ⟨h2.2.1,by rw[<-Ng g hd];exact h1.2⟩⟩) (by rw[<-Tt (h:=h) (ca:=s.came)];exact hlen) (p:=G.length+1) (ca:=s.came) (G:=csH G h.n h.enc LV yt s) Q6
 have cs:=ZJR hR hlen (csH G h.n h.enc LV yt s);have cp:=ZDe hR hlen (t:=.fl (tab (h.rows (h.mem m) s.came).length (shr (h.rows (h.mem m) s.came)))) (T:=shr (h.rows (h.mem m) s.came)) (G:=csH G h.n h.enc LV yt s) rfl;rw[Tt]at cs cp;obtain⟨x',y',z',hL⟩:=ZCy (G:=G) (LV:=LV) (yt:=yt) g (ms:=h.mem m) (λk hk=>(mem_iff.mp hk).1) nd (ZHk g hm hl) (T:=h.Ha s m) (L:=h.Gj s m) (s:=s) (r:=.fl ((h.rows (h.mem m) s.came).map Row.enc)) (t:=.fl (tab (h.mem m).length (h.Ha s m))) (h.mem m).length 0 vC vC vC (by lia) hpos
 rw[ZNx,jy]at hL;have hz:∀S G',Cq (Ft [.fl (Ak (h.mem m)),.fl (tab (h.mem m).length (h.Ha s m)),.fl (tab (h.mem m).length (h.Gj s m))]) (Bd 3 (Al (gV 4) (Al (gV 5) (Al (gV 6) Bf)))) Jw (h.mem m).length 0 S G'=Bm (Bd 3 (Al (gV 4) (Al (gV 5) (Al (gV 6) Bf)))) Jw (z3 (h.mem m) (h.Ha s m) (h.Gj s m)) S G':=λS G'=>Qv ZKa (by simp[z3])
 have eT:shr (h.rows (h.mem m) s.came)=h.Ha s m:=rfl;have eL:gath (h.rows (h.mem m) s.came) (λi=>col Row.water (h.rows (h.mem m) s.came) i-h.Ha s m i)=h.Gj s m:=rfl;rw[eT]at cs cp;rw[eL]at cp;have hre2:∀s':Cs,s'.rea=s.rea->s'.rea.length<1000000:=λs' e=>by rw[e];lia
 have ers:∀s':Cs,∀k c,(h.Fb s' k c).rea=s'.rea:=λs' k c=>by
  unfold Hs.Fb;cases h.dn k with
  |none=>rfl
  |some d=>simp only[Cs.send];split <;> rfl
 have el1:=hre2 _ (ers {s with page:=pgM (h.mem m) (h.Ha s m) (h.Gj s m) s.page (h.mem m).length} m (h.Gj s m ((h.mem m).length-1)));simp only[Hs.reach];generalize h.Fb {s with page:=pgM (h.mem m) (h.Ha s m) (h.Gj s m) s.page (h.mem m).length} m (h.Gj s m ((h.mem m).length-1))=s1 at hL el1;have hS:{s with page:=s.page}=s:=rfl;have ht:∀G',tidy G' (.ok (.tup [.fl (Ak (h.mem m)),.fl ((h.rows (h.mem m) s.came).map Row.enc)]) G')=.ok (.tup [.fl (Ak (h.mem m)),.fl ((h.rows (h.mem m) s.came).map Row.enc)]) G':=λG'=>Ce (by simp)
 unfold V1 ZD6;rw[Bh];simp[J8,Up,cr,Rn,cs,cp,Gz,Jb,lenOf,hz,hL,Bj,ht,ZLK,csHe,el1,csSe,K8]
end
def Cs.NN(n:Nat)(s:Cs):Prop:=(∀k,k<n->0<=s.came k)/\∀k j,k<n->j<5->0<=s.coming k j
theorem Cs.NN.send{n:Nat}(h:s.NN n)(hc:0<=c):(s.send to dl c).NN n:=by
 unfold Cs.send;split
 ·refine⟨λk hk=>?_,h.2⟩;simp only[fset];split
  ·rename_i e;subst e;have:=h.1 k hk;lia
  ·exact h.1 k hk
 ·refine⟨h.1,λk j hk hj=>?_⟩;simp only[upd2];split
  ·rename_i e;subst e;simp only[fset];split
   ·rename_i e2;subst e2;have:=h.2 k _ hk hj;lia
   ·exact h.2 k j hk hj
  ·exact h.2 k j hk hj
theorem Cs.NN.down{n:Nat}(h:s.NN n){hs:Hs}(hc:0<=c):(hs.Fb s k c).NN n:=by
 unfold Hs.Fb;cases hs.dn k with
 |none=>exact h
 |some d=>exact h.send hc
theorem ZBx{w:Int}{s:Stp}:0<=cub w s:=by unfold cub;lia
theorem ZFK{w:Int}:∀{st:List Stp},0<=rv w st
 |[]=>qE _
 |s::r=>by
  have h1:=ZFK (w:=w) (st:=r);have h2:=ZBx (w:=w) (s:=s);unfold rv
  split <;> lia
theorem ZCK{w:Int}:∀{st:List Stp},0<=pm w st
 |[]=>qE _
 |s::r=>by
  have h1:=ZCK (w:=w) (st:=r);have h2:=ZBx (w:=w) (s:=s);unfold pm
  split <;> lia
theorem Cs.NN.page{n:Nat}(h:s.NN n):({s with page:=pg}:Cs).NN n:=h
theorem Xz:(s.send to dl c).rea=s.rea/\(s.send to dl c).page=s.page:=by
 unfold Cs.send
 split <;> exact⟨rfl,rfl⟩
theorem M9:(h.Fb s k c).rea=s.rea/\(h.Fb s k c).page=s.page:=by
 unfold Hs.Fb;cases h.dn k with
 |none=>exact⟨rfl,rfl⟩
 |some d=>exact Xz
section
variable{h:Hs}{yt:Int}{lv:Nat->Int}{s:Cs}
theorem ZJJ(hs:s.NN h.n):(h.basin yt lv s k).NN h.n:=by
 unfold Hs.basin;cases(h.pl k).kd with
 | basin brim rule pump=>
  simp only;have a1:=ZFK (w:=lv k+s.came k) (st:=held yt rule []);have a2:=ZCK (w:=lv k+s.came k) (st:=held yt rule []);cases pump with
  |none=>exact hs.page.down (by lia)
  |some q=>
   obtain⟨to,dl,mo⟩:=q;exact Cs.NN.send (hs.page.down (by lia)) a2
 |town _ _=>exact hs
 |mill _=>exact hs
theorem ZOQ:(h.basin yt lv s k).rea=s.rea:=by
 unfold Hs.basin;cases(h.pl k).kd with
 |basin brim rule pump=>
  simp only;cases pump with
  |none=>rw[M9.1]
  |some q=>obtain⟨to,dl,mo⟩:=q;simp only;rw[Xz.1,M9.1]
 |town _ _=>rfl
 |mill _=>rfl
theorem ZDb(hB:(h.pl k).kd.isB=vD):((h.basin yt lv s k).page k).length=6/\∀i,i≠k->(h.basin yt lv s k).page i=s.page i:=by
 unfold Hs.basin;cases e:(h.pl k).kd with
 | basin brim rule pump=>
  simp only;cases pump with
  |none=>
   simp only;rw[M9.2];exact⟨by simp,λi hi=>by simp[hi]⟩
  |some q=>
   obtain⟨to,dl,mo⟩:=q;simp only;rw[Xz.2,M9.2];exact⟨by simp,λi hi=>by simp[hi]⟩
 |town _ _=>rw[e]at hB;cases hB
 |mill _=>rw[e]at hB;cases hB
theorem ZJa(g:GoodH h)(hs:s.NN h.n)(hi:i<(h.mem m).length):0<=h.Gj s m i:=by have hR:=ZDO g (m:=m) hs.1;have hsi:=ZHx hR;have:=hsi.p0 i (by rw[Tt];exact hi);rw[hsi.pg]at this;exact this
theorem ZKN(g:GoodH h)(hm:m<h.n)(hl:h.last m=m)(hs:s.NN h.n):(h.reach s m).NN h.n:=by have hpos:0<(h.mem m).length:=List.length_pos_of_mem (mem_iff.mpr ⟨hm,hl⟩);unfold Hs.reach;exact Cs.NN.down (s:={s with page:=pgM (h.mem m) (h.Ha s m) (h.Gj s m) s.page (h.mem m).length}) hs.page (ZJa g hs (by lia))
theorem ZLg:(h.reach s m).rea.length=s.rea.length+1:=by unfold Hs.reach;simp only[zT,jw];rw[M9.1]
theorem ZMU:(h.reach s m).page k=if k∈h.mem m then rrow (h.Ha s m) (h.Gj s m) ((h.mem m).idxOf k)else s.page k:=by unfold Hs.reach;simp only;rw[M9.2];unfold pgM;rw[List.take_of_length_le (zW _)]
def Hs.step(h:Hs)(yt:Int)(lv:Nat->Int)(s:Cs)(k:Nat):Cs:=if(h.pl k).kd.isB=vD then h.basin yt lv s k else if h.last k=k then h.reach s k else s
def Hs.goF(h:Hs)(yt:Int)(lv:Nat->Int):Nat->Nat->Cs->Cs
 |0,_,s=>s
 |m+1,k,s=>h.goF yt lv m (k+1) (h.step yt lv s k)
theorem ZCs(g:GoodH h)(hk:k<h.n)(hs:s.NN h.n):(h.step yt lv s k).NN h.n:=by
 unfold Hs.step;split
 ·exact ZJJ hs
 ·split
  ·rename_i e;exact ZKN g hk e hs
  ·exact hs
theorem ZMn:(h.step yt lv s k).rea.length<=s.rea.length+1:=by
 unfold Hs.step;split
 ·rw[ZOQ];lia
 ·split
  ·rw[ZLg];lia
  ·lia
end
section
variable{G:DH}{h:Hs}{yt:Int}{lv:Nat->Int}
theorem V0{β:Type}{f f':α->Option β}:∀{l:List α},(∀x∈l,f x=f' x)->l.filterMap f=l.filterMap f'
 |[],_=>rfl
 |x::l,hl=>by rw[zU,zU,hl x zX,V0 λy hy=>hl y (zJ _ hy)]
theorem ZGc(hS:Bb 2 [2] S=[vC,vC,vB (.int k)])(G:DH):Cm (Dh 0 (.fl (tab h.n λi=>(h.last i:Int)))) (Bd 2 (Al (gV 0) (Al (gV 1) Bf))) Ow Uk (Bb 2 [2] S) h.n 0 G=.ok (Ak (h.mem k)) G:=by
 have he:Cp (tab h.n λi=>(h.last i:Int))=(zk h.n).map λ(i:Nat)=>D.tup [.int (i:Int),.int (h.last i:Int)]:=by refine qF (by simp[Cp]) λi h1 h2=>by simp[Cp,tab]
 rw[W0 (F:=λd=>match d with | .tup [.int i,.int e]=>if e=(k:Int)then vB (.int i)else vC|_=>vC) (λj=>Tu j G) (λx hx=>?_) (by rw[Ip];simp)]
 ·congr 1
  rw[he,qq];unfold Hs.mem Ak;rw[<-List.filterMap_eq_filter,List.map_filterMap];refine V0 λi _=>?_
  by_cases e:h.last i=k
  ·subst e;simp[Option.guard]
  ·have e2:¬((h.last i:Int)=(k:Int)):=by lia
   simp[Option.guard,e,e2]
 ·rw[he]at hx;obtain⟨i,_,rfl⟩:=zF.mp hx;refine⟨[vB (.int i),vB (.int (h.last i:Int)),vB (.int k)],by rw[hS];simp,?_⟩;by_cases e:h.last i=k
  ·refine .inr ⟨by unfold Ow;simp[e],.int i,by unfold Uk;simp,by simp[e]⟩
  ·have e2:¬((h.last i:Int)=(k:Int)):=by lia
   exact .inl ⟨by unfold Ow;simp[e2],by simp[e2]⟩
theorem ZFN(g:GoodH h):∀(m k:Nat)(s:Cs)(x y:Option D),k+m=h.n->s.NN h.n->s.rea.length<=k->∃x' y',
  Bm (Bd 2 (Al (gV 2) (Al (gV 3) Bf))) Nr ((Cp (tab h.n λi=>(h.last i:Int))).drop k) [vB (.ref G.length),vB (.fl (tab h.n λi=>(h.last i:Int))),x,y] (csH G h.n h.enc (.tup (tab h.n lv)) yt s)=
   .nx [vB (.ref G.length),vB (.fl (tab h.n λi=>(h.last i:Int))),x',y'] (csH G h.n h.enc (.tup (tab h.n lv)) yt (h.goF yt lv m k s))
 |0,k,s,x,y,e,_,_=>⟨x,y,by rw[zO (by rw[Ip];simp;lia),Hy];rfl⟩
 | m + 1,k,s,x,y,e,hs,hre=>by
  have hk:k<h.n:=by lia
  have hn:=g.len;have hre2:=ZMn (h:=h) (yt:=yt) (lv:=lv) (s:=s) (k:=k);obtain⟨x',y',ih⟩:=ZFN g m (k+1) (h.step yt lv s k) (vB (.int k)) (vB (.int (h.last k:Int))) (by lia) (ZCs g hk hs) (by lia);refine⟨x',y',?_⟩;have e0:(Cp (tab h.n λi=>(h.last i:Int))).drop k=.tup [.int k,.int (h.last k:Int)]::(Cp (tab h.n λi=>(h.last i:Int))).drop (k+1):=by rw[zM (by rw[Ip];simpa using hk)];simp[Cp,tab]
  have hml:(h.mem k).length<=1000000:=by have:=ZFt (h:=h) (m:=k);lia
  have hb:Nr [vB (.ref G.length),vB (.fl (tab h.n λi=>(h.last i:Int))),vB (.int k),vB (.int (h.last k:Int))] (csH G h.n h.enc (.tup (tab h.n lv)) yt s)=
    .nx [vB (.ref G.length),vB (.fl (tab h.n λi=>(h.last i:Int))),vB (.int k),vB (.int (h.last k:Int))] (csH G h.n h.enc (.tup (tab h.n lv)) yt (h.step yt lv s k)):=by
   unfold Nr Hs.step;by_cases hB:(h.pl k).kd.isB=vD
   ·simp[J8,Du,Hs.Ec hk,Nv,hB,J1 ZML,ZNn g hk hB]
   ·by_cases hl:h.last k=k
    ·have hc:Cm (Dh 0 (.fl (tab h.n λi=>(h.last i:Int)))) (Bd 2 (Al (gV 0) (Al (gV 1) Bf))) Ow Uk (Bb 2 [2] [vB (.ref G.length),vB (.fl (tab h.n λi=>(h.last i:Int))),vB (.int k),vB (.int (k:Int))]) h.n 0 (csH G h.n h.enc (.tup (tab h.n lv)) yt s)=.ok (Ak (h.mem k)) (csH G h.n h.enc (.tup (tab h.n lv)) yt s):=ZGc rfl _;simp[J8,Du,Hs.Ec hk,Nv,hB,hl,J1 ZNJ,Gu,Jb,lenOf,hc,Aw,hml,Rn,ZJs g hk hl hs.1 (by lia)]
    ·have hl':¬((h.last k:Int)=(k:Int)):=by lia
     simp[J8,Du,Hs.Ec hk,Nv,hB,hl,hl']
  rw[e0,Et];simp only[Q3,Pg,Oc,Ea,R.Hr,R.Dk,qS,hb,Eb,qZ,jv,Nat.reduceAdd,if_true];exact ih
theorem ZLq(g:GoodH h)(hs:s.NN h.n)(hre:s.rea=[]):V2 [.ref G.length] (csH G h.n h.enc (.tup (tab h.n lv)) yt s)=.ok .non (csH G h.n h.enc (.tup (tab h.n lv)) yt (h.goF yt lv h.n 0 s)):=by
 obtain⟨x',y',hL⟩:=ZFN (G:=G) (yt:=yt) (lv:=lv) g h.n 0 s vC vC (by lia) hs (by rw[hre];simp);rw[jy]at hL;unfold V2 ZGX;rw[Bh];have hz:∀S G',Cq (Dh 0 (.fl (tab h.n λi=>(h.last i:Int)))) (Bd 2 (Al (gV 2) (Al (gV 3) Bf))) Nr h.n 0 S G'=Bm (Bd 2 (Al (gV 2) (Al (gV 3) Bf))) Nr (Cp (tab h.n λi=>(h.last i:Int))) S G':=λS G'=>Qv Tu (by rw[Ip];simp)
 simp[J8,ZLa g,Rn,Gu,Jb,lenOf,hz,hL,K8]
end
def Cw(n:Nat)(co:Nat->Nat->Int):List D:=(zk n).map λk=>D.tup (tab 5 (co k))
def stD(n:Nat)(lv:Nat->Int)(co:Nat->Nat->Int):D:=.tup [.tup (tab n lv),.tup (Cw n co)]
@[simp]theorem ZPR{n:Nat}:bels m (Cw n co)=vD:=G8 λk _=>by simp[Uw]
@[simp]theorem ZKB{n:Nat}:bels m (Cd n pg)=vD:=G8 λk _=>ZIF
@[simp]theorem ZP8{n:Nat}:(Cw n co).length=n:=by simp[Cw]
def Hz(co:Nat->Nat->Int):Nat->Nat->Int:=λk j=>if j<4 then co k (j+1)else 0
def cs0(co:Nat->Nat->Int)(fl:Nat->Int):Cs:=⟨λk=>fl k+co k 0,Hz co,λ_=>[],[]⟩
theorem tab5:tab 5 F=[.int (F 0),.int (F 1),.int (F 2),.int (F 3),.int (F 4)]:=rfl
theorem Ky{c f:Str}{fs:List (Str×D)}{d:D}(hl:fs.length<1000):Nt c f (.ref G.length) d S (G++ .ins c fs::L)=.nx S (G++ .ins c (Fp f d fs)::L):=by
 rw[ZHb (fs:=fs) (by rw[Cj];rfl) hl,Ek]
 rfl
theorem ZOW{n:Nat}(G:DH):Cm (Ft [.tup (tab n fl),.tup (Cw n co)]) (Bd 2 (Al (gV 0) (Al (gV 1) Bf))) Ci Rk (Bb 2 [] S) n 0 G=.ok (tab n λk=>fl k+co k 0) G:=by
 have he:M7 (tab n fl) (Cw n co)=(zk n).map λ(i:Nat)=>D.tup [.int (fl i),.tup (tab 5 (co i))]:=by refine qF (by simp[M7]) λi h1 h2=>by simp[M7,tab,Cw]
 rw[W0 (F:=λd=>match d with | .tup [.int c,.tup (.int a::_)]=>vB (.int (c+a))|_=>vC) (λj=>ZGB (T7 (xs:=tab n fl)) (T7 (xs:=Cw n co)) j) (λx hx=>?_) (by rw[he];simp)]
 ·congr 1
  rw[he,qq];show(zk n).filterMap (λi=>vB (D.int (fl i+co i 0)))=_;rw[qC]
  rfl
 ·rw[he]at hx;obtain⟨i,_,rfl⟩:=zF.mp hx;refine⟨[vB (.int (fl i)),vB (.tup (tab 5 (co i)))],by simp[Bb],.inr ⟨rfl,.int (fl i+co i 0),?_,by simp[tab5]⟩⟩;unfold Rk;simp[tab5]
theorem ZLr(G:DH):Ob [vB (.tup (tab 5 (co k)))] G=.ok (.ref G.length) (G++[.lst (tab 5 (Hz co k))]):=by
 have hcut:cutD (tab 5 (co k)) (vB 1) vC=[.int (co k 1),.int (co k 2),.int (co k 3),.int (co k 4)]:=rfl;have h1:Ke [.tup [.int (co k 1),.int (co k 2),.int (co k 3),.int (co k 4)]] G=.ok (.ref G.length) (G++[.lst [.int (co k 1),.int (co k 2),.int (co k 3),.int (co k 4)]]):=rfl;have h2:By (.fl [.int (co k 1),.int (co k 2),.int (co k 3),.int (co k 4)]) (.fl [.int 0]) G=.ok (.ref G.length) (G++[.lst (tab 5 (Hz co k))]):=rfl
 have hf:∀ds:List D,bels G.length ds=vD->freeze G (.ok (.ref G.length) (G++[.lst ds]))=.ok (.fl ds) G:=λds hb=>H8 hb
 unfold Ob;simp[Lj,Qu,hcut,ZNS,h1,hf,Aw,h2,Fi]
theorem ZDK{n:Nat}{co:Nat->Nat->Int}:∀(m k:Nat)(G:DH),k+m=n->Ed (gV 0) Ci Ob [vC] ((Cw n co).drop k) G=.ok ((zk m).map λj=>D.ref (G.length+j)) (G++(zk m).map λj=>DO.lst (tab 5 (Hz co (k+j))))
 |0,k,G,e=>by rw[zO (by simp;lia)];simp[Ed]
 | m+1,k,G,e=>by
  have e0:(Cw n co).drop k=.tup (tab 5 (co k))::(Cw n co).drop (k+1):=by rw[zM (by simp;lia)];simp[Cw]
  have ih:=ZDK (n:=n) (co:=co) m (k+1) (G++[.lst (tab 5 (Hz co k))]) (by lia);rw[e0,Xa];simp only[Ea,R.Hr,qS,Z3,if_true,ZLr,ih]
  congr 1
  ·rw[qO,zG,j0]
   congr 1
   refine qQ λj _=>?_
   simp only[Function.comp,zT,jw]
   congr 1
   lia
  ·rw[qO,zG,j0,qI]
   congr 1
   show _::_=_::_
   congr 1
   refine qQ λj _=>?_
   simp only[Function.comp]
   congr 3
   lia
theorem ZLI(g:GoodH h):
  Oe [.ref G.length,h.enc,stD h.n lv co,.int at_,.tup (tab h.n fl)] (G++[.ins "Course" []])=.ok .non (csH G h.n h.enc (.tup (tab h.n lv)) (at_%h.yr) (cs0 co fl)):=by
 have hn:=g.len;have hyr:=g.yr;have hnl:h.n<=1000000:=by lia
 have p1:∀a:D,Fp "house" a (cfl [])=cfl [a]:=λ_=>rfl
 have p2:∀a b:D,Fp "levels" b (cfl [a])=cfl [a,b]:=λ_ _=>rfl
 have p3:∀a b c:D,Fp "year_turn" c (cfl [a,b])=cfl [a,b,c]:=λ_ _ _=>rfl
 have p4:∀a b c d:D,Fp "came" d (cfl [a,b,c])=cfl [a,b,c,d]:=λ_ _ _ _=>rfl
 have p5:∀a b c d e:D,Fp "coming" e (cfl [a,b,c,d])=cfl [a,b,c,d,e]:=λ_ _ _ _ _=>rfl
 have p6:∀a b c d e f:D,Fp "page" f (cfl [a,b,c,d,e])=cfl [a,b,c,d,e,f]:=λ_ _ _ _ _ _=>rfl
 have p7:∀a b c d e f q:D,Fp "reaches" q (cfl [a,b,c,d,e,f])=cfl [a,b,c,d,e,f,q]:=λ_ _ _ _ _ _ _=>rfl
 have hl:∀ds,(cfl ds).length<1000:=λds=>by unfold cfl;rw[List.length_zip];have:(["house","levels","year_turn","came","coming","page","reaches"]:List Str).length=7:=rfl;lia
 have hz:∀G',Gz 2 [.tup (tab h.n fl),.tup (Cw h.n co)] G'=.ok (.fn h.n (Ft [.tup (tab h.n fl),.tup (Cw h.n co)])) G':=λG'=>by rw[ZEU T7 T7];simp
 have hcc:=λG'=>ZDK (n:=h.n) (co:=co) h.n 0 G' (by lia)
 simp only[jy,Nat.zero_add]at hcc;have hcs:∀S:DSt,Bb 1 [] S=[vC]:=λ_=>rfl
 have epg:zx h.n D.non=Cd h.n λ_=>[]:=by unfold Cd;refine qF (by simp) λi h1 h2=>by simp[Jm]
 let S:DSt:=[vB (.ref G.length),vB h.enc,vB (stD h.n lv co),vB (.int at_),vB (.tup (tab h.n fl)),vB (.tup (tab h.n lv)),vB (.tup (Cw h.n co))];have hS:S=[vB (.ref G.length),vB h.enc,vB (stD h.n lv co),vB (.int at_),vB (.tup (tab h.n fl)),vB (.tup (tab h.n lv)),vB (.tup (Cw h.n co))]:=rfl;let R5:DH:=(zk h.n).map λk=>DO.lst (tab 5 (Hz co k))
 have hR5:R5.length=h.n:=by simp[R5]
 have q1:Es "Course" (dV 0) (dV 1) "house" S (G++ .ins "Course" (cfl [])::[])=.nx S (G++ .ins "Course" (cfl [h.enc])::[]):=by rw[Ks,hS];simp only[ZBY,jB,jq,R.Dk,Ky (hl _),p1]
 have q2:Es "Course" (dV 0) (dV 5) "levels" S (G++ .ins "Course" (cfl [h.enc])::[])=.nx S (G++ .ins "Course" (cfl [h.enc,.tup (tab h.n lv)])::[]):=by rw[Ks,hS];simp only[ZBY,jB,jq,R.Dk,Ky (hl _),p2]
 have q3:Es "Course" (dV 0) (dOp Dj (dV 3) (dOp Ah (dV 1) (dC (.int 0)))) "year_turn" S (G++ .ins "Course" (cfl [h.enc,.tup (tab h.n lv)])::[])=.nx S (G++ .ins "Course" (cfl [h.enc,.tup (tab h.n lv),.int (at_%h.yr)])::[]):=by rw[Ks,hS];simp[ZGJ,hyr,Ky (hl _),p3]
 have q4:Es "Course" (dV 0) (Ex (Dr (Gz 2) (Ab (dV 4) (Ab (dV 6) Ad))) 2 [] (Bd 2 (Al (gV 0) (Al (gV 1) Bf))) Ci Rk) "came" S (G++ .ins "Course" (cfl [h.enc,.tup (tab h.n lv),.int (at_%h.yr)])::[])=
   .nx S (G++ .ins "Course" (cfl [h.enc,.tup (tab h.n lv),.int (at_%h.yr),.ref (G.length+1)]):: .lst (tab h.n λk=>fl k+co k 0)::[]):=by
  rw[Ks,hS];simp[hz,ZOW,Aw,hnl,Ky (hl _),p4]
 have q5:Es "Course" (dV 0) (Ex (Fq (dV 6)) 1 [] (gV 0) Ci Ob) "coming" S (G++ .ins "Course" (cfl [h.enc,.tup (tab h.n lv),.int (at_%h.yr),.ref (G.length+1)]):: .lst (tab h.n λk=>fl k+co k 0)::[])=
   .nx S (G++ .ins "Course" (cfl [h.enc,.tup (tab h.n lv),.int (at_%h.yr),.ref (G.length+1),.ref (G.length+(2+h.n))]):: .lst (tab h.n λk=>fl k+co k 0)::(R5++[.lst (Ck G.length h.n)])):=by
  have hi:Ff (.tup (Cw h.n co)) (G++ .ins "Course" (cfl [h.enc,.tup (tab h.n lv),.int (at_%h.yr),.ref (G.length+1)]):: .lst (tab h.n λk=>fl k+co k 0)::[])=.ok (.pure (Cw h.n co)) (G++ .ins "Course" (cfl [h.enc,.tup (tab h.n lv),.int (at_%h.yr),.ref (G.length+1)]):: .lst (tab h.n λk=>fl k+co k 0)::[]):=rfl;have er:∀L:DH,L.length=2->(zk h.n).map (λj=>D.ref ((G++L).length+j))=Ck G.length h.n:=λL e=>by
   unfold Ck;refine qQ λj _=>?_
   rw[zT,e,Nat.add_assoc]
  have hc2:=hcc (G++ .ins "Course" (cfl [h.enc,.tup (tab h.n lv),.int (at_%h.yr),.ref (G.length+1)]):: .lst (tab h.n λk=>fl k+co k 0)::[]);rw[er _ rfl]at hc2;have hml:∀G',Aw (Ck G.length h.n) G'=.ok (.ref G'.length) (G'++[.lst (Ck G.length h.n)]):=λG'=>by simp[Aw,Ck,hnl]
  rw[Ks,hS];simp only[ZNF,ZKW,ZBY,jB,jq,R.Hr,hi,hcs,hc2,hml,R.Dk];have e2:(G++DO.ins "Course" (cfl [h.enc,.tup (tab h.n lv),.int (at_%h.yr),.ref (G.length+1)]):: .lst (tab h.n λk=>fl k+co k 0)::[]++(zk h.n).map λj=>DO.lst (tab 5 (Hz co j))).length=G.length+(2+h.n):=by simp;lia
  rw[e2];simp only[qI,List.cons_append,j7];rw[Ky (hl _),p5]
 have q6:Es "Course" (dV 0) (Di (dOp Jd (dFn Aw (Ab (dC .non) Ad)) (dFn Dc (Ab (dV 5) Ad)))) "page" S (G++ .ins "Course" (cfl [h.enc,.tup (tab h.n lv),.int (at_%h.yr),.ref (G.length+1),.ref (G.length+(2+h.n))]):: .lst (tab h.n λk=>fl k+co k 0)::(R5++[.lst (Ck G.length h.n)]))=
   .nx S (G++ .ins "Course" (cfl [h.enc,.tup (tab h.n lv),.int (at_%h.yr),.ref (G.length+1),.ref (G.length+(2+h.n)),.ref (G.length+(3+h.n))]):: .lst (tab h.n λk=>fl k+co k 0)::(R5++[.lst (Ck G.length h.n),.lst (Cd h.n λ_=>[])])):=by
  rw[Ks,hS];generalize hQ:G++DO.ins "Course" (cfl [h.enc,.tup (tab h.n lv),.int (at_%h.yr),.ref (G.length+1),.ref (G.length+(2+h.n))]):: .lst (tab h.n λk=>fl k+co k 0)::(R5++[.lst (Ck G.length h.n)])=Q;have eQ:Q.length=G.length+(3+h.n):=by rw[<-hQ];simp[hR5];lia
  have hrep:Jd (.ref Q.length) (.int (h.n:Int)) (Q++[.lst [.non]])=.ok (.ref (Q.length+1)) (Q++[.lst [.non],.lst (Cd h.n λ_=>[])]):=by rw[ZCV (d:=.non) (by rw[Cj];rfl) (by lia),epg];simp
  have ht:tidy Q (.ok (.ref (Q.length+1)) (Q++[.lst [.non],.lst (Cd h.n λ_=>[])]))=.ok (.ref Q.length) (Q++[.lst (Cd h.n λ_=>[])]):=Wy _ (k:=1) rfl ZKB;have hst:Nt "Course" "page" (.ref G.length) (.ref Q.length) S (Q++[.lst (Cd h.n λ_=>[])])=.nx S (G++ .ins "Course" (cfl [h.enc,.tup (tab h.n lv),.int (at_%h.yr),.ref (G.length+1),.ref (G.length+(2+h.n)),.ref (G.length+(3+h.n))]):: .lst (tab h.n λk=>fl k+co k 0)::(R5++[.lst (Ck G.length h.n),.lst (Cd h.n λ_=>[])])):=by rw[eQ,<-hQ];simp only[qI,List.cons_append,j7];rw[Ky (hl _),p6]
  rw[hS]at hst;simp[Aw,hrep,ht,hst]
 have q7:Es "Course" (dV 0) (Di (dFn Aw Ad)) "reaches" S (G++ .ins "Course" (cfl [h.enc,.tup (tab h.n lv),.int (at_%h.yr),.ref (G.length+1),.ref (G.length+(2+h.n)),.ref (G.length+(3+h.n))]):: .lst (tab h.n λk=>fl k+co k 0)::(R5++[.lst (Ck G.length h.n),.lst (Cd h.n λ_=>[])]))=
   .nx S (G++ .ins "Course" (cfl [h.enc,.tup (tab h.n lv),.int (at_%h.yr),.ref (G.length+1),.ref (G.length+(2+h.n)),.ref (G.length+(3+h.n)),.ref (G.length+(4+h.n))]):: .lst (tab h.n λk=>fl k+co k 0)::(R5++[.lst (Ck G.length h.n),.lst (Cd h.n λ_=>[]),.lst []])):=by
  rw[Ks,hS];generalize hQ:G++DO.ins "Course" (cfl [h.enc,.tup (tab h.n lv),.int (at_%h.yr),.ref (G.length+1),.ref (G.length+(2+h.n)),.ref (G.length+(3+h.n))]):: .lst (tab h.n λk=>fl k+co k 0)::(R5++[.lst (Ck G.length h.n),.lst (Cd h.n λ_=>[])])=Q;have eQ:Q.length=G.length+(4+h.n):=by rw[<-hQ];simp[hR5];lia
  have ht:tidy Q (.ok (.ref Q.length) (Q++[.lst []]))=.ok (.ref Q.length) (Q++[.lst []]):=Fi rfl;have hst:Nt "Course" "reaches" (.ref G.length) (.ref Q.length) S (Q++[.lst []])=.nx S (G++ .ins "Course" (cfl [h.enc,.tup (tab h.n lv),.int (at_%h.yr),.ref (G.length+1),.ref (G.length+(2+h.n)),.ref (G.length+(3+h.n)),.ref (G.length+(4+h.n))]):: .lst (tab h.n λk=>fl k+co k 0)::(R5++[.lst (Ck G.length h.n),.lst (Cd h.n λ_=>[]),.lst []])):=by rw[eQ,<-hQ];simp only[qI,List.cons_append,j7];rw[Ky (hl _),p7]
  rw[hS]at hst;simp[Aw,ht,hst]
 have htd:tidy (G++[.ins "Course" []]) (.ok .non (csH G h.n h.enc (.tup (tab h.n lv)) (at_%h.yr) (cs0 co fl)))=.ok .non (csH G h.n h.enc (.tup (tab h.n lv)) (at_%h.yr) (cs0 co fl)):=ZIm λz=>by
  have h1:=congrArg (λl:DH=>l[G.length]?) z;simp only[zT,jw]at h1;rw[jY (by lia),Ir]at h1;have h2:(G++[DO.ins "Course" []])[G.length]?=vB (.ins "Course" []):=by rw[Cj];rfl
  rw[h2]at h1;simp[cflds,cfl]at h1
 have hfin:G++DO.ins "Course" (cfl [h.enc,.tup (tab h.n lv),.int (at_%h.yr),.ref (G.length+1),.ref (G.length+(2+h.n)),.ref (G.length+(3+h.n)),.ref (G.length+(4+h.n))]):: .lst (tab h.n λk=>fl k+co k 0)::(R5++[.lst (Ck G.length h.n),.lst (Cd h.n λ_=>[]),.lst []])=csH G h.n h.enc (.tup (tab h.n lv)) (at_%h.yr) (cs0 co fl):=rfl;have q0:sAs (dV 2) (Bd 2 (Al (gV 5) (Al (gV 6) Bf))) [vB (.ref G.length),vB h.enc,vB (stD h.n lv co),vB (.int at_),vB (.tup (tab h.n fl)),vC,vC] (G++[.ins "Course" []])=.nx S (G++ .ins "Course" (cfl [])::[]):=by
  simp[stD,hS]
  rfl
 unfold Oe ZEF;rw[Bh];have h5: [D.ref G.length,h.enc,stD h.n lv co,.int at_,.tup (tab h.n fl)].length=5:=rfl;rw[if_pos h5];have hd:([D.ref G.length,h.enc,stD h.n lv co,.int at_,.tup (tab h.n fl)].map vB++zx 2 vC)=[vB (.ref G.length),vB h.enc,vB (stD h.n lv co),vB (.int at_),vB (.tup (tab h.n fl)),vC,vC]:=rfl;rw[hd];simp only[ZMQ,q0,ZLG,q1,q2,q3,q4,q5,q6,q7,hfin,ZJV]
 exact htd
section
variable{h:Hs}{yt:Int}{lv:Nat->Int}
theorem ZGO(g:GoodH h):∀(m k:Nat),h.n<=m+k->h.last k=k∨(h.pl (h.last k)).kd.isB=vE
 |0,k,e=>.inl (Jx g (Nk (by lia)))
 | m + 1,k,e=>by
  cases hd:h.dir k with
  |none=>exact .inl (Jx g hd)
  | some d=>
   have hl:=Lw g hd;rw[Ng g hd];rcases ZGO g m d (by lia)with z|z
   ·refine .inr ?_;rw[z];unfold Hs.dir at hd;cases h1:h.dn k with
    |none=>rw[h1]at hd;cases hd
    | some d'=>
     rw[h1]at hd;simp only at hd;split at hd
     ·cases hd
     ·rename_i hn;cases hd;cases e2:(h.pl d).kd.isB with
      |false=>rfl
      |true=>exact absurd (.inr (.inr e2)) hn
   ·exact .inr z
theorem ZE5(g:GoodH h):∀(m k:Nat),h.n<=m+k->h.last (h.last k)=h.last k
 |0,k,e=>by have h1:=Jx g (h:=h) (k:=k) (Nk (by lia));rw[h1,h1]
 | m+1,k,e=>by
  cases hd:h.dir k with
  |none=>rw[Jx g hd,Jx g hd]
  |some d=>
   have hl:=Lw g hd;rw[Ng g hd];exact ZE5 g m d (by lia)
def Hs.done(h:Hs)(j k:Nat):Prop:=if(h.pl k).kd.isB=vD then k<j else h.last k<j
theorem ZIO(g:GoodH h)(hk:k<h.n)(hf:∀i,i<h.n->h.done k i->(s.page i).length=6):∀i,i<h.n->h.done (k+1) i->((h.step yt lv s k).page i).length=6:=λi hi hd=>by
 unfold Hs.step;split
 ·rename_i hB;by_cases e:i=k
  ·subst e;exact(ZDb hB).1
  ·rw[(ZDb hB).2 i e];refine hf i hi ?_;unfold Hs.done at hd⊢;by_cases hiB:(h.pl i).kd.isB=vD
   ·rw[if_pos hiB]at hd⊢;lia
   ·rw[if_neg hiB]at hd⊢;rcases jS (h.last i) k with z|z
    ·exact z
    ·have e2:h.last i=k:=by lia
     rcases ZGO g h.n i (by lia)with z2|z2
     ·rw[z2]at e2;exact absurd e2 e
     ·rw[e2,hB]at z2;cases z2
 ·rename_i hB;split
  ·rename_i hl;rw[ZMU];split
   ·rfl
   ·rename_i hm;refine hf i hi ?_;unfold Hs.done at hd⊢;by_cases hiB:(h.pl i).kd.isB=vD
    ·rw[if_pos hiB]at hd⊢;rcases jS i k with z|z
     ·exact z
     ·have e2:i=k:=by lia
      rw[e2]at hiB;exact absurd hiB hB
    ·rw[if_neg hiB]at hd⊢;rcases jS (h.last i) k with z|z
     ·exact z
     ·exact absurd (mem_iff.mpr ⟨hi,by lia⟩) hm
  ·rename_i hl;refine hf i hi ?_;unfold Hs.done at hd⊢;by_cases hiB:(h.pl i).kd.isB=vD
   ·rw[if_pos hiB]at hd⊢;rcases jS i k with z|z
    ·exact z
    ·have e2:i=k:=by lia
     rw[e2]at hiB;exact absurd hiB hB
   ·rw[if_neg hiB]at hd⊢;rcases jS (h.last i) k with z|z
    ·exact z
    ·have e2:h.last i=k:=by lia
     have:=ZE5 g h.n i (by lia);rw[e2]at this;exact absurd this hl
theorem ZC4(g:GoodH h):∀(m k:Nat)(s:Cs),k+m=h.n->(∀i,i<h.n->h.done k i->(s.page i).length=6)->∀i,i<h.n->((h.goF yt lv m k s).page i).length=6
 | 0,k,s,e,hf,i,hi=>hf i hi (by
   unfold Hs.done;split
   ·lia
   ·have:=(ZCm g i).2 hi;lia)
 |m+1,k,s,e,hf,i,hi=>ZC4 g m (k+1) _ (by lia) (ZIO g (by lia) hf) i hi
theorem ZDV(g:GoodH h):∀(m k:Nat)(s:Cs),k+m=h.n->s.NN h.n->(h.goF yt lv m k s).NN h.n
 |0,k,s,e,hs=>hs
 |m+1,k,s,e,hs=>ZDV g m (k+1) _ (by lia) (ZCs g (by lia) hs)
end
noncomputable def lies(pg:Nat->List Int):Nat->Int:=λk=>(pg k).getD 5 0
theorem row6(h:l.length=6):∃a b c d e f,l=[a,b,c,d,e,f]:=by
 match l,h with
 |[a,b,c,d,e,f],_=>exact⟨a,b,c,d,e,f,rfl⟩
section
variable{G:DH}{h:Hs}{LV:D}{yt:Int}{s:Cs}
theorem ZLY(hf:∀k,k<h.n->(s.page k).length=6):Dt (G.length+(3+h.n)) (gV 0) Ci Tg (Bb 1 [] S) h.n 0 (csH G h.n h.enc LV yt s)=.ok (tab h.n (lies s.page)) (csH G h.n h.enc LV yt s):=by
 have hx:=ZFP (i:=G.length+(3+h.n)) (g:=gV 0) (c:=Ci) (te:=Tg) (S:=Bb 1 [] S) (G:=csH G h.n h.enc LV yt s) (F:=λd=>match d with | .tup [_,_,_,_,_,x]=>vB x|_=>vC) Je (λx hx=>by obtain⟨k,hk,rfl⟩:=zF.mp hx;obtain⟨a,b,c,d,e,f,el⟩:=row6 (hf k (qY.mp hk));rw[el];refine⟨[vB (Jm [a,b,c,d,e,f])],by simp[Bb],.inr ⟨rfl,.int f,?_,rfl⟩⟩;unfold Tg;simp[Jm])
 rw[ZL2]at hx;rw[hx]
 congr 1
 unfold Cd;rw[qq];unfold tab;rw[<-qC];refine V0 λk hk=>?_
 obtain⟨a,b,c,d,e,f,el⟩:=row6 (hf k (qY.mp hk));simp[Function.comp,el,Jm,lies]
theorem ZN0:Dt (G.length+(2+h.n)) (gV 0) Ci Tr (Bb 1 [] S) h.n 0 (csH G h.n h.enc LV yt s)=.ok (Cw h.n s.coming) (csH G h.n h.enc LV yt s):=by
 have hlen:(Ck G.length h.n).length=h.n:=by simp[Ck]
 have hx:=ZFP (i:=G.length+(2+h.n)) (g:=gV 0) (c:=Ci) (te:=Tr) (S:=Bb 1 [] S) (G:=csH G h.n h.enc LV yt s) (F:=λd=>match d with | .ref j=>vB (.tup (tab 5 (s.coming (j-(G.length+2)))))|_=>vC) Uz (λx hx=>by
  obtain⟨k,hk,rfl⟩:=zF.mp hx;refine⟨[vB (.ref (G.length+(2+k)))],by simp[Bb],.inr ⟨rfl,.tup (tab 5 (s.coming k)),?_,?_⟩⟩
  ·unfold Tr;simp[ZBS (qY.mp hk)]
  ·have e:G.length+(2+k)-(G.length+2)=k:=by lia
   simp only[e])
 rw[hlen]at hx;rw[hx]
 congr 1
 unfold Ck;rw[qq];unfold Cw;rw[<-qC];refine V0 λk hk=>?_
 have e:G.length+(2+k)-(G.length+2)=k:=by lia
 simp only[Function.comp,e]
theorem ZNi(g:GoodH h)(hf:∀k,k<h.n->(s.page k).length=6):Ti [.ref G.length] (csH G h.n h.enc LV yt s)=.ok (stD h.n (lies s.page) s.coming) (csH G h.n h.enc LV yt s):=by
 have hn:=g.len;have hnl:h.n<=1000000:=by lia
 have hl2:(Ck G.length h.n).length=h.n:=by simp[Ck]
 have hb:bel (csH G h.n h.enc LV yt s).length (stD h.n (lies s.page) s.coming)=vD:=by simp[stD]
 unfold Ti ZCb;rw[Bh];unfold stD at hb⊢;have i1:Ff (.ref (G.length+(3+h.n))) (csH G h.n h.enc LV yt s)=.ok (.mt (G.length+(3+h.n))) (csH G h.n h.enc LV yt s):=by simp[Ff,Je]
 have i2:Ff (.ref (G.length+(2+h.n))) (csH G h.n h.enc LV yt s)=.ok (.mt (G.length+(2+h.n))) (csH G h.n h.enc LV yt s):=by simp[Ff,Uz]
 simp[i1,i2,O6,Je,ZLY hf,Aw,hnl,Rn,Bj,ZEy,Uz,hl2,ZN0,Ce]
def Hs.cs(h:Hs)(lv:Nat->Int)(co:Nat->Nat->Int)(at_:Int)(fl:Nat->Int):Cs:=h.goF (at_%h.yr) lv h.n 0 (cs0 co fl)
theorem ZCP{n:Nat}(hc:∀k j,k<n->j<5->0<=co k j)(hf:∀k,k<n->0<=fl k):(cs0 co fl).NN n:=by
 refine⟨λk hk=>?_,λk j hk hj=>?_⟩
 ·have:=hc k 0 hk (by lia);have:=hf k hk;show 0<=fl k+co k 0;lia
 ·show 0<=if j<4 then co k (j+1)else 0
  split
  ·exact hc k (j+1) hk (by lia)
  ·exact qE _
theorem ZMs(g:GoodH h):∀k,k<h.n->((h.cs lv co at_ fl).page k).length=6:=ZC4 g h.n 0 _ (by lia) λi hi hd=>by
 unfold Hs.done at hd
 split at hd<;>lia
theorem ZIC(g:GoodH h)(hc:∀k j,k<h.n->j<5->0<=co k j)(hf:∀k,k<h.n->0<=fl k)(G:DH):
  Rx [h.enc,stD h.n lv co,.int at_,.tup (tab h.n fl)] G=.ok (.tup [.tup (Cd h.n (h.cs lv co at_ fl).page),stD h.n (lies (h.cs lv co at_ fl).page) (h.cs lv co at_ fl).coming]) G:=by
 have hgo:=ZLq (G:=G) (lv:=lv) (yt:=at_%h.yr) g (ZCP (fl:=fl) hc hf) rfl;have hst:=ZNi (G:=G) (LV:=.tup (tab h.n lv)) (yt:=at_%h.yr) g (ZMs g (lv:=lv) (fl:=fl) (co:=co) (at_:=at_));have hmk:ZAE Oe "Course" [h.enc,stD h.n lv co,.int at_,.tup (tab h.n fl)] G=.ok (.ref G.length) (csH G h.n h.enc (.tup (tab h.n lv)) (at_%h.yr) (cs0 co fl)):=by
  unfold ZAE;rw[ZLI g]
  rfl
 have egs:h.goF (at_%h.yr) lv h.n 0 (cs0 co fl)=h.cs lv co at_ fl:=rfl;rw[egs]at hgo;have hcH:∀s,csH G h.n h.enc (.tup (tab h.n lv)) (at_%h.yr) s=G++csT G.length h.n h.enc (.tup (tab h.n lv)) (at_%h.yr) s:=λ_=>rfl
 have hbl:bel G.length (.tup [.tup (Cd h.n (h.cs lv co at_ fl).page),stD h.n (lies (h.cs lv co at_ fl).page) (h.cs lv co at_ fl).coming])=vD:=by simp[stD]
 unfold Rx ZDz;rw[Bh];simp[hmk,J1 ZKb,hgo,O6,Je,J1 ZJU,hst,Bj];rw[hcH];exact W2 hbl
end
def Iw(n:Nat)(fls:List (Nat->Int)):List D:=fls.map λfl=>.tup (tab n fl)
noncomputable abbrev St2:=(Nat->Int)×(Nat->Nat->Int)
def Hs.nxt(h:Hs)(s:St2)(a:Int)(fl:Nat->Int):St2:=(lies (h.cs s.1 s.2 a fl).page,(h.cs s.1 s.2 a fl).coming)
def Hs.I9(h:Hs):List (Nat->Int)->St2->Int->St2
 |[],s,_=>s
 |fl::r,s,a=>h.I9 r (h.nxt s a fl) (a+1)
def Hs.J7(h:Hs):List (Nat->Int)->St2->Int->List (Nat->List Int)
 |[],_,_=>[]
 |fl::r,s,a=>(h.cs s.1 s.2 a fl).page::h.J7 r (h.nxt s a fl) (a+1)
def pgD(n:Nat)(pg:Nat->List Int):D:=.tup (Cd n pg)
@[simp]theorem ZJB{n:Nat}:bel m (pgD n pg)=vD:=by simp[pgD]
@[simp]theorem ZH6{n:Nat}:bel m (stD n lv co)=vD:=by simp[stD]
theorem ZNI(g:GoodH h)(hc:∀k j,k<h.n->j<5->0<=co k j)(hf:∀k,k<h.n->0<=fl k):(h.cs lv co a fl).NN h.n:=ZDV g h.n 0 _ (by lia) (ZCP hc hf)
noncomputable def enS:Int->List D->List D
 |_,[]=>[]
 |a,x::r=>.tup [.int a,x]::enS (a+1) r
theorem ZF0:∀(xs:List D)(a:Int)(j:Nat),(enS a xs)[j]?=xs[j]?.map λx=>.tup [.int (a+j),x]
 |[],a,j=>by simp[enS]
 |x::r,a,0=>by simp[enS]
 |x::r,a,j+1=>by
  show(enS (a+1) r)[j]?=r[j]?.map _;rw[ZF0 r (a+1) j];have e:a+1+(j:Int)=a+((j+1:Nat):Int):=by lia
  rw[e]
theorem ZFU:∀(xs:List D)(a:Int),(enS a xs).length=xs.length
 |[],a=>rfl
 |x::r,a=>by show(enS (a+1) r).length+1=r.length+1;rw[ZFU]
theorem ZMq{b:DS}:Cq (Dh a (.fl xs)) g b xs.length 0 S G=Bm g b (enS a xs) S G:=Qv (λj G=>by show vB (xs[j]?.map _)=_;rw[ZF0]) (ZFU xs a).symm
theorem ZD4(g:GoodH h){s2 s3:Option D}{G:DH}:∀(fls:List (Nat->Int))(s:St2)(a:Int)(acc:List D)(x5 x6 x7:Option D),acc.length+fls.length<=1000->(∀k j,k<h.n->j<5->0<=s.2 k j)->(∀fl∈fls,∀k,k<h.n->0<=fl k)->∃y5 y6 y7,
  Bm (Bd 2 (Al (gV 5) (Al (gV 6) Bf))) Py (enS a (Iw h.n fls)) [vB h.enc,vB (stD h.n s.1 s.2),s2,s3,vB (.ref G.length),x5,x6,x7] (G++[.lst acc])=
   .nx [vB h.enc,vB (stD h.n (h.I9 fls s a).1 (h.I9 fls s a).2),s2,s3,vB (.ref G.length),y5,y6,y7] (G++[.lst (acc++(h.J7 fls s a).map (pgD h.n))])
 |[],s,a,acc,x5,x6,x7,_,_,_=>⟨x5,x6,x7,by show Bm _ _ [] _ _=_;rw[Hy];simp[Hs.I9,Hs.J7]⟩
 |fl::r,s,a,acc,x5,x6,x7,hl,hc,hf=>by
  have hf1:=hf fl (by simp);have nn:=ZNI g (lv:=s.1) (fl:=fl) (co:=s.2) (a:=a) hc hf1;simp only[qZ]at hl;obtain⟨y5,y6,y7,ih⟩:=ZD4 g (s2:=s2) (s3:=s3) (G:=G) r (h.nxt s a fl) (a+1) (acc++[pgD h.n (h.cs s.1 s.2 a fl).page]) (vB (.int a)) (vB (.tup (tab h.n fl))) (vB (pgD h.n (h.cs s.1 s.2 a fl).page)) (by simp;lia) nn.2 (λf' hf'=>hf f' (zJ _ hf'));refine⟨y5,y6,y7,?_⟩
  have ct:=ZIC g (lv:=s.1) (fl:=fl) (co:=s.2) (at_:=a) hc hf1;have hal:acc.length<1000000:=by lia
  have hb:Py [vB h.enc,vB (stD h.n s.1 s.2),s2,s3,vB (.ref G.length),vB (.int a),vB (.tup (tab h.n fl)),x7] (G++[.lst acc])=.nx [vB h.enc,vB (stD h.n (h.nxt s a fl).1 (h.nxt s a fl).2),s2,s3,vB (.ref G.length),vB (.int a),vB (.tup (tab h.n fl)),vB (pgD h.n (h.cs s.1 s.2 a fl).page)] (G++[.lst (acc++[pgD h.n (h.cs s.1 s.2 a fl).page])]):=by unfold Py;simp[ct,Cj,Ek,hal,pgD,Hs.nxt]
  show Bm _ _ (.tup [.int a,.tup (tab h.n fl)]::enS (a+1) (Iw h.n r)) _ _=_;rw[Et];simp only[Q3,Pg,Oc,Ea,R.Hr,R.Dk,qS,hb,Eb,qZ,jv,Nat.reduceAdd,if_true];rw[ih];simp[Hs.I9,Hs.J7]
theorem Y4{G':DH}(h:bels G.length ds=vE):tidy G (.ok (.tup ds) G')=.ok (.tup ds) G':=by unfold tidy;simp[h]
theorem ZKE(g:GoodH h){s:St2}{fls:List (Nat->Int)}(hl:fls.length<=1000)(hc:∀k j,k<h.n->j<5->0<=s.2 k j)(hf:∀fl∈fls,∀k,k<h.n->0<=fl k)(G:DH):
  O5 [h.enc,stD h.n s.1 s.2,.int a,.fl (Iw h.n fls)] G=.ok (.tup [.ref G.length,stD h.n (h.I9 fls s a).1 (h.I9 fls s a).2]) (G++[.lst ((h.J7 fls s a).map (pgD h.n))]):=by
 obtain⟨y5,y6,y7,hL⟩:=ZD4 g (s2:=vB (.int a)) (s3:=vB (.fl (Iw h.n fls))) (G:=G) fls s a [] vC vC vC (by simp;lia) hc hf;have hL':Cq (Dh a (.fl (Iw h.n fls))) (Bd 2 (Al (gV 5) (Al (gV 6) Bf))) Py (Iw h.n fls).length 0 [vB h.enc,vB (stD h.n s.1 s.2),vB (.int a),vB (.fl (Iw h.n fls)),vB (.ref G.length),vC,vC,vC] (G++[.lst []])=
   .nx [vB h.enc,vB (stD h.n (h.I9 fls s a).1 (h.I9 fls s a).2),vB (.int a),vB (.fl (Iw h.n fls)),vB (.ref G.length),y5,y6,y7] (G++[.lst ((h.J7 fls s a).map (pgD h.n))]):=by
  rw[ZMq];exact hL
 have tt:∀e:D,tidy G (.ok (.tup [.ref G.length,e]) (G++[.lst ((h.J7 fls s a).map (pgD h.n))]))=.ok (.tup [.ref G.length,e]) (G++[.lst ((h.J7 fls s a).map (pgD h.n))]):=λe=>Y4 (by simp)
 unfold O5 ZFC;rw[Bh];simp[Aw,Fi,ZA5,hL',Bj,tt]
structure Rnd (h:Hs) (to d:Nat->Nat) (c:Nat->Int):Prop where
 dn:∀k,k<h.n->(h.pl k).dn=vC
 kd:∀k,k<h.n->(h.pl k).kd=.basin 0 [(0,[⟨0,c k,vE⟩])] (vB (to k,d k,c k))
 d1:∀k,k<h.n->1<=d k/\d k<=5
 c1:∀k,k<h.n->1<=c k
 inv:∀k,k<h.n->to k<h.n/\to (to k)=k
section
variable{h:Hs}{to d:Nat->Nat}{c:Nat->Int}
theorem ZMj(R:Rnd h to d c)(hk:k<h.n)(hl:lv k=0)(hs:0<=s.came k/\s.came k<=c k):
  h.step 0 lv s k={s with page:=λi=>if i=k then[s.came k,0,0,0,s.came k,0]else s.page i,coming:=upd2 s.coming (to k) (fset (s.coming (to k)) (d k-1) (s.coming (to k) (d k-1)+s.came k))}:=by
 have e:=R.kd k hk;have hB:(h.pl k).kd.isB=vD:=by rw[e];rfl
 have hd:=(R.d1 k hk).1;have hdn:h.dn k=vC:=R.dn k hk;have h0:held 0 [((0:Int),[(⟨0,c k,vE⟩:Stp)])] []=[⟨0,c k,vE⟩]:=rfl;have hr:rv (lv k+s.came k) [(⟨0,c k,vE⟩:Stp)]=0:=by simp[rv]
 have hp:pm (lv k+s.came k) [(⟨0,c k,vE⟩:Stp)]=s.came k:=by simp only[pm,cub,hl];simp;lia
 unfold Hs.step;rw[if_pos hB];unfold Hs.basin;rw[e];simp only[h0,hr,hp];unfold Hs.Fb;rw[hdn];simp only;unfold Cs.send;rw[if_neg (by lia)];have e1:lv k+s.came k-0-s.came k=0:=by lia
 have e2:min (0:Int) 0=0:=by decide
 simp only[e1,e2,Int.sub_self]
theorem ZEh(R:Rnd h to d c)(hl:∀k,k<h.n->lv k=0):∀(m k:Nat)(s:Cs),k+m=h.n->(∀i,i<h.n->0<=s.came i/\s.came i<=c i)->
  (∀i j,i<h.n->(h.goF 0 lv m k s).coming i j=s.coming i j+if k<=to i/\d (to i)=j+1 then s.came (to i)else 0)/\(∀i,k<=i->i<h.n->(h.goF 0 lv m k s).page i=[s.came i,0,0,0,s.came i,0])/\∀i,i<k->(h.goF 0 lv m k s).page i=s.page i
 |0,k,s,e,hs=>by refine⟨λi j hi=>?_,λi h1 h2=>by lia,λi _=>rfl⟩;have:=(R.inv i hi).1;rw[if_neg (by lia)];show s.coming i j=s.coming i j+0;lia
 | m+1,k,s,e,hs=>by
  have hk:k<h.n:=by lia
  have hst:=ZMj R hk (hl k hk) (hs k hk);have hd:=(R.d1 k hk).1;obtain⟨i1,i2,i3⟩:=ZEh R hl m (k+1) (h.step 0 lv s k) (by lia) (by rw[hst];exact hs);have eg:h.goF 0 lv (m+1) k s=h.goF 0 lv m (k+1) (h.step 0 lv s k):=rfl;rw[eg];refine⟨λi j hi=>?_,λi h1 h2=>?_,λi h1=>?_⟩
  ·rw[i1 i j hi,hst];simp only;by_cases z:i=to k
   ·subst z;have e2:to (to k)=k:=(R.inv k hk).2;rw[e2,if_neg (by lia)];unfold upd2;rw[if_pos rfl];unfold fset;by_cases zj:j=d k-1
    ·rw[if_pos zj,if_pos ⟨by lia,by lia⟩,zj];lia
    ·rw[if_neg zj,if_neg (by lia)]
   ·have z2:to i≠k:=λq=>z (by rw[<-q];exact((R.inv i hi).2).symm)
    unfold upd2;rw[if_neg z];by_cases q:k<=to i/\d (to i)=j+1
    ·rw[if_pos q,if_pos ⟨by lia,q.2⟩]
    ·rw[if_neg q,if_neg (by lia)]
  ·by_cases z:i=k
   ·subst z;rw[i3 i (by lia),hst];simp
   ·rw[i2 i (by lia) h2,hst]
  ·rw[i3 i (by lia),hst];simp only;rw[if_neg (by lia)]
def Bw(to d p e:Nat->Nat)(c:Nat->Int)(w i j:Nat):Int:=if j<d (to i)/\(w+j)%p i=e i then c i else 0
structure Per (n:Nat) (to d p e:Nat->Nat) (c:Nat->Int):Prop where
 sw:∀i w,i<n->((w+d (to i))%p i=e i↔w%p i=e (to i))
 p:∀i,i<n->p (to i)=p i
 c:∀i,i<n->c (to i)=c i
theorem ZEl(R:Rnd h to d c){p:Nat->Nat}(hi:i<h.n):0<=Bw to d p e c w i j/\Bw to d p e c w i j<=c i:=by
 have:=R.c1 i hi;unfold Bw
 split <;> lia
theorem ZNV(R:Rnd h to d c){p:Nat->Nat}(P:Per h.n to d p e c)(hi:i<h.n)(hj:j<5):
  Hz (Bw to d p e c w) i j+(if d (to i)=j+1 then Bw to d p e c w (to i) 0 else 0)=Bw to d p e c (w+1) i j:=by
 have h1:=R.d1 (to i) (R.inv i hi).1;have h0:=R.d1 i hi;have e2:to (to i)=i:=(R.inv i hi).2;have sw:=P.sw i w hi;have ew:w+(j+1)=w+1+j:=by lia
 unfold Hz Bw;rw[e2,P.p i hi,P.c i hi,ew,Nat.add_zero];by_cases hd:d (to i)=j+1
 ·have e3:(w+1+j)%p i=(w+d (to i))%p i:=by rw[hd];congr 1;lia
  rw[if_pos hd,e3];generalize(w+d (to i))%p i=u at*;generalize w%p i=v at*
  repeat' split
  all_goals lia
 ·rw[if_neg hd];generalize(w+1+j)%p i=u at*
  repeat' split
  all_goals lia
end
theorem ZIJ{to d:Nat->Nat}{c:Nat->Int}(g:GoodH h)(R:Rnd h to d c)(hy:h.yr=1){p:Nat->Nat}(P:Per h.n to d p e c)(w:Nat)(G:DH):
  ∃pg:D,(∀m,bel m pg=vD)/\O5 [h.enc,stD h.n (λ_=>0) (Bw to d p e c w),.int 0,.fl [.tup (tab h.n λ_=>0)]] G=.ok (.tup [.ref G.length,stD h.n (λ_=>0) (Bw to d p e c (w+1))]) (G++[.lst [pg]]):=by
 have h1:=ZKE g (s:=((λ_=>0),Bw to d p e c w)) (a:=0) (fls:=[λ_=>0]) (by simp) (λk j hk hj=>(ZEl R hk).1) (λfl hf k hk=>by rw[qz]at hf;subst hf;exact qE 0) G
 obtain⟨g1,g2,_⟩:=ZEh R (lv:=λ_=>0) (λ_ _=>rfl) h.n 0 (cs0 (Bw to d p e c w) λ_=>0) (by lia) (λi hi=>by show 0<=0+Bw to d p e c w i 0/\0+Bw to d p e c w i 0<=c i;have:=ZEl R (p:=p) (e:=e) (w:=w) (j:=0) hi;lia)
 have hcs:h.cs (λ_=>0) (Bw to d p e c w) 0 (λ_=>0)=h.goF 0 (λ_=>0) h.n 0 (cs0 (Bw to d p e c w) λ_=>0):=by
  unfold Hs.cs;rw[hy]
  rfl
 have e1:h.I9 [λ_=>0] ((λ_=>0),Bw to d p e c w) 0=h.nxt ((λ_=>0),Bw to d p e c w) 0 (λ_=>0):=rfl;have e2:h.J7 [λ_=>0] ((λ_=>0),Bw to d p e c w) 0=[(h.cs (λ_=>0) (Bw to d p e c w) 0 (λ_=>0)).page]:=rfl;have e3:Iw h.n [λ_=>0]=[.tup (tab h.n λ_=>0)]:=rfl;have e4:stD h.n (h.nxt ((λ_=>0),Bw to d p e c w) 0 λ_=>0).1 (h.nxt ((λ_=>0),Bw to d p e c w) 0 λ_=>0).2=stD h.n (λ_=>0) (Bw to d p e c (w+1)):=by
  unfold Hs.nxt;simp only[hcs];unfold stD Cw;have a1:tab h.n (lies (h.goF 0 (λ_=>0) h.n 0 (cs0 (Bw to d p e c w) λ_=>0)).page)=tab h.n λ_=>0:=Ho λi hi=>by
   unfold lies;rw[g2 i (by lia) hi]
   rfl
  rw[a1]
  congr 3
  refine congrArg D.tup (qQ λi hi=>congrArg D.tup (Ho λj hj=>?_));have hi':=qY.mp hi;rw[g1 i j hi',<-ZNV R P hi' hj];show Hz (Bw to d p e c w) i j+(if 0<=to i/\d (to i)=j+1 then 0+Bw to d p e c w (to i) 0 else 0)=_;rw[Int.zero_add];simp only[j6,true_and]
 rw[e1,e2,e3,e4]at h1;exact⟨pgD h.n (h.cs (λ_=>0) (Bw to d p e c w) 0 (λ_=>0)).page,λm=>ZJB,h1⟩
theorem ZE3{G:DH}{d:D}(hd:okD 30 d=vD):∀xs:List D,(∀x∈xs,okD 30 x=vD)->∃ks:List Bool,Ku G d xs=vB ks/\(ks.any id=vD↔d∈xs)
 |[],_=>⟨[],rfl,by simp⟩
 |x::xs,h=>by
  obtain⟨ks,h1,h2⟩:=ZE3 (G:=G) hd xs λy hy=>h y (zJ _ hy)
  obtain⟨b,h3,h4⟩:=Yi (G:=G) 30 x d (h x (by simp)) hd;refine⟨b::ks,by unfold Ku;rw[h3,h1],?_⟩;rw[List.any_cons,j8,h2,zw];exact⟨λz=>z.elim (λz=>.inl (h4.mp z).symm) .inr,λz=>z.elim (λz=>.inl (h4.mpr z.symm)) .inr⟩
theorem ZM4{d:D}(hd:okD 30 d=vD)(h:∀x∈xs,okD 30 x=vD){b:Bool}(hb:d∈xs↔b=vE):N7 d (.fl xs) G=.ok (.bl b) G:=by
 obtain⟨ks,h1,h2⟩:=ZE3 (G:=G) hd xs h;unfold N7 inE;have e:Bk (.fl xs) G=vB xs:=rfl;rw[e];simp only[h1,jR];cases hk:ks.any id with
 |true=>
  have:=hb.mp (h2.mp hk);subst this
  rfl
 |false=>
  cases b with
  |true=>rfl
  |false=>rw[h2.mpr (hb.mpr rfl)]at hk;cases hk
theorem ZNm{xs:List α}{x:α}:cutD (xs++[x]) vC (vB (-1))=xs:=by
 have e:HT.sIx (xs++[x]).length (xs++[x]).length (vB (-1))=xs.length:=by
  simp[HT.sIx]
  try lia
 unfold cutD;rw[e];simp[HT.sIx]
theorem ZCH{x:D}:atI (xs++[x]) (-1)=vB x:=by
 rw[ZDv (by decide) (by simp;lia)];have e3:((-1:Int)+((xs++[x]).length:Int)).toNat=xs.length:=by simp;lia
 simp only[e3];simp
section
variable{H FL:D}{SW:Nat->D}
def Yr(H FL:D)(SW:Nat->D):Prop:=∀(w:Nat)(G:DH),∃pg:D,(∀m,bel m pg=vD)/\O5 [H,SW w,.int 0,FL] G=.ok (.tup [.ref G.length,SW (w+1)]) (G++[.lst [pg]])
noncomputable def sts(SW:Nat->D)(w:Nat):List D:=(zk w).map SW
theorem S7:sts SW (w+1)=sts SW w++[SW w]:=by simp[sts,List.range_succ]
theorem Vc:(sts SW w).length=w:=by simp[sts]
theorem Rp(hb:∀w m,bel m (SW w)=vD):bels m (sts SW w)=vD:=G8 λ_ _=>hb _ _
theorem ZBg(ho:∀w,okD 30 (SW w)=vD)(hb:∀w m,bel m (SW w)=vD){b:Bool}(h:SW w∈sts SW w↔b=vE){s3:Option D}{P:List D}:
  Qe [s0,s1,s2,s3,vB (.ref G.length),s5,s6,s7] (G++ .lst (sts SW (w+1)):: .lst P::L)=.ok b (G++ .lst (sts SW (w+1)):: .lst P::L):=by
 have ha:atI (sts SW (w+1)) (-1)=vB (SW w):=by rw[S7];exact ZCH
 have hc:cutD (sts SW (w+1)) vC (vB (-1))=sts SW w:=by rw[S7];exact ZNm
 have hn:∀G,N7 (SW w) (.fl (sts SW w)) G=.ok (.bl b) G:=λG=>ZM4 (ho w) (λx hx=>by obtain⟨i,_,rfl⟩:=zF.mp hx;exact ho i) h
 generalize hG:G++DO.lst (sts SW (w+1)):: .lst P::L=G1;have g0:G1[G.length]?=vB (.lst (sts SW (w+1))):=by rw[<-hG,Cj];rfl
 have hs:Qu (.ref G.length) vC (vB (-1)) G1=.ok (.ref G1.length) (G1++[.lst (sts SW w)]):=by unfold Qu;simp only[G9,g0,hc]
 have fz:freeze G1 (.ok (.ref G1.length) (G1++[.lst (sts SW w)]))=.ok (.fl (sts SW w)) G1:=H8 (Rp hb);unfold Qe;simp[g0,ha,hs,fz,hn,Lj,Ib]
theorem ZCp(hy:Yr H FL SW)(hb:∀w m,bel m (SW w)=vD)(hm:(w:Int)+1<=most)(hw:w<=1000){P:List D}(hP:P.length<=1000):
  ∃(pg:D)(y6 y7:Option D),(∀m,bel m pg=vD)/\Lg [vB H,s1,vB FL,vB (.int most),vB (.ref G.length),vB (.ref (G.length+1)),s6,s7] (G++ .lst (sts SW (w+1)):: .lst P::L)=
   .nx [vB H,s1,vB FL,vB (.int most),vB (.ref G.length),vB (.ref (G.length+1)),y6,y7] (G++ .lst (sts SW (w+2)):: .lst (P++[pg])::(L++[.lst [pg]])):=by
 have ha:atI (sts SW (w+1)) (-1)=vB (SW w):=by rw[S7];exact ZCH
 obtain⟨pg,p1,p2⟩:=hy w (G++DO.lst (sts SW (w+1)):: .lst P::L);refine⟨pg,vB (.ref (G++DO.lst (sts SW (w+1)):: .lst P::L).length),vB (SW (w+1)),p1,?_⟩;have g0:(G++DO.lst (sts SW (w+1)):: .lst P::L)[G.length]?=vB (.lst (sts SW (w+1))):=by rw[Cj];rfl
 have ng:¬((((sts SW (w+1)).length:Nat):Int)>most):=by rw[Vc];lia
 have td:tidy (G++DO.lst (sts SW (w+1)):: .lst P::L) (.ok (.tup [.ref (G++DO.lst (sts SW (w+1)):: .lst P::L).length,SW (w+1)]) ((G++DO.lst (sts SW (w+1)):: .lst P::L)++[DO.lst [pg]]))=.ok (.tup [.ref (G++DO.lst (sts SW (w+1)):: .lst P::L).length,SW (w+1)]) ((G++DO.lst (sts SW (w+1)):: .lst P::L)++[DO.lst [pg]]):=Y4 (by simp);have k1:((G++DO.lst (sts SW (w+1)):: .lst P::L)++[DO.lst [pg]])[G.length+1]?=vB (.lst P):=by
  rw[qI,Hl]
  rfl
 have k2:((G++DO.lst (sts SW (w+1)):: .lst P::L)++[DO.lst [pg]])[(G++DO.lst (sts SW (w+1)):: .lst P::L).length]?=vB (.lst [pg]):=by simp
 have s1':∀o,((G++DO.lst (sts SW (w+1)):: .lst P::L)++[DO.lst [pg]]).set (G.length+1) o=G++ .lst (sts SW (w+1))::o::(L++[.lst [pg]]):=λo=>by
  rw[qI,Ox]
  rfl
 have ex:Ra (.ref (G.length+1)) [.ref (G++DO.lst (sts SW (w+1)):: .lst P::L).length] ((G++DO.lst (sts SW (w+1)):: .lst P::L)++[DO.lst [pg]])=.ok .non (G++ .lst (sts SW (w+1)):: .lst (P++[pg])::(L++[.lst [pg]])):=by unfold Ra;simp only[k1,k2];rw[if_pos (by simp;lia),s1']
 have g3:(G++DO.lst (sts SW (w+1)):: .lst (P++[pg])::(L++[DO.lst [pg]]))[G.length]?=vB (.lst (sts SW (w+1))):=by rw[Cj];rfl
 have s3:∀o,(G++DO.lst (sts SW (w+1)):: .lst (P++[pg])::(L++[DO.lst [pg]])).set G.length o=G++o:: .lst (P++[pg])::(L++[.lst [pg]]):=λo=>by rw[Ek];rfl
 have ll:(sts SW (w+1)).length<1000000:=by rw[Vc];lia
 have es:sts SW (w+2)=sts SW (w+1)++[SW (w+1)]:=S7;rw[es];generalize(G++DO.lst (sts SW (w+1)):: .lst P::L)=G1 at*;generalize G++DO.lst (sts SW (w+1)):: .lst (P++[pg])::(L++[DO.lst [pg]])=G2 at*;generalize sts SW (w+1)=ss at*;unfold Lg;simp[g0,ng,ha,p2,td,k1,ex,g3,s3,ll,Ib]
end
section
variable{H FL:D}{SW:Nat->D}
theorem ZMZ(hw:w<100){P:List D}:
  Lg [s0,s1,s2,vB (.int w),vB (.ref G.length),s5,s6,s7] (G++ .lst (sts SW (w+1)):: .lst P::L)=.err ⟨"TooLong",[("most",.int w)]⟩ (G++ .lst (sts SW (w+1)):: .lst P::L):=by
 generalize hG:G++DO.lst (sts SW (w+1)):: .lst P::L=G1;have g0:G1[G.length]?=vB (.lst (sts SW (w+1))):=by rw[<-hG,Cj];rfl
 have ng:(w:Int)<(((sts SW (w+1)).length:Nat):Int):=by rw[Vc];lia
 have hb:(0:Int)<=(w:Int)/\(w:Int)<100:=by lia
 generalize sts SW (w+1)=ss at*;unfold Lg;simp[g0,ng,sRz,hb]
theorem ZD7(hy:Yr H FL SW)(ho:∀w,okD 30 (SW w)=vD)(hb:∀w m,bel m (SW w)=vD)(hY:Y<=900)(hnew:∀w,w<Y->SW w∉sts SW w)(hag:SW Y∈sts SW Y){most:Int}(hm:(Y:Int)<=most){s1:Option D}{G:DH}:
  ∀(n w:Nat) (L:DH) (P:List D) (s6 s7:Option D),w<=Y->Y<w+n->P.length=w->(∀m,bels m P=vD)->∃(P':List D)(L':DH)(y6 y7:Option D),(∀m,bels m P'=vD)/\
   sWh Qe Lg n [vB H,s1,vB FL,vB (.int most),vB (.ref G.length),vB (.ref (G.length+1)),s6,s7] (G++ .lst (sts SW (w+1)):: .lst P::L)=
    .nx [vB H,s1,vB FL,vB (.int most),vB (.ref G.length),vB (.ref (G.length+1)),y6,y7] (G++ .lst (sts SW (Y+1)):: .lst P'::L')
 |0,w,L,P,s6,s7,h1,h2,h3,h4=>by lia
 | n+1,w,L,P,s6,s7,h1,h2,h3,h4=>by
  by_cases e:w=Y
  ·subst e;refine⟨P,L,s6,s7,h4,?_⟩;unfold sWh;rw[ZBg ho hb (b:=vE) (by simp[hag])];simp
  ·obtain⟨pg,y6,y7,hpb,hbd⟩:=ZCp hy hb (w:=w) (most:=most) (by lia) (by lia) (s1:=s1) (s6:=s6) (s7:=s7) (G:=G) (L:=L) (P:=P) (by lia);have hpg:∀m,bels m (P++[pg])=vD:=λm=>by rw[ZLO,h4 m];simp[hpb m]
   obtain⟨P',L',z6,z7,b1,b2⟩:=ZD7 hy ho hb hY hnew hag hm (s1:=s1) (G:=G) n (w+1) (L++[.lst [pg]]) (P++[pg]) y6 y7 (by lia) (by lia) (by simp[h3]) hpg;refine⟨P',L',z6,z7,b1,?_⟩;unfold sWh;rw[ZBg ho hb (b:=vD) (by simp[hnew w (by lia)])];simp only[R.Dk,if_true,hbd,Eb];exact b2
theorem ZF4(hy:Yr H FL SW)(ho:∀w,okD 30 (SW w)=vD)(hb:∀w m,bel m (SW w)=vD)(hM:M<100)(hnew:∀w,w<=M->SW w∉sts SW w){s1:Option D}{G:DH}:
  ∀(n w:Nat)(L:DH)(P:List D)(s6 s7:Option D),w<=M->M<w+n->P.length=w->∃G',sWh Qe Lg n [vB H,s1,vB FL,vB (.int M),vB (.ref G.length),vB (.ref (G.length+1)),s6,s7] (G++ .lst (sts SW (w+1)):: .lst P::L)=.err ⟨"TooLong",[("most",.int M)]⟩ (G++G')
 |0,w,L,P,s6,s7,h1,h2,h3=>by lia
 |n+1,w,L,P,s6,s7,h1,h2,h3=>by
  have ht:=ZBg ho hb (w:=w) (b:=vD) (by simp[hnew w h1]) (s0:=vB H) (s1:=s1) (s2:=vB FL) (s3:=vB (.int M)) (s5:=vB (.ref (G.length+1))) (s6:=s6) (s7:=s7) (G:=G) (L:=L) (P:=P);by_cases e:w=M
  ·subst e;refine⟨.lst (sts SW (w+1)):: .lst P::L,?_⟩;unfold sWh;rw[ht];simp only[R.Dk,if_true];rw[ZMZ hM,ZN5]
  ·obtain⟨pg,y6,y7,hpb,hbd⟩:=ZCp hy hb (w:=w) (most:=(M:Int)) (by lia) (by lia) (s1:=s1) (s6:=s6) (s7:=s7) (G:=G) (L:=L) (P:=P) (by lia);obtain⟨G',ih⟩:=ZF4 hy ho hb hM hnew (s1:=s1) (G:=G) n (w+1) (L++[.lst [pg]]) (P++[pg]) y6 y7 (by lia) (by lia) (by simp[h3]);refine⟨G',?_⟩;unfold sWh;rw[ht];simp only[R.Dk,if_true,hbd,Eb];exact ih
theorem ZLb{ss ps:List D}(h1:bels G.length ss=vD)(h2:bels G.length ps=vD):freeze G (.ok (.tup [.ref G.length,.ref (G.length+1)]) (G++ .lst ss:: .lst ps::L))=.ok (.tup [.fl ss,.fl ps]) G:=by
 unfold freeze;have m:Df (G++ .lst ss:: .lst ps::L) G.length 9 (.tup [.ref G.length,.ref (G.length+1)])=vB (.tup [.fl ss,.fl ps]):=by
  unfold Df;have g0:(G++DO.lst ss:: .lst ps::L)[G.length]?=vB (.lst ss):=by rw[Cj];rfl
  have g1:(G++DO.lst ss:: .lst ps::L)[G.length+1]?=vB (.lst ps):=by rw[Hl];rfl
  have m1:Df (G++ .lst ss:: .lst ps::L) G.length 8 (.ref G.length)=vB (.fl ss):=by unfold Df;simp only[g0];simp[Nm h1]
  have m2:Df (G++ .lst ss:: .lst ps::L) G.length 8 (.ref (G.length+1))=vB (.fl ps):=by unfold Df;simp only[g1];simp[Nm h2]
  simp[Il,m1,m2]
 simp[m]
theorem ZHd(hy:Yr H FL SW)(ho:∀w,okD 30 (SW w)=vD)(hb:∀w m,bel m (SW w)=vD)(hY:Y<=900)(hnew:∀w,w<Y->SW w∉sts SW w)(hag:SW Y∈sts SW Y)(hm:(Y:Int)<=most)(G:DH):
  ∃P:List D,freeze G (Kz [H,SW 0,FL,.int most] G)=.ok (.tup [.fl (sts SW (Y+1)),.fl P]) G:=by
 obtain⟨P,L,y6,y7,b1,b2⟩:=ZD7 hy ho hb hY hnew hag hm (s1:=vB (SW 0)) (G:=G) fuel 0 [] [] vC vC (by lia) (by unfold fuel;lia) rfl (λ_=>rfl);have e1:sts SW (0+1)=[SW 0]:=rfl;rw[e1]at b2;refine⟨P,?_⟩;have tn:tidy G (.ok (.ref G.length) (G++[.lst [SW 0]]))=.ok (.ref G.length) (G++[.lst [SW 0]]):=Fi (by simp[hb]);have tn2:tidy (G++[.lst [SW 0]]) (.ok (.ref (G.length+1)) (G++[.lst [SW 0],.lst []]))=.ok (.ref (G.length+1)) (G++[.lst [SW 0],.lst []]):=V9 rfl
 have td:tidy G (.ok (.tup [.ref G.length,.ref (G.length+1)]) (G++ .lst (sts SW (Y+1)):: .lst P::L))=.ok (.tup [.ref G.length,.ref (G.length+1)]) (G++ .lst (sts SW (Y+1)):: .lst P::L):=Y4 (by simp);have hc:Kz [H,SW 0,FL,.int most] G=.ok (.tup [.ref G.length,.ref (G.length+1)]) (G++ .lst (sts SW (Y+1)):: .lst P::L):=by generalize sts SW (Y+1)=ss at*;unfold Kz Zh;rw[Bh];simp[Aw,tn,tn2,b2,Bj,td]
 rw[hc,ZLb (Rp hb) (b1 _)]
theorem ZOJ(hy:Yr H FL SW)(ho:∀w,okD 30 (SW w)=vD)(hb:∀w m,bel m (SW w)=vD)(hM:M<100)(hnew:∀w,w<=M->SW w∉sts SW w)(G:DH):
  ∃G',Kz [H,SW 0,FL,.int M] G=.err ⟨"TooLong",[("most",.int M)]⟩ (G++G'):=by
 obtain⟨G',b2⟩:=ZF4 hy ho hb hM hnew (s1:=vB (SW 0)) (G:=G) fuel 0 [] [] vC vC (by lia) (by unfold fuel;lia) rfl;have e1:sts SW (0+1)=[SW 0]:=rfl;rw[e1]at b2;refine⟨G',?_⟩;have tn:tidy G (.ok (.ref G.length) (G++[.lst [SW 0]]))=.ok (.ref G.length) (G++[.lst [SW 0]]):=Fi (by simp[hb]);have tn2:tidy (G++[.lst [SW 0]]) (.ok (.ref (G.length+1)) (G++[.lst [SW 0],.lst []]))=.ok (.ref (G.length+1)) (G++[.lst [SW 0],.lst []]):=V9 rfl
 unfold Kz Zh;rw[Bh];simp[Aw,tn,tn2,b2,tidy]
theorem ZDj(h0:∀G,Ah H (.int 0) G=.ok (.int 1) G)(h1:∀G,Dc [FL] G=.ok (.int 1) G)(G:DH):Td [H,FL] G=.ok .non G:=by unfold Td ZEC;rw[Bh];simp[h0,h1,Ce]
theorem ZEs(hy:Yr H FL SW)(ho:∀w,okD 30 (SW w)=vD)(hb:∀w m,bel m (SW w)=vD)(h0:∀G,Ah H (.int 0) G=.ok (.int 1) G)(h1:∀G,Dc [FL] G=.ok (.int 1) G)(hY:Y<=900)(hnew:∀w,w<Y->SW w∉sts SW w)(hag:SW Y∈sts SW Y)(hm:(Y:Int)<=most)(G:DH):
  Jg [H,SW 0,FL,.int most] G=.ok (.fl (sts SW (Y+1))) G:=by
 obtain⟨P,hP⟩:=ZHd hy ho hb hY hnew hag hm G;have hc:=ZDj h0 h1 G;have be:bels G.length (sts SW (Y+1))=vD:=Rp hb;generalize sts SW (Y+1)=ss at*;unfold Jg Yj;rw[Bh];simp[hc,hP,be,Ce]
theorem ZLe(hy:Yr H FL SW)(ho:∀w,okD 30 (SW w)=vD)(hb:∀w m,bel m (SW w)=vD)(h0:∀G,Ah H (.int 0) G=.ok (.int 1) G)(h1:∀G,Dc [FL] G=.ok (.int 1) G)(hM:M<100)(hnew:∀w,w<=M->SW w∉sts SW w)(G:DH):
  ∃G',Jg [H,SW 0,FL,.int M] G=.err ⟨"TooLong",[("most",.int M)]⟩ (G++G'):=by
 obtain⟨G',hP⟩:=ZOJ hy ho hb hM hnew G;have hc:=ZDj h0 h1 G;refine⟨G',?_⟩;unfold Jg Yj;rw[Bh];simp[hc,hP,freeze,tidy]
theorem ZIH(hy:Yr H FL SW)(ho:∀w,okD 30 (SW w)=vD)(hb:∀w m,bel m (SW w)=vD)(h0:∀G,Ah H (.int 0) G=.ok (.int 1) G)(h1:∀G,Dc [FL] G=.ok (.int 1) G)(hM:M<100)(hnew:∀w,w<=M->SW w∉sts SW w)(G:DH):
  Vx [H,SW 0,FL,.int M] G=.ok (.int M) G:=by
 obtain⟨G',hP⟩:=ZLe hy ho hb h0 h1 hM hnew G;have td:∀L:DH,tidy G (.ok (.int M) (G++L))=.ok (.int M) G:=λL=>W2 rfl
 have g0:(G++(G'++[DO.exc "TooLong" [("most",.int M)]]))[(G++G').length]?=vB (DO.exc "TooLong" [("most",.int M)]):=by rw[<-qI];simp
 unfold Vx ZE8 ZCo;rw[Bh];simp[Oo,hP,unnm,gtx,g0,td]
end
noncomputable def sw(i j:Nat)(xs:List Nat):List Nat:=(xs.set i (xs.getD j 0)).set j (xs.getD i 0)
def odF(a0 a1 a2:Nat):List Nat:=sw 2 (2+a2) (sw 1 (1+a1) (sw 0 a0 [0,1,2,3]))
theorem ZGD{xs:List Nat}(h:k<xs.length):atI (Ak xs) (k:Int)=vB (.int (xs.getD k 0:Nat)):=Er rfl (by unfold Ak;rw[zq,zZ h];simp[zA,zZ h])
theorem ZGF{xs:List Nat}:(Ak xs).set k (.int (v:Int))=Ak (xs.set k v):=by unfold Ak;rw[List.map_set]
theorem Yo{xs:List Nat}(hx:xs.length=4){a:Nat}(hk:k<3)(ha:a<4)(e:(k:Int)+t%(4-(k:Int))=(a:Int)):
  Qg [s0,s1,vB (.int t),vB (.ref G.length),vB (.int k),s5,s6,s7,s8,s9,s10,s11] (G++[.lst (Ak xs)])=.nx [s0,s1,vB (.int (t/(4-(k:Int)))),vB (.ref G.length),vB (.int k),vB (.int a),s6,s7,s8,s9,s10,s11] (G++[.lst (Ak (sw k a xs))]):=by
 have h1:=ZGD (xs:=xs) (k:=k) (by lia);have h2:=ZGD (xs:=xs) (k:=a) (by lia);have hl:k<(Ak xs).length:=by simp;lia
 have hl2:a<(Ak xs).length:=by simp;lia
 have e3:((Ak xs).set k (.int (xs.getD a 0:Nat))).set a (.int (xs.getD k 0:Nat))=Ak (sw k a xs):=by
  rw[ZGF,ZGF]
  rfl
 have hz:(k:Int)<4:=by lia
 have hdv:∀G,Hh (.int t) (.int (4-(k:Int))) G=.ok (.int (t/(4-(k:Int)))) G:=λG=>by
  rcases(by lia:k=0∨k=1∨k=2)with rfl|rfl|rfl
  ·exact ZBf (n:=4) (by lia) (by decide)
  ·exact ZBf (n:=3) (by lia) (by decide)
  ·exact ZBf (n:=2) (by lia) (by decide)
 rw[<-e3];generalize Ak xs=Z at*;generalize xs.getD a 0=va at*;generalize xs.getD k 0=vk at*;unfold Qg;simp[e,hz,Cj,Ek,h1,h2,Fv,hl,hl2,hdv]
theorem Wr{xs:List Nat}:(sw i j xs).length=xs.length:=by simp[sw]
theorem ZHV{s4:Option D}:∃(a0 a1 a2:Nat)(y2 y4 y5:Option D),a0<4/\a1<3/\a2<2/\
  Bm (gV 4) Qg (Do 0 3) [s0,s1,vB (.int t),vB (.ref G.length),s4,s5,s6,s7,s8,s9,s10,s11] (G++[.lst (Ak [0,1,2,3])])=.nx [s0,s1,y2,vB (.ref G.length),y4,y5,s6,s7,s8,s9,s10,s11] (G++[.lst (Ak (odF a0 a1 a2))]):=by
 obtain⟨a0,e0⟩:∃a:Nat,t%4=a:=⟨(t%4).toNat,by lia⟩;obtain⟨a1,e1⟩:∃a:Nat,t/4%3=a:=⟨(t/4%3).toNat,by lia⟩;obtain⟨a2,e2⟩:∃a:Nat,t/4/3%2=a:=⟨(t/4/3%2).toNat,by lia⟩;have b0:=Yo (xs:=[0,1,2,3]) rfl (k:=0) (a:=a0) (t:=t) (by lia) (by lia) (by simp;lia) (s0:=s0) (s1:=s1) (s5:=s5) (s6:=s6) (s7:=s7) (s8:=s8) (s9:=s9) (s10:=s10) (s11:=s11) (G:=G);have b1:=Yo (xs:=sw 0 a0 [0,1,2,3]) (by rw[Wr];rfl) (k:=1) (a:=1+a1) (t:=t/4) (by lia) (by lia) (by simp;lia) (s0:=s0) (s1:=s1) (s5:=vB (.int a0)) (s6:=s6) (s7:=s7) (s8:=s8) (s9:=s9) (s10:=s10) (s11:=s11) (G:=G)
 have b2:=Yo (xs:=sw 1 (1+a1) (sw 0 a0 [0,1,2,3])) (by rw[Wr,Wr];rfl) (k:=2) (a:=2+a2) (t:=t/4/3) (by lia) (by lia) (by simp;lia) (s0:=s0) (s1:=s1) (s5:=vB (.int ((1+a1:Nat):Int))) (s6:=s6) (s7:=s7) (s8:=s8) (s9:=s9) (s10:=s10) (s11:=s11) (G:=G);refine⟨a0,a1,a2,vB (.int (t/4/3/2)),vB (.int 2),vB (.int ((2+a2:Nat):Int)),by lia,by lia,by lia,?_⟩;have er:Do 0 3=[.int 0,.int 1,.int 2]:=rfl
 have z0:(4:Int)-((0:Nat):Int)=4:=rfl;have z1:(4:Int)-((1:Nat):Int)=3:=rfl;have z2:(4:Int)-((2:Nat):Int)=2:=rfl;have n0:((0:Nat):Int)=0:=rfl;have n1:((1:Nat):Int)=1:=rfl;have n2:((2:Nat):Int)=2:=rfl;rw[z0,n0]at b0;rw[z1,n1]at b1;rw[z2,n2]at b2;rw[er,Et];simp only[Ea,R.Dk,qS,b0,Eb];rw[Et];simp only[Ea,R.Dk,qS,b1,Eb];rw[Et];simp only[Ea,R.Dk,qS,b2,Eb];rw[Hy]
 rfl
noncomputable def ZBl(od:List Nat):Bool:=od.length==4&&(zk 4).all (λi=>decide (od.getD i 0<4)&&decide (od.idxOf (od.getD i 0)=i)&&decide (od.idxOf i<4)&&decide (od.getD (od.idxOf i) 0=i))
theorem ZOY:∀a0,a0<4->∀a1,a1<3->∀a2,a2<2->ZBl (odF a0 a1 a2)=vD:=by decide +kernel
structure Pr where
 a:Nat
 b:Nat
 c:Int
variable{P:Nat->Pr}
structure Pr.Ok (p:Pr):Prop where
 a:1<=p.a/\p.a<=5
 b:1<=p.b/\p.b<=5
 c:1<=p.c
noncomputable def Pr.enc(p:Pr):D:=.tup [.int p.a,.int p.b,.int p.c]
noncomputable def nmK(k:Nat):Str:=(["aa","ab","ba","bb"]:List Str).getD k ""
def dlK(P:Nat->Pr)(k:Nat):Nat:=if k%2=0 then(P (k/2)).a else(P (k/2)).b
def ptK(k:Nat):Nat:=if k%2=0 then k+1 else k-1
def plK(P:Nat->Pr)(od:List Nat)(k:Nat):Pl:=⟨nmK k,vC,dlK P k,.basin 0 [(0,[⟨0,(P (k/2)).c,vE⟩])] (vB (od.idxOf (ptK k),dlK P k,(P (k/2)).c))⟩
def h59(P:Nat->Pr)(od:List Nat):Hs:=⟨1,od.map (plK P od)⟩
def encK(P:Nat->Pr)(k:Nat):D:=.tup [.str "basin",.str (nmK k),.str "sea",.int (dlK P k),.int 0,.tup [.tup [.int 0,.tup [.tup [.int 0,.int (P (k/2)).c,.str "pump"]]]],.tup [.str (nmK (ptK k)),.int (dlK P k),.int (P (k/2)).c]]
@[simp]theorem ZLF:bel m (encK P k)=vD:=by simp[encK]
theorem Vi{nm to:Str}{dl:Int}(G:DH):U5 [.str nm,.str "sea",.int c,.str to,.int dl] G=.ok (.tup [.str "basin",.str nm,.str "sea",.int dl,.int 0,.tup [.tup [.int 0,.tup [.tup [.int 0,.int c,.str "pump"]]]],.tup [.str to,.int dl,.int c]]) G:=by unfold U5 ZBq;rw[Bh];simp[Ce]
theorem ZNT(hk:k<4){acc:List D}(ha:acc.length<=100):∃y5 y6 y7 y8,
  Ko [s0,vB (.fl [(P 0).enc,(P 1).enc]),vB (.fl [.str "aa",.str "ab",.str "ba",.str "bb"]),vB (.ref G.length),vB (.int k),s5,s6,s7,s8] (G++[.lst acc])=
   .nx [s0,vB (.fl [(P 0).enc,(P 1).enc]),vB (.fl [.str "aa",.str "ab",.str "ba",.str "bb"]),vB (.ref G.length),vB (.int k),y5,y6,y7,y8] (G++[.lst (acc++[encK P k])]):=by
 have hl:acc.length<1000000:=by lia
 have fz:∀x y:Int,freeze (G++[.lst acc]) (.ok (.ref (G.length+1)) (G++[.lst acc,.lst [.int x,.int y]]))=.ok (.fl [.int x,.int y]) (G++[.lst acc]):=λx y=>ZOD rfl
 rcases(by lia:k=0∨k=1∨k=2∨k=3)with rfl|rfl|rfl|rfl
 ·refine⟨vB (.int (P 0).a),vB (.int (P 0).b),vB (.int (P 0).c),vB (.int (P 0).a),?_⟩;unfold Ko Pr.enc encK;simp[Aw,fz,Vi,Cj,Ek,hl,nmK,ptK,dlK]
 ·refine⟨vB (.int (P 0).a),vB (.int (P 0).b),vB (.int (P 0).c),vB (.int (P 0).b),?_⟩;unfold Ko Pr.enc encK;simp[Aw,fz,Vi,Cj,Ek,hl,nmK,ptK,dlK]
 ·refine⟨vB (.int (P 1).a),vB (.int (P 1).b),vB (.int (P 1).c),vB (.int (P 1).a),?_⟩;unfold Ko Pr.enc encK;simp[Aw,fz,Vi,Cj,Ek,hl,nmK,ptK,dlK]
 ·refine⟨vB (.int (P 1).a),vB (.int (P 1).b),vB (.int (P 1).c),vB (.int (P 1).b),?_⟩;unfold Ko Pr.enc encK;simp[Aw,fz,Vi,Cj,Ek,hl,nmK,ptK,dlK]
theorem ZHK{b:DS}(h:G[i]?=vB (.lst xs))(hl:xs.length<=j):_D.forM i g b 0 j S G=.nx S G:=by unfold _D.forM;simp[h,hl]
theorem ZMz{b:DS}{x:D}(h:G[i]?=vB (.lst xs))(hx:xs[j]?=vB x):_D.forM i g b (k+1) j S G=(g x S G).toS λS1 G1=>aft (b S1 G1) (_D.forM i g b k (j+1)):=by
 conv=>lhs;unfold _D.forM
 simp[h,hx]
theorem ZDC{P:Nat->Pr}(ho:∀k∈od,k<4){G:DH}(hi:i<G.length)(hG:G[i]?=vB (.lst (Ak od))){s0:Option D}:∀(m j:Nat)(acc:List D)(s4 s5 s6 s7 s8:Option D),j+m=od.length->acc.length+m<=100->∃y4 y5 y6 y7 y8,
  _D.forM i (gV 4) Ko m j [s0,vB (.fl [(P 0).enc,(P 1).enc]),vB (.fl [.str "aa",.str "ab",.str "ba",.str "bb"]),vB (.ref G.length),s4,s5,s6,s7,s8] (G++[.lst acc])=
   .nx [s0,vB (.fl [(P 0).enc,(P 1).enc]),vB (.fl [.str "aa",.str "ab",.str "ba",.str "bb"]),vB (.ref G.length),y4,y5,y6,y7,y8] (G++[.lst (acc++(od.drop j).map (encK P))])
 |0,j,acc,s4,s5,s6,s7,s8,h1,h2=>⟨s4,s5,s6,s7,s8,by rw[ZHK (xs:=Ak od) (by rw[zL hi];exact hG) (by simp;lia),zO (by lia)];simp⟩
 | m+1,j,acc,s4,s5,s6,s7,s8,h1,h2=>by
  have hj:j<od.length:=by lia
  obtain⟨y5,y6,y7,y8,hb⟩:=ZNT (P:=P) (ho od[j] (qx hj)) (s0:=s0) (s5:=s5) (s6:=s6) (s7:=s7) (s8:=s8) (G:=G) (acc:=acc) (by lia);obtain⟨z4,z5,z6,z7,z8,ih⟩:=ZDC ho hi hG (P:=P) (s0:=s0) m (j+1) (acc++[encK P od[j]]) (vB (.int (od[j]:Nat))) y5 y6 y7 y8 (by lia) (by simp;lia);refine⟨z4,z5,z6,z7,z8,?_⟩;rw[ZMz (xs:=Ak od) (x:=.int (od[j]:Nat)) (by rw[zL hi];exact hG) (by
   unfold Ak;rw[zq,zZ hj]
   rfl)]
  simp only[Ea,R.Dk,qS,hb,Eb];rw[ih,zM hj,zG];simp
theorem ZG1(ho:∀k∈od,k<4)(hl:od.length=4)(hi:i<G.length)(hG:G[i]?=vB (.lst (Ak od))):W4 [.ref i,.fl [(P 0).enc,(P 1).enc]] G=.ok (.tup [.int 1,.tup (od.map (encK P))]) G:=by
 obtain⟨y4,y5,y6,y7,y8,hL⟩:=ZDC (P:=P) ho hi hG (s0:=vB (.ref i)) 4 0 [] vC vC vC vC vC (by lia) (by simp);rw[jy,j7]at hL;have f1:freeze G (.ok (.ref G.length) (G++[.lst [.str "aa",.str "ab",.str "ba",.str "bb"]]))=.ok (.fl [.str "aa",.str "ab",.str "ba",.str "bb"]) G:=H8 rfl;have t1:tidy G (.ok (.ref G.length) (G++[.lst []]))=.ok (.ref G.length) (G++[.lst []]):=Fi rfl
 have g0:(G++[DO.lst []])[i]?=vB (.lst (Ak od)):=by rw[zL hi];exact hG
 have ln:(Ak od).length=4:=by simp[hl]
 have be:bels G.length (od.map (encK P))=vD:=G8 λ_ _=>ZLF
 have td:∀L:DH,tidy G (.ok (.tup [.int 1,.tup (od.map (encK P))]) (G++L))=.ok (.tup [.int 1,.tup (od.map (encK P))]) G:=λL=>W2 (by simp[be])
 generalize od.map (encK P)=Z at*;generalize Ak od=W at*;unfold W4 ZCB;rw[Bh];simp[Aw,f1,t1,Ff,g0,ln,hL,Cj,td]
theorem mod_1{a:Nat}(ha:1<=a)(hb:1<=b):(w+b)%(a+b)=0↔w%(a+b)=a:=by
 have h1:w%(a+b)<a+b:=j3 _ (by lia);rw[Nat.add_mod,qG (show b<a+b by lia)];generalize w%(a+b)=r at*;by_cases h:r+b<a+b
 ·rw[qG h];lia
 ·rw[Nat.mod_eq_sub_mod (by lia),qG (by lia)];lia
theorem ZMl{a:Nat}(ha:1<=a)(hb:1<=b):(w+a)%(a+b)=a↔w%(a+b)=0:=by
 have h1:w%(a+b)<a+b:=j3 _ (by lia);rw[Nat.add_mod,qG (show a<a+b by lia)];generalize w%(a+b)=r at*;by_cases h:r+a<a+b
 ·rw[qG h];lia
 ·rw[Nat.mod_eq_sub_mod (by lia),qG (by lia)];lia
structure OrdOk (od:List Nat):Prop where
 len:od.length=4
 lt:∀i,i<4->od.getD i 0<4
 ix:∀i,i<4->od.idxOf (od.getD i 0)=i
 xlt:∀i,i<4->od.idxOf i<4
 xi:∀i,i<4->od.getD (od.idxOf i) 0=i
theorem OrdOk.of(h:ZBl od=vD):OrdOk od:=by unfold ZBl at h;simp only[zB,beq_iff_eq,qA,qY,decide_eq_true_eq]at h;obtain⟨h1,h2⟩:=h;exact⟨h1,λi hi=>(h2 i hi).1.1.1,λi hi=>(h2 i hi).1.1.2,λi hi=>(h2 i hi).1.2,λi hi=>(h2 i hi).2⟩
theorem Lq(h:k<4):ptK k<4/\ptK (ptK k)=k/\ptK k/2=k/2/\(ptK k%2=0↔k%2=1):=by rcases(by lia:k=0∨k=1∨k=2∨k=3)with rfl|rfl|rfl|rfl<;>decide
def toP(od:List Nat)(i:Nat):Nat:=od.idxOf (ptK (od.getD i 0))
def dP(P:Nat->Pr)(od:List Nat)(i:Nat):Nat:=dlK P (od.getD i 0)
noncomputable def cP(P:Nat->Pr)(od:List Nat)(i:Nat):Int:=(P (od.getD i 0/2)).c
noncomputable def pP(P:Nat->Pr)(od:List Nat)(i:Nat):Nat:=(P (od.getD i 0/2)).a+(P (od.getD i 0/2)).b
def eP(P:Nat->Pr)(od:List Nat)(i:Nat):Nat:=if od.getD i 0%2=0 then 0 else(P (od.getD i 0/2)).a
section
variable{P:Nat->Pr}{od:List Nat}
theorem Ey(o:OrdOk od):(h59 P od).n=4:=by show(od.map (plK P od)).length=4;rw[qJ];exact o.len
theorem Hm(o:OrdOk od)(hi:i<4):(h59 P od).pl i=plK P od (od.getD i 0):=by
 have hl:i<od.length:=by rw[o.len];exact hi
 show(od.map (plK P od)).getD i Zm=_;simp[zA,zZ hl]
theorem Zi(hP:∀j,(P j).Ok):1<=dlK P k/\dlK P k<=5:=by
 unfold dlK;split
 ·exact(hP _).a
 ·exact(hP _).b
theorem Qj(o:OrdOk od)(hi:i<4):toP od i<4/\od.getD (toP od i) 0=ptK (od.getD i 0)/\toP od (toP od i)=i:=by have h1:=Lq (o.lt i hi);refine⟨o.xlt _ h1.1,o.xi _ h1.1,?_⟩;show od.idxOf (ptK (od.getD (od.idxOf (ptK (od.getD i 0))) 0))=i;rw[o.xi _ h1.1,h1.2.1,o.ix i hi]
theorem rnd59(o:OrdOk od)(hP:∀j,(P j).Ok):Rnd (h59 P od) (toP od) (dP P od) (cP P od) where
 dn:=λk hk=>by
  rw[Ey o]at hk;rw[Hm o hk]
  rfl
 kd:=λk hk=>by
  rw[Ey o]at hk;rw[Hm o hk]
  rfl
 d1:=λk _=>Zi hP
 c1:=λk _=>(hP _).c
 inv:=λk hk=>by rw[Ey o]at hk⊢;have:=Qj o hk;exact⟨this.1,this.2.2⟩
theorem per59(o:OrdOk od)(hP:∀j,(P j).Ok):Per (h59 P od).n (toP od) (dP P od) (pP P od) (eP P od) (cP P od) where
 sw:=λi w hi=>by
  rw[Ey o]at hi;have h1:=Qj o hi;have h2:=Lq (o.lt i hi);have ha:=(hP (od.getD i 0/2)).a.1;have hb:=(hP (od.getD i 0/2)).b.1;unfold dP pP eP;rw[h1.2.1];unfold dlK;rw[h2.2.2.1];generalize P (od.getD i 0/2)=q at*;by_cases hm:od.getD i 0%2=0
  ·rw[if_neg (λz=>by have:=h2.2.2.2.mp z;lia),if_pos hm,if_neg (λz=>by have:=h2.2.2.2.mp z;lia)];exact mod_1 ha hb
  ·rw[if_pos (h2.2.2.2.mpr (by lia)),if_neg hm,if_pos (h2.2.2.2.mpr (by lia))];exact ZMl ha hb
 p:=λi hi=>by rw[Ey o]at hi;unfold pP;rw[(Qj o hi).2.1,(Lq (o.lt i hi)).2.2.1]
 c:=λi hi=>by rw[Ey o]at hi;unfold cP;rw[(Qj o hi).2.1,(Lq (o.lt i hi)).2.2.1]
end
theorem ZNX:∀k,k<4->∀j,j<4->nmK k=nmK j->k=j:=by decide +kernel
theorem ZI4:∀k,k<4->nmK k≠"sea":=by decide +kernel
section
variable{P:Nat->Pr}{od:List Nat}
theorem good59(o:OrdOk od)(hP:∀j,(P j).Ok):GoodH (h59 P od) where
 yr:=by show(0:Int)<1;decide
 len:=by rw[Ey o];decide
 inj:=λi j hi hj e=>by rw[Ey o]at hi hj;rw[Hm o hi,Hm o hj]at e;have:=ZNX _ (o.lt i hi) _ (o.lt j hj) e;rw[<-o.ix i hi,this,o.ix j hj]
 sea:=λi hi=>by rw[Ey o]at hi;rw[Hm o hi];exact ZI4 _ (o.lt i hi)
 dn:=λk d hk e=>by rw[Ey o]at hk;rw[Hm o hk]at e;cases e
 dl:=λk hk=>by rw[Ey o]at hk;rw[Hm o hk];exact(Zi hP).2
 pump:=λk b r to dl m hk e=>by rw[Ey o]at hk;rw[Hm o hk]at e;unfold plK at e;cases e;rw[Ey o];exact⟨o.xlt _ (Lq (o.lt k hk)).1,Zi hP⟩
 brim:=λk b r q hk e=>by rw[Ey o]at hk;rw[Hm o hk]at e;unfold plK at e;cases e;refine⟨qE 0,λs hs=>?_⟩;rw[qz]at hs;subst hs;exact⟨qE 0,(hP _).c,trivial⟩
 town:=λk a b hk e=>by rw[Ey o]at hk;rw[Hm o hk]at e;cases e
theorem enc59(o:OrdOk od):(h59 P od).enc=.tup [.int 1,.tup (od.map (encK P))]:=by
 unfold Hs.enc Hs.Hg;show D.tup [.int 1,.tup ((od.map (plK P od)).map (h59 P od).encP)]=_;rw[j0]
 congr 3
 refine congrArg D.tup (qQ λk hk=>?_);obtain⟨j,hj,rfl⟩:=qK hk;have hj4:j<4:=by rw[<-o.len];exact hj
 have e0:od[j]=od.getD j 0:=by simp[zA,zZ hj]
 have hk4:od[j]<4:=by rw[e0];exact o.lt j hj4
 have hp:=(Lq hk4).1;have e1:((h59 P od).pl (od.idxOf (ptK od[j]))).nm=nmK (ptK od[j]):=by
  rw[Hm o (o.xlt _ hp),o.xi _ hp]
  rfl
 show(h59 P od).encP (plK P od od[j])=encK P od[j];unfold Hs.encP plK encK;simp only[Hs.Px,e1]
 rfl
end
theorem ZOw{B:DO}(h:bels G.length ds=vE):tidy G (.ok (.ref (G.length+2)) (G++[A,B,.lst ds]))=.ok (.ref (G.length+2)) (G++[A,B,.lst ds]):=by
 unfold tidy;have g:(G++[A,B,DO.lst ds])[G.length+2]?=vB (.lst ds):=by rw[Hl];rfl
 have hn:¬(G.length+2<G.length):=by lia
 have hb:Jf G.length (DO.lst ds)=vE:=h;simp[g,hn,hb]
theorem ZOi{r0 r1:List D}(h0:bels G.length r0=vD)(h1:bels G.length r1=vD):freeze G (.ok (.ref (G.length+2)) (G++[.lst r0,.lst r1,.lst [.ref G.length,.ref (G.length+1)]]))=.ok (.fl [.fl r0,.fl r1]) G:=by
 unfold freeze;have g0:(G++[DO.lst r0,.lst r1,.lst [.ref G.length,.ref (G.length+1)]])[G.length]?=vB (.lst r0):=by rw[Cj];rfl
 have g1:(G++[DO.lst r0,.lst r1,.lst [.ref G.length,.ref (G.length+1)]])[G.length+1]?=vB (.lst r1):=by rw[Hl];rfl
 have g2:(G++[DO.lst r0,.lst r1,.lst [.ref G.length,.ref (G.length+1)]])[G.length+2]?=vB (.lst [.ref G.length,.ref (G.length+1)]):=by rw[Hl];rfl
 have m:Df (G++[.lst r0,.lst r1,.lst [.ref G.length,.ref (G.length+1)]]) G.length 9 (.ref (G.length+2))=vB (.fl [.fl r0,.fl r1]):=by
  unfold Df;have m1:Df (G++[.lst r0,.lst r1,.lst [.ref G.length,.ref (G.length+1)]]) G.length 8 (.ref G.length)=vB (.fl r0):=by unfold Df;simp only[g0];simp[Nm h0]
  have m2:Df (G++[.lst r0,.lst r1,.lst [.ref G.length,.ref (G.length+1)]]) G.length 8 (.ref (G.length+1))=vB (.fl r1):=by unfold Df;simp only[g1];simp[Nm h1]
  simp only[g2];simp[Il,m1,m2]
 simp[m]
noncomputable def z5:List D:=[.int 0,.int 0,.int 0,.int 0,.int 0]
theorem ZNf{p:Pr}(hp:p.Ok)(G:DH):∃r0 r1:List D,
  (r0=if w%(p.a+p.b)=0 then z5.set 0 (.int p.c)else if w%(p.a+p.b)<=p.a then z5 else z5.set (p.a+p.b-w%(p.a+p.b)) (.int p.c))/\
  (r1=if w%(p.a+p.b)=0 then z5 else if w%(p.a+p.b)<=p.a then z5.set (p.a-w%(p.a+p.b)) (.int p.c)else z5)/\
  K6 [p.enc,.int w] G=.ok (.ref (G.length+2)) (G++[.lst r0,.lst r1,.lst [.ref G.length,.ref (G.length+1)]]):=by
 have ha:=hp.a;have hb:=hp.b;have e0:(w:Int)%((p.a:Int)+(p.b:Int))=((w%(p.a+p.b):Nat):Int):=by simp
 have hlt:w%(p.a+p.b)<p.a+p.b:=j3 _ (by lia);generalize w%(p.a+p.b)=at_ at*;have hpos:(0:Int)<(p.a:Int)+(p.b:Int):=by lia
 have t1:tidy G (.ok (.ref G.length) (G++[.lst z5]))=.ok (.ref G.length) (G++[.lst z5]):=Fi rfl;have t2:tidy (G++[.lst z5]) (.ok (.ref (G.length+1)) (G++[.lst z5,.lst z5]))=.ok (.ref (G.length+1)) (G++[.lst z5,.lst z5]):=V9 rfl;have t3:∀A B:DO,tidy G (.ok (.ref (G.length+2)) (G++[A,B,.lst [.ref G.length,.ref (G.length+1)]]))=.ok (.ref (G.length+2)) (G++[A,B,.lst [.ref G.length,.ref (G.length+1)]]):=λA B=>ZOw (by simp)
 have g0:∀A B:DO,(G++[A,B,DO.lst [.ref G.length,.ref (G.length+1)]])[G.length]?=vB A:=λA B=>by rw[Cj];rfl
 have g1:∀A B:DO,(G++[A,B,DO.lst [.ref G.length,.ref (G.length+1)]])[G.length+1]?=vB B:=λA B=>by rw[Hl];rfl
 have g2:∀A B:DO,(G++[A,B,DO.lst [.ref G.length,.ref (G.length+1)]])[G.length+2]?=vB (.lst [.ref G.length,.ref (G.length+1)]):=λA B=>by rw[Hl];rfl
 have s0:∀A B C:DO,(G++[A,B,DO.lst [.ref G.length,.ref (G.length+1)]]).set G.length C=G++[C,B,DO.lst [.ref G.length,.ref (G.length+1)]]:=λA B C=>by rw[Ek];rfl
 have s1:∀A B C:DO,(G++[A,B,DO.lst [.ref G.length,.ref (G.length+1)]]).set (G.length+1) C=G++[A,C,DO.lst [.ref G.length,.ref (G.length+1)]]:=λA B C=>by rw[Ox];rfl
 have hz5: [D.int 0,.int 0,.int 0,.int 0,.int 0]=z5:=rfl;have lz:z5.length=5:=rfl;have x0:ixN 5 0=vB 0:=rfl;by_cases h0:at_=0
 ·refine⟨_,_,rfl,rfl,?_⟩;rw[if_pos h0,if_pos h0];subst h0;unfold Pr.enc K6 Tv;rw[Bh];simp[Aw,hz5,t1,t2,t3,e0,hpos,g0,g1,g2,s0,s1,lz,x0]
 ·by_cases h1:at_<=p.a
  ·refine⟨_,_,rfl,rfl,?_⟩;rw[if_neg h0,if_pos h1,if_neg h0,if_pos h1];have ei:(p.a:Int)-(at_:Int)=((p.a-at_:Nat):Int):=by lia
   have hi:p.a-at_<5:=by lia
   unfold Pr.enc K6 Tv;rw[Bh];simp[Aw,hz5,t1,t2,t3,e0,hpos,g0,g1,g2,s0,s1,lz,x0,h0,h1,ei,Fv,hi]
  ·refine⟨_,_,rfl,rfl,?_⟩;rw[if_neg h0,if_neg h1,if_neg h0,if_neg h1];have ei:(p.a:Int)+(p.b:Int)-(at_:Int)=((p.a+p.b-at_:Nat):Int):=by lia
   have hi:p.a+p.b-at_<5:=by lia
   unfold Pr.enc K6 Tv;rw[Bh];simp[Aw,hz5,t1,t2,t3,e0,hpos,g0,g1,g2,s0,s1,lz,x0,h0,h1,ei,Fv,hi]
def Bc(P:Nat->Pr)(w k:Nat):List D:=
 let p:=P (k/2);let t:=w%(p.a+p.b)
 if k%2=0 then(if t=0 then z5.set 0 (.int p.c)else if t<=p.a then z5 else z5.set (p.a+p.b-t) (.int p.c))
 else(if t=0 then z5 else if t<=p.a then z5.set (p.a-t) (.int p.c)else z5)
theorem ZID:bels m z5=vD/\bels m (z5.set i (.int c))=vD:=by
 refine⟨rfl,?_⟩;rcases(by lia:i=0∨i=1∨i=2∨i=3∨i=4∨5<=i)with rfl|rfl|rfl|rfl|rfl|h
 ·rfl
 ·rfl
 ·rfl
 ·rfl
 ·rfl
 ·rw[List.set_eq_of_length_le (by exact h)]
  rfl
theorem U7:bels m (Bc P w k)=vD:=by
 unfold Bc;simp only
 repeat' split
 all_goals first|exact ZID.2|rfl
theorem ZFh(hP:∀j,(P j).Ok)(hk:k%2=0)(G:DH):freeze G (K6 [(P (k/2)).enc,.int w] G)=.ok (.fl [.fl (Bc P w k),.fl (Bc P w (k+1))]) G:=by
 obtain⟨r0,r1,e0,e1,hc⟩:=ZNf (hP (k/2)) (w:=w) G;have h0:r0=Bc P w k:=by rw[e0];unfold Bc;simp only;rw[if_pos hk]
 have h1:r1=Bc P w (k+1):=by rw[e1];unfold Bc;simp only;rw[if_neg (show¬(k+1)%2=0 by lia),show(k+1)/2=k/2 by lia]
 rw[hc,h0,h1];exact ZOi U7 U7
theorem ZIW{c:DB}{te:DE}(h:G[i]?=vB (.lst xs))(hl:xs.length<=j):Dt i g c te S 0 j G=.ok [] G:=by unfold Dt;simp[h,hl]
theorem ZEA{P:Nat->Pr}{w:Nat}(ho:∀k∈od,k<4)(hG:G[i]?=vB (.lst (Ak od))):∀(m j:Nat),j+m=od.length->
  Dt i (gV 0) Ci Rr [vC,vB (.fl [.fl (Bc P w 0),.fl (Bc P w 1),.fl (Bc P w 2),.fl (Bc P w 3)])] m j G=.ok ((od.drop j).map λk=>D.tup (Bc P w k)) G
 |0,j,e=>by
  rw[ZIW hG (by simp;lia),zO (by lia)]
  rfl
 | m+1,j,e=>by
  have hj:j<od.length:=by lia
  have ih:=ZEA (P:=P) (w:=w) ho hG m (j+1) (by lia);have hx:(Ak od)[j]?=vB (.int (od[j]:Nat)):=by
   unfold Ak;rw[zq,zZ hj]
   rfl
  have he:Rr [vB (.int (od[j]:Nat)),vB (.fl [.fl (Bc P w 0),.fl (Bc P w 1),.fl (Bc P w 2),.fl (Bc P w 3)])] G=.ok (.tup (Bc P w od[j])) G:=by
   have h4:=ho od[j] (qx hj);generalize od[j]=k at*;unfold Rr
   rcases(by lia:k=0∨k=1∨k=2∨k=3)with rfl|rfl|rfl|rfl<;>simp
  conv=>lhs;unfold Dt
  simp only[hG,hx,Ea,R.Hr,qS,Z3,if_true,he,ih];rw[zM hj,zG]
theorem ZOe(hP:∀j,(P j).Ok)(ho:∀k∈od,k<4)(hl:od.length=4)(hG:G[i]?=vB (.lst (Ak od))):
  T6 [.ref i,.fl [(P 0).enc,(P 1).enc],.int w] G=.ok (.tup [.tup [.int 0,.int 0,.int 0,.int 0],.tup (od.map λk=>D.tup (Bc P w k))]) G:=by
 have f0:=ZFh hP (w:=w) (k:=0) rfl G;have f1:=ZFh hP (w:=w) (k:=2) rfl G;have hc:=ZEA (P:=P) (w:=w) ho hG 4 0 (by lia);rw[jy]at hc;have e0:(0:Nat)/2=0:=rfl;have e1:(2:Nat)/2=1:=rfl;rw[e0]at f0;rw[e1]at f1;have ln:(Ak od).length=4:=by simp[hl]
 have fa:freeze G (.ok (.ref G.length) (G++[.lst [.fl (Bc P w 0),.fl (Bc P w 1),.fl (Bc P w 2),.fl (Bc P w 3)]]))=.ok (.fl [.fl (Bc P w 0),.fl (Bc P w 1),.fl (Bc P w 2),.fl (Bc P w 3)]) G:=H8 (by simp[U7]);have be:bels G.length (od.map λk=>D.tup (Bc P w k))=vD:=G8 λ_ _=>by simp[U7]
 have fb:freeze G (.ok (.ref G.length) (G++[.lst (od.map λk=>D.tup (Bc P w k))]))=.ok (.fl (od.map λk=>D.tup (Bc P w k))) G:=H8 be;have lr:(od.map λk=>D.tup (Bc P w k)).length<=1000000:=by simp[hl]
 have hcs:∀a b c d:Option D,Bb 1 [3] [a,b,c,d]=[vC,d]:=λ_ _ _ _=>rfl
 generalize(od.map λk=>D.tup (Bc P w k))=Z at*;generalize Ak od=W at*;unfold T6 ZF3;rw[Bh];simp[f0,f1,fa,Ff,hG,ln,hcs,hc,lr,fb,be,Ce]
theorem ZIa(hp:0<p)(hj:j<p):(w+j)%p=if w%p+j<p then w%p+j else w%p+j-p:=by
 have h1:w%p<p:=j3 _ hp;rw[Nat.add_mod,qG hj];generalize w%p=t at*;split
 ·exact qG (by assumption)
 ·rw[Nat.mod_eq_sub_mod (by lia),qG (by lia)]
theorem ZBI:z5=tab 5 λ_=>0:=rfl
theorem Ys(h:m<5):z5.set m (.int c)=tab 5 λj=>if j=m then c else 0:=by rcases(by lia:m=0∨m=1∨m=2∨m=3∨m=4)with rfl|rfl|rfl|rfl|rfl<;>rfl
section
variable{P:Nat->Pr}{od:List Nat}
theorem ZLC(o:OrdOk od)(hP:∀j,(P j).Ok)(hi:i<4):Bc P w (od.getD i 0)=tab 5 (Bw (toP od) (dP P od) (pP P od) (eP P od) (cP P od) w i):=by
 have h1:=Qj o hi;have h2:=Lq (o.lt i hi);have ha:=(hP (od.getD i 0/2)).a;have hb:=(hP (od.getD i 0/2)).b;have er:∀j,Bw (toP od) (dP P od) (pP P od) (eP P od) (cP P od) w i j=if j<dlK P (ptK (od.getD i 0))/\(w+j)%((P (od.getD i 0/2)).a+(P (od.getD i 0/2)).b)=eP P od i then(P (od.getD i 0/2)).c else 0:=λj=>by unfold Bw dP pP cP;rw[h1.2.1]
 rw[Ho (F':=_) λj _=>er j];have ed:dlK P (ptK (od.getD i 0))=if od.getD i 0%2=0 then(P (od.getD i 0/2)).b else(P (od.getD i 0/2)).a:=by
  unfold dlK;rw[h2.2.2.1];by_cases hm:od.getD i 0%2=0
  ·rw[if_neg (λz=>by have:=h2.2.2.2.mp z;lia),if_pos hm]
  ·rw[if_pos (h2.2.2.2.mpr (by lia)),if_neg hm]
 rw[ed];unfold Bc eP;simp only;generalize od.getD i 0=k at*;generalize P (k/2)=q at*;have hlt:w%(q.a+q.b)<q.a+q.b:=j3 _ (by lia);have hmc:∀j,j<q.a+q.b->(w+j)%(q.a+q.b)=if w%(q.a+q.b)+j<q.a+q.b then w%(q.a+q.b)+j else w%(q.a+q.b)+j-(q.a+q.b):=λj hj=>ZIa (by lia) hj
 by_cases hm:k%2=0
 ·simp only[if_pos hm];have key:∀j,(j<q.b/\(w+j)%(q.a+q.b)=0)↔(j<q.b/\(if w%(q.a+q.b)+j<q.a+q.b then w%(q.a+q.b)+j else w%(q.a+q.b)+j-(q.a+q.b))=0):=λj=>by
   constructor
   ·rintro⟨h,z⟩;exact⟨h,by rw[<-hmc j (by lia)];exact z⟩
   ·rintro⟨h,z⟩;exact⟨h,by rw[hmc j (by lia)];exact z⟩
  simp only[key];generalize w%(q.a+q.b)=t at*;by_cases h0:t=0
  ·rw[if_pos h0,Ys (by lia)];refine Ho λj hj=>?_
   repeat' split
   all_goals lia
  ·rw[if_neg h0];by_cases h3:t<=q.a
   ·rw[if_pos h3,ZBI];refine Ho λj hj=>?_
    repeat' split
    all_goals lia
   ·rw[if_neg h3,Ys (by lia)];refine Ho λj hj=>?_
    repeat' split
    all_goals lia
 ·simp only[if_neg hm];have key:∀j,(j<q.a/\(w+j)%(q.a+q.b)=q.a)↔(j<q.a/\(if w%(q.a+q.b)+j<q.a+q.b then w%(q.a+q.b)+j else w%(q.a+q.b)+j-(q.a+q.b))=q.a):=λj=>by
   constructor
   ·rintro⟨h,z⟩;exact⟨h,by rw[<-hmc j (by lia)];exact z⟩
   ·rintro⟨h,z⟩;exact⟨h,by rw[hmc j (by lia)];exact z⟩
  simp only[key];generalize w%(q.a+q.b)=t at*;by_cases h0:t=0
  ·rw[if_pos h0,ZBI];refine Ho λj hj=>?_
   repeat' split
   all_goals lia
  ·rw[if_neg h0];by_cases h3:t<=q.a
   ·rw[if_pos h3,Ys (by lia)];refine Ho λj hj=>?_
    repeat' split
    all_goals lia
   ·rw[if_neg h3,ZBI];refine Ho λj hj=>?_
    repeat' split
    all_goals lia
end
section
variable{P:Nat->Pr}{od:List Nat}
def SW59(P:Nat->Pr)(od:List Nat)(w:Nat):D:=stD 4 (λ_=>0) (Bw (toP od) (dP P od) (pP P od) (eP P od) (cP P od) w)
theorem R6(o:OrdOk od)(hP:∀j,(P j).Ok):SW59 P od w=.tup [.tup [.int 0,.int 0,.int 0,.int 0],.tup (od.map λk=>D.tup (Bc P w k))]:=by
 have e:od.map (λk=>D.tup (Bc P w k))=(zk 4).map λi=>D.tup (Bc P w (od.getD i 0)):=by
  refine qF (by simp[o.len]) λi h1 h2=>?_
  have hi:i<od.length:=by simpa using h1
  simp[zA,zZ hi]
 rw[e];unfold SW59 stD Cw
 congr 3
 refine congrArg D.tup (qQ λi hi=>?_);rw[ZLC o hP (qY.mp hi)]
theorem ZNO(o:OrdOk od)(hP:∀j,(P j).Ok)(h:SW59 P od v=SW59 P od w):∀k,k<4->Bc P v k=Bc P w k:=λk hk=>by
 rw[R6 o hP,R6 o hP]at h;have h1:od.map (λk=>D.tup (Bc P v k))=od.map λk=>D.tup (Bc P w k):=by
  injection h with h
  injection h with _ h
  injection h with h
  injection h
 have hi:od.idxOf k<od.length:=by rw[o.len];exact o.xlt k hk
 have h2:=congrArg (λl=>l[od.idxOf k]?) h1;simp only[zq,zZ hi,jR]at h2;have e0:od[od.idxOf k]=k:=by have:=o.xi k hk;rwa[zA,zZ hi]at this
 rw[e0]at h2;injection h2 with h2
 injection h2
theorem ZFo(q:Nat)(hP:∀j,(P j).Ok)(hA:Bc P v (2*q)=Bc P w (2*q))(hB:Bc P v (2*q+1)=Bc P w (2*q+1)):v%((P q).a+(P q).b)=w%((P q).a+(P q).b):=by
 have ha:=(hP q).a;have hb:=(hP q).b;have hc:=(hP q).c;have e1:2*q/2=q:=by lia
 have e2:(2*q+1)/2=q:=by lia
 have e3:2*q%2=0:=by lia
 have e4:¬(2*q+1)%2=0:=by lia
 unfold Bc at hA hB;simp only[e1,e3,if_true]at hA;simp only[e2,if_neg e4]at hB;have l1:v%((P q).a+(P q).b)<(P q).a+(P q).b:=j3 _ (by lia);have l2:w%((P q).a+(P q).b)<(P q).a+(P q).b:=j3 _ (by lia);generalize v%((P q).a+(P q).b)=s at*;generalize w%((P q).a+(P q).b)=t at*;generalize P q=r at*;have g:∀m n:Nat,m<5->n<5->z5.set m (.int r.c)=z5.set n (.int r.c)->m=n:=λm n hm hn h=>by
  have h2:=congrArg (λl=>l[m]?) h;have lz:z5.length=5:=rfl;by_cases e:m=n
  ·exact e
  ·simp only[qB (l:=z5) (i:=m) (by rw[lz];exact hm),q9 (l:=z5) (Ne.symm e)]at h2;have h3:z5[m]?=vB (.int 0):=by rcases(by lia:m=0∨m=1∨m=2∨m=3∨m=4)with rfl|rfl|rfl|rfl|rfl<;>rfl
   rw[h3]at h2;injection h2 with h2
   injection h2 with h2
   lia
 have z:∀m:Nat,m<5->z5.set m (.int r.c)≠z5:=λm hm h=>by
  have h2:=congrArg (λl=>l[m]?) h;have lz:z5.length=5:=rfl;have h3:z5[m]?=vB (.int 0):=by rcases(by lia:m=0∨m=1∨m=2∨m=3∨m=4)with rfl|rfl|rfl|rfl|rfl<;>rfl
  simp only[qB (l:=z5) (i:=m) (by rw[lz];exact hm),h3]at h2;injection h2 with h2
  injection h2 with h2
  lia
 by_cases s0:s=0
 ·by_cases t0:t=0
  ·lia
  ·rw[if_pos s0,if_neg t0]at hA;by_cases t1:t<=r.a
   ·rw[if_pos t1]at hA;exact absurd hA (z 0 (by lia))
   ·rw[if_neg t1]at hA;have:=g _ _ (by lia) (by lia) hA;lia
 ·by_cases t0:t=0
  ·rw[if_neg s0,if_pos t0]at hA;by_cases s1:s<=r.a
   ·rw[if_pos s1]at hA;exact absurd hA.symm (z 0 (by lia))
   ·rw[if_neg s1]at hA;have:=g _ _ (by lia) (by lia) hA;lia
  ·rw[if_neg s0,if_neg t0]at hA hB;by_cases s1:s<=r.a
   ·by_cases t1:t<=r.a
    ·rw[if_pos s1,if_pos t1]at hB;have:=g _ _ (by lia) (by lia) hB;lia
    ·rw[if_pos s1,if_neg t1]at hB;exact absurd hB (z _ (by lia))
   ·by_cases t1:t<=r.a
    ·rw[if_neg s1,if_pos t1]at hB;exact absurd hB.symm (z _ (by lia))
    ·rw[if_neg s1,if_neg t1]at hA;have:=g _ _ (by lia) (by lia) hA;lia
end
theorem ZDx(hl:ns.length<=63)(hb:b<=100):∃p:Pr,p.Ok/\∀G,Kv [.fl (ns.map D.int),.int b] G=.ok p.enc G:=by
 obtain⟨f,hf⟩:=cells hl;have h1:=hf b (by lia);have h2:∀G,Gn [.fl (ns.map D.int),.int ((b:Int)+1)] G=.ok (.int (f (b+1))) G:=hf (b+1) (by lia);refine⟨⟨(1+f b%5).toNat,(1+f b/5%5).toNat,1+f (b+1)%10^30⟩,⟨⟨?_,?_⟩,⟨?_,?_⟩,?_⟩,λG=>?_⟩
 ·show 1<=(1+f b%5).toNat;lia
 ·show(1+f b%5).toNat<=5;lia
 ·show 1<=(1+f b/5%5).toNat;lia
 ·show(1+f b/5%5).toNat<=5;lia
 ·show 1<=1+f (b+1)%10^30;have:=Int.emod_nonneg (f (b+1)) (show(10:Int)^30≠0 by decide);lia
 ·have e1:(((1+f b%5).toNat:Nat):Int)=1+f b%5:=by lia
  have e2:(((1+f b/5%5).toNat:Nat):Int)=1+f b/5%5:=by lia
  unfold Pr.enc;simp only[e1,e2];unfold Kv ZFd;rw[Bh];simp[h1,h2,Ce]
def gd(P:Nat->Pr)(y:Nat):Prop:=y%((P 0).a+(P 0).b)=0/\y%((P 1).a+(P 1).b)=0
theorem ZDJ(hP:∀j,(P j).Ok){s0 s2 s3 s4 s5 s6 s8 s9 s10 s11:Option D}{G:DH}:∀(n y:Nat),1<=y->y<=((P 0).a+(P 0).b)*((P 1).a+(P 1).b)->((P 0).a+(P 0).b)*((P 1).a+(P 1).b)<y+n->(∀z,1<=z->z<y->¬gd P z)->
  ∃Y:Nat,1<=Y/\Y<=((P 0).a+(P 0).b)*((P 1).a+(P 1).b)/\gd P Y/\(∀z,1<=z->z<Y->¬gd P z)/\
   sWh Kr Rg n [s0,vB (.fl [(P 0).enc,(P 1).enc]),s2,s3,s4,s5,s6,vB (.int y),s8,s9,s10,s11] G=.nx [s0,vB (.fl [(P 0).enc,(P 1).enc]),s2,s3,s4,s5,s6,vB (.int Y),s8,s9,s10,s11] G
 |0,y,h1,h2,h3,h4=>by lia
 | n + 1,y,h1,h2,h3,h4=>by
  have a0:=(hP 0).a;have a1:=(hP 1).a;have b0:=(hP 0).b;have b1:=(hP 1).b;have p0:(0:Int)<((P 0).a:Int)+((P 0).b:Int):=by lia
  have p1:(0:Int)<((P 1).a:Int)+((P 1).b:Int):=by lia
  have e0:(y:Int)%(((P 0).a:Int)+((P 0).b:Int))=((y%((P 0).a+(P 0).b):Nat):Int):=by simp
  have e1:(y:Int)%(((P 1).a:Int)+((P 1).b:Int))=((y%((P 1).a+(P 1).b):Nat):Int):=by simp
  by_cases hg:gd P y
  ·refine⟨y,h1,h2,hg,h4,?_⟩;have ht:Kr [s0,vB (.fl [(P 0).enc,(P 1).enc]),s2,s3,s4,s5,s6,vB (.int y),s8,s9,s10,s11] G=.ok vE G:=by obtain⟨g0,g1⟩:=hg;rw[g0]at e0;rw[g1]at e1;unfold Pr.enc Kr;simp[p0,p1,e0,e1]
   unfold sWh;rw[ht];simp
  ·have hne:y≠((P 0).a+(P 0).b)*((P 1).a+(P 1).b):=λz=>hg (by rw[z];exact⟨Nat.mul_mod_right _ _,Nat.mul_mod_left _ _⟩)
   obtain⟨Y,q1,q2,q3,q4,q5⟩:=ZDJ hP (s0:=s0) (s2:=s2) (s3:=s3) (s4:=s4) (s5:=s5) (s6:=s6) (s8:=s8) (s9:=s9) (s10:=s10) (s11:=s11) (G:=G) n (y+1) (by lia) (by lia) (by lia) (λz hz hz2=>by
    by_cases e:z=y
    ·rw[e];exact hg
    ·exact h4 z hz (by lia))
   refine⟨Y,q1,q2,q3,q4,?_⟩;have ht:Kr [s0,vB (.fl [(P 0).enc,(P 1).enc]),s2,s3,s4,s5,s6,vB (.int y),s8,s9,s10,s11] G=.ok vD G:=by
    unfold gd at hg;unfold Pr.enc Kr;by_cases g0:y%((P 0).a+(P 0).b)=0
    ·have g1:¬((y%((P 1).a+(P 1).b):Nat):Int)=0:=λz=>hg ⟨g0,by lia⟩
     rw[g0]at e0;generalize y%((P 1).a+(P 1).b)=u at*;have g2:¬u=0:=by lia
     simp[p0,p1,e0,e1,g2]
    ·have g1:¬((y%((P 0).a+(P 0).b):Nat):Int)=0:=by lia
     generalize y%((P 0).a+(P 0).b)=u at*;have g2:¬u=0:=by lia
     simp[p0,p1,e0,g2]
   have hb:Rg [s0,vB (.fl [(P 0).enc,(P 1).enc]),s2,s3,s4,s5,s6,vB (.int y),s8,s9,s10,s11] G=.nx [s0,vB (.fl [(P 0).enc,(P 1).enc]),s2,s3,s4,s5,s6,vB (.int ((y+1:Nat):Int)),s8,s9,s10,s11] G:=by unfold Rg;simp
   unfold sWh;rw[ht];simp only[R.Dk,if_true,hb,Eb];exact q5
theorem mul100{a c:Nat}(ha:a<=5)(hb:b<=5)(hc:c<=5)(hd:d<=5):(a+b)*(c+d)<=100:=Nat.mul_le_mul (show a+b<=10 by lia) (show c+d<=10 by lia)
section
variable{P:Nat->Pr}{od:List Nat}
theorem ZLi(h:v%((P (k/2)).a+(P (k/2)).b)=w%((P (k/2)).a+(P (k/2)).b)):Bc P v k=Bc P w k:=by unfold Bc;simp only[h]
theorem ZIy(o:OrdOk od)(hP:∀j,(P j).Ok)(h1:1<=Y)(hg:gd P Y):SW59 P od Y∈sts (SW59 P od) Y:=by
 have e:SW59 P od Y=SW59 P od 0:=by
  rw[R6 o hP,R6 o hP]
  congr 3
  refine congrArg D.tup (qQ λk hk=>congrArg D.tup (ZLi ?_));obtain⟨j,hj,rfl⟩:=qK hk;have hj4:j<4:=by rw[<-o.len];exact hj
  have e0:od[j]=od.getD j 0:=by simp[zA,zZ hj]
  have hk4:od[j]<4:=by rw[e0];exact o.lt j hj4
  rcases(by lia:od[j]/2=0∨od[j]/2=1)with z|z<;>rw[z,Nat.zero_mod]
  ·exact hg.1
  ·exact hg.2
 rw[e];exact zF.mpr ⟨0,qY.mpr (by lia),rfl⟩
theorem ZKo(o:OrdOk od)(hP:∀j,(P j).Ok)(hmin:∀z,1<=z->z<Y->¬gd P z)(hw:w<Y):SW59 P od w∉sts (SW59 P od) w:=λhm=>by
 obtain⟨v,hv,e⟩:=zF.mp hm;have hv':=qY.mp hv;have hk:=ZNO o hP e;have m0:=ZFo (P:=P) 0 hP (hk 0 (by lia)) (hk 1 (by lia));have m1:=ZFo (P:=P) 1 hP (hk 2 (by lia)) (hk 3 (by lia));refine hmin (w-v) (by lia) (by lia) ⟨?_,?_⟩
 ·exact Nat.sub_mod_eq_zero_of_mod_eq m0.symm
 ·exact Nat.sub_mod_eq_zero_of_mod_eq m1.symm
end
section
variable{P:Nat->Pr}{od:List Nat}
theorem ZBc:okD 30 (SW59 P od w)=vD:=by
 unfold SW59 stD;refine K4 (n:=29) λd hd=>?_
 simp only[zw,List.not_mem_nil,or_false]at hd;rcases hd with rfl|rfl
 ·refine K4 (n:=28) λd hd=>?_
  unfold tab at hd;obtain⟨i,_,rfl⟩:=zF.mp hd
  rfl
 ·refine K4 (n:=28) λd hd=>?_
  unfold Cw at hd;obtain⟨i,_,rfl⟩:=zF.mp hd;refine K4 (n:=27) λd hd=>?_
  unfold tab at hd;obtain⟨i,_,rfl⟩:=zF.mp hd
  rfl
theorem yr59(o:OrdOk od)(hP:∀j,(P j).Ok):Yr (h59 P od).enc (.fl [.tup [.int 0,.int 0,.int 0,.int 0]]) (SW59 P od):=λw G=>by have:=ZIJ (good59 o hP) (rnd59 o hP) rfl (per59 o hP) w G;rw[Ey o]at this;exact this
theorem ZFR(o:OrdOk od)(hP:∀j,(P j).Ok)(ho:∀k∈od,k<4)(hG:G[i]?=vB (.lst (Ak od))):∀(m w:Nat),
  Ed (gV 0) Ci Qz [vC,vB (.fl [(P 0).enc,(P 1).enc]),vB (.ref i)] (Do w m) G=.ok ((List.range' w m).map (SW59 P od)) G
 |0,w=>by rw[ZBn,ZHr];rfl
 |m+1,w=>by
  have ih:=ZFR o hP ho hG m (w+1);have hs:=ZOe hP (w:=w) ho o.len hG;rw[<-R6 o hP]at hs;have he:Qz [vB (.int w),vB (.fl [(P 0).enc,(P 1).enc]),vB (.ref i)] G=.ok (SW59 P od w) G:=by unfold Qz;simp[hs]
  have e1:((w:Int)+1)=((w+1:Nat):Int):=by lia
  rw[ZFn,Xa];simp only[Ea,R.Hr,qS,Z3,if_true,he];rw[e1,ih]
  rfl
theorem ZMt{n:Nat}:okD 30 (.fl (sts (SW59 P od) n))=vD:=by
 refine ZLD (n:=29) λd hd=>?_
 obtain⟨w,_,rfl⟩:=zF.mp hd;have e:SW59 P od w=.tup [.tup (tab 4 λ_=>0),.tup (Cw 4 (Bw (toP od) (dP P od) (pP P od) (eP P od) (cP P od) w))]:=rfl;rw[e];refine K4 (n:=28) λd hd=>?_
 simp only[zw,List.not_mem_nil,or_false]at hd;rcases hd with rfl|rfl
 ·refine K4 (n:=27) λd hd=>?_
  unfold tab at hd;obtain⟨i,_,rfl⟩:=zF.mp hd
  rfl
 ·refine K4 (n:=27) λd hd=>?_
  unfold Cw at hd;obtain⟨i,_,rfl⟩:=zF.mp hd;refine K4 (n:=26) λd hd=>?_
  unfold tab at hd;obtain⟨i,_,rfl⟩:=zF.mp hd
  rfl
theorem ZK6(o:OrdOk od)(hP:∀j,(P j).Ok)(ho:∀k∈od,k<4)(y1:1<=Y)(y2:Y<=100)(hg:gd P Y)(hmin:∀z,1<=z->z<Y->¬gd P z)(hG:G[0]?=vB (.lst (Ak od))){s4:Option D}:
  Zt [s0,vB (.fl [(P 0).enc,(P 1).enc]),s2,vB (.ref 0),s4,s5,vB (h59 P od).enc,vB (.int Y),s8,s9,s10,s11] G=.rt (.bl vD) G:=by
 have hb:∀w m,bel m (SW59 P od w)=vD:=λw m=>ZH6
 have h0:∀G,Ah (h59 P od).enc (.int 0) G=.ok (.int 1) G:=λG=>ZGJ
 have h1:∀G,Dc [.fl [.tup [.int 0,.int 0,.int 0,.int 0]]] G=.ok (.int 1) G:=λG=>by simp
 have hnew:∀w,w<Y->SW59 P od w∉sts (SW59 P od) w:=λw hw=>ZKo o hP hmin hw
 have hag:=ZIy o hP y1 hg;have ev1:=ZEs (yr59 o hP) (λ_=>ZBc) hb h0 h1 (Y:=Y) (by lia) hnew hag (most:=100) (by lia) G;have ev2:=ZEs (yr59 o hP) (λ_=>ZBc) hb h0 h1 (Y:=Y) (by lia) hnew hag (most:=(Y:Int)) (by lia) G;have lg:=ZIH (yr59 o hP) (λ_=>ZBc) hb h0 h1 (M:=Y-1) (by lia) (λw hw=>hnew w (by lia)) G;have eM:(((Y-1:Nat):Nat):Int)=(Y:Int)-1:=by lia
 rw[eM]at lg;have dc:=ZFR o hP ho hG (Y+1) 0;have es:(List.range' 0 (Y+1)).map (SW59 P od)=sts (SW59 P od) (Y+1):=by unfold sts;rw[List.range_eq_range']
 rw[es]at dc;have dc':Ed (gV 0) Ci Qz [vC,vB (.fl [(P 0).enc,(P 1).enc]),vB (.ref 0)] (Do 0 (Y+1)) G=.ok (sts (SW59 P od) (Y+1)) G:=dc;have hr:inR ((Y:Int)+1):=O8 (by lia) (by lia);have en:((Y:Int)+1).toNat=Y+1:=by lia
 have ll:(sts (SW59 P od) (Y+1)).length<=1000000:=by rw[Vc];lia
 have fz:freeze G (.ok (.ref G.length) (G++[.lst (sts (SW59 P od) (Y+1))]))=.ok (.fl (sts (SW59 P od) (Y+1))) G:=H8 (Rp hb);have a0:atI (sts (SW59 P od) (Y+1)) 0=vB (SW59 P od 0):=Er (k:=0) rfl (by
  unfold sts;rw[zq,zP (by lia)]
  rfl)
 have ne:∀G,Gx (.fl (sts (SW59 P od) (Y+1))) (.fl (sts (SW59 P od) (Y+1))) G=.ok (.bl vE) G:=λG=>ZLu ZMt
 have f9:freeze G (.ok (.ref G.length) (G++[.lst [.tup [.int 0,.int 0,.int 0,.int 0]]]))=.ok (.fl [.tup [.int 0,.int 0,.int 0,.int 0]]) G:=H8 rfl;have hcs:∀a b c d e f g h i j k l:Option D,Bb 1 [1,3] [a,b,c,d,e,f,g,h,i,j,k,l]=[vC,b,d]:=λ_ _ _ _ _ _ _ _ _ _ _ _=>rfl
 generalize sts (SW59 P od) (Y+1)=ss at*;generalize(h59 P od).enc=H at*;generalize SW59 P od 0=S0 at*;unfold Zt ZC6 ZBz ZDR ZEo ZCh;simp[hr,en,hcs,dc',ll,fz,Aw,f9,a0,dfx,ev1,tyD,ne,ev2,lg]
end
theorem ZHH(hl:ns.length<=63):∃G,Lb [.fl (ns.map D.int)] []=.ok (.bl vD) G:=by
 obtain⟨f,hf⟩:=cells hl;obtain⟨p0,k0,c0⟩:=ZDx hl (b:=0) (by lia);obtain⟨p1,k1,c1⟩:=ZDx hl (b:=2) (by lia);have c0':∀G,Kv [.fl (ns.map D.int),.int 0] G=.ok p0.enc G:=c0;have c1':∀G,Kv [.fl (ns.map D.int),.int 2] G=.ok p1.enc G:=c1;have h4:∀G,Gn [.fl (ns.map D.int),.int 4] G=.ok (.int (f 4)) G:=hf 4 (by lia);let P:Nat->Pr:=λj=>if j=0 then p0 else p1
 have hP:∀j,(P j).Ok:=λj=>by
  show(if j=0 then p0 else p1).Ok;split
  ·exact k0
  ·exact k1
 have eP0:P 0=p0:=rfl;have eP1:P 1=p1:=rfl;obtain⟨a0,a1,a2,y2,y4,y5,l0,l1,l2,hL⟩:=ZHV (t:=f 4) (s0:=vB (.fl (ns.map D.int))) (s1:=vB (.fl [p0.enc,p1.enc])) (s4:=vC) (s5:=vC) (s6:=vC) (s7:=vC) (s8:=vC) (s9:=vC) (s10:=vC) (s11:=vC) (G:=[]);have o:=OrdOk.of (ZOY a0 l0 a1 l1 a2 l2);generalize odF a0 a1 a2=od at*;have ho:∀k∈od,k<4:=λk hk=>by obtain⟨j,hj,rfl⟩:=qK hk;have:=o.lt j (by rw[<-o.len];exact hj);rwa[zA,zZ hj]at this
 have hG:([DO.lst (Ak od)]:DH)[0]?=vB (.lst (Ak od)):=rfl;have hh:=ZG1 (P:=P) ho o.len (i:=0) (G:=[DO.lst (Ak od)]) (by simp) hG;rw[<-enc59 o,eP0,eP1]at hh;have m100:=mul100 (hP 0).a.2 (hP 0).b.2 (hP 1).a.2 (hP 1).b.2;have q0:=(hP 0).a.1;have q1:=(hP 1).a.1;have mpos:1<=((P 0).a+(P 0).b)*((P 1).a+(P 1).b):=Nat.mul_pos (by lia) (by lia);obtain⟨Y,r1,r2,r3,r4,hY⟩:=ZDJ hP (s0:=vB (.fl (ns.map D.int))) (s2:=y2) (s3:=vB (.ref 0)) (s4:=y4) (s5:=y5) (s6:=vB (h59 P od).enc) (s8:=vC) (s9:=vC) (s10:=vC) (s11:=vC) (G:=[DO.lst (Ak od)]) fuel 1 (by lia) mpos (by unfold fuel;lia) (λz h1 h2=>by lia)
 have ht:=ZK6 o hP ho r1 (by lia) r3 r4 hG (s0:=vB (.fl (ns.map D.int))) (s2:=y2) (s4:=y4) (s5:=y5) (s8:=vC) (s9:=vC) (s10:=vC) (s11:=vC);rw[eP0,eP1]at hY ht;have hY':sWh Kr Rg fuel [vB (.fl (ns.map D.int)),vB (.fl [p0.enc,p1.enc]),y2,vB (.ref 0),y4,y5,vB (h59 P od).enc,vB (.int 1),vC,vC,vC,vC] [DO.lst (Ak od)]=_:=hY;have hL':Bm (gV 4) Qg (Do 0 3) [vB (.fl (ns.map D.int)),vB (.fl [p0.enc,p1.enc]),vB (.int (f 4)),vB (.ref 0),vC,vC,vC,vC,vC,vC,vC,vC] [DO.lst [.int 0,.int 1,.int 2,.int 3]]=.nx [vB (.fl (ns.map D.int)),vB (.fl [p0.enc,p1.enc]),y2,vB (.ref 0),y4,y5,vC,vC,vC,vC,vC,vC] [DO.lst (Ak od)]:=hL
 have fz:freeze ([]:DH) (.ok (.ref 0) [.lst [p0.enc,p1.enc]])=.ok (.fl [p0.enc,p1.enc]) []:=H8 (G:=[]) (L:=[]) rfl;have tn:tidy ([]:DH) (.ok (.ref 0) [.lst [.int 0,.int 1,.int 2,.int 3]])=.ok (.ref 0) [.lst [.int 0,.int 1,.int 2,.int 3]]:=Fi (G:=[]) (L:=[]) rfl;have r3':inR (3:Int):=O8 (by lia) (by lia);have td:tidy ([]:DH) (.ok (.bl vD) [DO.lst (Ak od)])=.ok (.bl vD) []:=W2 (G:=[]) (L:=[DO.lst (Ak od)]) rfl
 refine⟨[],?_⟩;generalize(h59 P od).enc=H at*;generalize Ak od=W at*;generalize p0.enc=E0 at*;generalize p1.enc=E1 at*;unfold Lb ZEQ ZDs ZB1 ZB5 ZGE ZD1 ZFH;rw[Bh];simp[c0',c1',Aw,fz,h4,tn,r3',hL',hh,hY',ht,td]
theorem holds:Holds:=λns hl=>ZHH hl
end _W
namespace _W
open PySem _L _D
seal QE QT QA QS QSs QG QGs QI QTs QW QO
structure Txt (K:PySem.W.Frag) (mg:Str->Option xY):Prop where
 Ue:FT K mg "_law_off" ZBK ZAU
 Sd:FT K mg "_law_tape" ZBB Xh
 Mp:FT K mg "_law_cell_at" Wx ZBa
 Tw:FT K mg "_law_basin" ZBP ZAq
 W3:FT K mg "_law_house" Xj ZBj
 Ux:FT K mg "check_year" Y8 Xu
 R0:MT K "Course" "__init__" "Course.__init__" Qf ZBM
 Lk:MT K "Course" "send" "Course.send" Yq ZAg
 Qo:FT K mg "number_of" Xd Xo
 Qk:FT K mg "down_of" Ws Y5
 Kf:MT K "Course" "send_down" "Course.send_down" ZBU Wo
 Vl:FT K mg "opened" Yp Ym
 Vw:FT K mg "stairs_at" Za Xv
 Ql:MT K "Course" "go_basin" "Course.go_basin" ZAj Y0
 R3:FT K mg "passed" We Y7
 Ov:FT K mg "down_in_reach" Yl Xp
 Vz:FT K mg "reach_rows" ZBE ZAK
 V4:FT K mg "served" Qa ZAY
 Sv:FT K mg "way_down" ZAw X8
 Tc:FT K mg "shares" U9 Yv
 Oa:MT K "Course" "go_reach" "Course.go_reach" ZBN X5
 Rv:FT K mg "lasts_of_reaches" ZA9 ZBk
 Oj:MT K "Course" "go" "Course.go" Vn Wm
 Qq:MT K "Course" "state_behind" "Course.state_behind" Oz Zx
 Ug:FT K mg "turn" Yg Wu
 Ss:FT K mg "run" ZBR ZBm
 Nh:FT K mg "years_until_again" Zo Yn
 Mz:FTD K mg "ever" ZAR ZAc 100
 Ua:FT K mg "_law_long" Zk Z5
 Pj:FT K mg "_law_pair" ZA4 Yb
 Q5:FT K mg "_law_on_its_way" ZA0 Ye
 V7:FT K mg "_law_state" Ry Zv
 Rc:FT K mg "law" Gk ZAf
 Av:CT K mg "Course"
 Mv:NoAttr K (Af K "Course") "came"
 Qw:NoAttr K (Af K "Course") "coming"
 Ij:NoAttr K (Af K "Course") "house"
 T5:NoAttr K (Af K "Course") "levels"
 Km:NoAttr K (Af K "Course") "page"
 Vm:NoAttr K (Af K "Course") "reaches"
 Um:NoAttr K (Af K "Course") "year_turn"
 ZHF:mg "bool"=vC
 Mt:mg "enumerate"=vC
 ZIz:mg "int"=vC
 ZAS:mg "isinstance"=vC
 Hb:mg "len"=vC
 Qx:mg "list"=vC
 ZNB:mg "max"=vC
 Te:mg "min"=vC
 Pk:mg "range"=vC
 ZKL:mg "sorted"=vC
 Kg:mg "tuple"=vC
 Zz:mg "zip"=vC
 ZAy:mg "BRIM"=vB (.int 4 (Cr K "BRIM"))
 Wg:mg "DELAY"=vB (.int 3 (Cr K "DELAY"))
 ZBQ:mg "DOWN"=vB (.int 2 (Cr K "DOWN"))
 Nq:mg "KIND"=vB (.int 0 (Cr K "KIND"))
 Wj:mg "LIES"=vB (.int 5 (Cr K "LIES"))
 ZAx:mg "NAME"=vB (.int 1 (Cr K "NAME"))
 ZAe:mg "NEED"=vB (.int 4 (Cr K "NEED"))
 Hc:mg "PLACES"=vB (.int 1 (Cr K "PLACES"))
 Qs:mg "PUMP"=vB (.int 6 (Cr K "PUMP"))
 Wv:mg "PUMP_DELAY"=vB (.int 1 (Cr K "PUMP_DELAY"))
 ZA2:mg "PUMP_TO"=vB (.int 0 (Cr K "PUMP_TO"))
 ZBZ:mg "RANK"=vB (.int 5 (Cr K "RANK"))
 N6:mg "ROW_DOWN"=vB (.int 0 (Cr K "ROW_DOWN"))
 Wz:mg "ROW_NEED"=vB (.int 2 (Cr K "ROW_NEED"))
 Ww:mg "ROW_RANK"=vB (.int 3 (Cr K "ROW_RANK"))
 Z4:mg "ROW_WATER"=vB (.int 1 (Cr K "ROW_WATER"))
 Yd:mg "RULE"=vB (.int 5 (Cr K "RULE"))
 Yu:mg "SEA"=vB (.str "sea" (Cr K "SEA"))
 Vu:mg "YEAR"=vB (.int 0 (Cr K "YEAR"))
 Vf:MT K "TooLong" "__init__" "TooLong.__init__" ZAF ["self","most"]
 O4:ET K mg "TooLong" "most"
 Y9:XBase K mg "WaterError" (Af K "WaterError")
 Xb:mg "TooLong"=vB (.ref (Af K "TooLong"))
 Xq:takes K (Af K "TooLong") (Af K "TooLong")=vD
section
variable{P:xX}{w:xq}{K:PySem.W.Frag}{mg:Str->Option xY}{base:Heap}
theorem ZIo(T:Txt K mg):FnOk P w K mg base CX0 1 (De K (Af K "TooLong") "__init__") (Ax K (De K (Af K "TooLong") "__init__")) ["self","most"] (spI (Af K "TooLong") "most"):=
 ZJ2 (k:=0) T.Vf.F ZKu T.O4.X T.Y9 rfl (by decide +kernel) (by decide +kernel) rfl rfl rfl rfl (.inl rfl) (.inl rfl) (λ_=>⟨_,rfl⟩)
theorem ZH7(T:Txt K mg):FnO P w K mg base 1 "_law_off" ZAU O9:=by
 refine Bx T.Ue.F Q9 λcdv A outer s H E hr=>?_
 exact(Aj (Cy (ZMP ZBV Uo Ag (Aa 0) (Ar Qm Ag Ag)) (Aj (Az 0 Q9.nd (Ar Dz (Ar Cu (Ar Cu (Aa 0) (Ar Jq Ag (Aa 1))) Ag) Ag)) (Aj (Az 0 Q9.nd (Ar Dz (Ar Jq (Aa 0) (Aa 0)) Ag)) (Ao (Bs (Ar Dz (Ar Jq (Aa 0) (Ar Cu (Aa 0) (Aa 1))) Ag))))) Dw) (Aj (Gb PassesOwn.never rfl (ZAC rfl T.Pk (Ac (Aa 1) Ae)) (Ba 2 Q9.nd) (Ao (Az 0 Q9.nd (Ar Nj (Aa 0) (Ar Qm Ag Ag))))) (Ao (Bs (Ar Dz (Aa 0) (Ar Qm Ag Ag))))))
theorem ZOF(T:Txt K mg):FnO P w K mg base 1 "_law_tape" Xh Ma:=by
 refine Bx T.Sd.F ZIs λcdv A outer s H E hr=>?_
 exact(Ao (Bs (ZBi (Vy Va (Dl Gy rfl T.Hb Gq (Ac (Aa 0) Ae)) Ag (nomark _)) (ZAu (ZG8 (Vy Uo (Am An (Aa 0) Ag) Ag (nomark _)) (ZAu (Vy o_ge (Am An (Aa 0) Ag) (Ar Qm Ag Ag) (nomark _))))))))
theorem Z6(T:Txt K mg):FnO P w K mg base 2 "_law_cell_at" ZBa Gn:=by
 refine Bx T.Mp.F Rf λcdv A outer s H E hr=>?_
 exact(Aj (Cy (ZBr (Bv (ZOF T) T.Sd hr (Ac (Aa 0) Ae))) (Aj (Az 2 Rf.nd Ag) (Aj (Cy (Bt Uo (Ar Cu Ag (Ar Nj (Aa 1) Ag)) (Dl Gy rfl T.Hb Gq (Ac (Aa 0) Ae)) (nomark _)) (Ao (Az 2 Rf.nd (Am An (Aa 0) (Ar Cu Ag (Ar Nj (Aa 1) Ag))))) Dw) (Ao (Bs (Bv (ZH7 T) T.Ue hr (Ac (Aa 2) (Ac (Ar Dz (Aa 1) Ag) Ae))))))) Dw) (Aj (Cy (Bt Uo (Aa 1) (Dl Gy rfl T.Hb Gq (Ac (Aa 0) Ae)) (nomark _)) (Ao (Bs (Am An (Aa 0) (Aa 1)))) Dw) (Aj (Az 2 Rf.nd (Ar Dz (Ar Jq Ag (Ar Cu (Ar Jq (Aa 1) (Aa 1)) (Ar Jq Ag (Dl Gy rfl T.Hb Gq (Ac (Aa 0) Ae))))) Ag)) (Aj (Cy (Bt Va (Dl Gy rfl T.Hb Gq (Ac (Aa 0) Ae)) Ag (nomark _)) (Ao (Az 2 Rf.nd (Ar Cu (Aa 2) (Ar Dz (Ar Jq (Am An (Aa 0) (Ar Dz (Aa 1) (Dl Gy rfl T.Hb Gq (Ac (Aa 0) Ae)))) Ag) Ag)))) Dw) (Ao (Bs (Aa 2)))))))
theorem ZKn(T:Txt K mg):FnO P w K mg base 1 "_law_basin" ZAq U5:=by
 refine Bx T.Tw.F ZNl λcdv A outer s H E hr=>?_
 exact(Ao (Bs (Cz (Ac Gr (Ac (Aa 0) (Ac (Aa 1) (Ac (Aa 4) (Ac Ag (Ac (Cz (Ac (Cz (Ac Ag (Ac (Cz (Ac (Cz (Ac Ag (Ac (Aa 2) (Ac Gr Ae)))) Ae)) Ae))) Ae)) (Ac (Cz (Ac (Aa 3) (Ac (Aa 4) (Ac (Aa 2) Ae)))) Ae))))))))))
theorem ZOS(T:Txt K mg):FnO P w K mg base 2 "_law_house" ZBj W4:=by
 refine Bx T.W3.F Ji λcdv A outer s H E hr=>?_
 exact(Aj (Az 2 Ji.nd (Cg (Eh (Ac Gr (Ac Gr (Ac Gr (Ac Gr Ae))))))) (Aj (Az 3 Ji.nd (Ef (Eh Ae))) (Aj (Gb PassesOwn.never rfl (H9 (Aa 0)) (Ba 4 Ji.nd) (Aj (Fl (Am An (Aa 1) (Ar Nj (Aa 4) Ag)) (Dq rfl (Bg (Ba 5 Ji.nd) (Bg (Ba 6 Ji.nd) (Bg (Ba 7 Ji.nd) Dp))))) (Aj (Az 8 Ji.nd (Am An (Cg (Eh (Ac (Aa 5) (Ac (Aa 6) Ae)))) (Ar Dz (Aa 4) Ag))) (Ao (Fd (J6 PySem.F.slot_list_append PySem.F.type_list_append Kq (Aa 3) (Ac (Bv (ZKn T) T.Tw hr (Ac (Am An (Aa 2) (Aa 4)) (Ac Gr (Ac (Aa 7) (Ac (Am An (Aa 2) (Ar Fx (Ar Cu (Aa 4) Ag) (Ar Jq Ag (Ar Dz (Aa 4) Ag)))) (Ac (Aa 8) Ae)))))) Ae))))))) (Ao (Bs (Cz (Ac Ag (Ac (Ik Lh rfl T.Kg Lf (Ac (Aa 3) Ae)) Ae))))))))
theorem ZNY(T:Txt K mg):FnO P w K mg base 1 "check_year" Xu Td:=by
 refine Bx T.Ux.F ZO2 λcdv A outer s H E hr=>?_
 exact(Ao (Cy (Bt (Qp hr.units) (Dl Gy rfl T.Hb Gq (Ac (Aa 1) Ae)) (Am An (Aa 0) (Bp (v:=(.int 0)) rfl T.Vu ⟨_,rfl⟩ (λ_ _=>rfl))) (nomark _)) (Ao ZFY) Dw))
theorem ZOb(T:Txt K mg):MtO P w K mg base 1 "Course" "__init__" ZBM Oe:=by
 refine Bx T.R0.F ZBH λcdv A outer s H E hr=>?_
 exact(Aj (Fl (Aa 2) (Dq rfl (Bg (Ba 5 ZBH.nd) (Bg (Ba 6 ZBH.nd) Dp)))) (Aj (Kw T.Av.N T.Av.cl T.Ij (Aa 0) (Aa 1)) (Aj (Kw T.Av.N T.Av.cl T.T5 (Aa 0) (Aa 5)) (Aj (Kw T.Av.N T.Av.cl T.Um (Aa 0) (Ar Dz (Aa 3) (Am An (Aa 1) (Bp (v:=(.int 0)) rfl T.Vu ⟨_,rfl⟩ (λ_ _=>rfl))))) (Aj (Kw T.Av.N T.Av.cl T.Mv (Aa 0) (Jc rfl (Hk (dn:=(Aq Qf).names) (N0:=Tf) (N:=["cubes","ahead"]) (nt:=2) (caps:=[])) (ZDg rfl T.Zz (Ac (Aa 4) (Ac (Aa 6) Ae))) (λC s₀ H₀ ex=>(Dq rfl (Bg (Ba 0 (show(["cubes","ahead"]:List Str).Nodup by decide +kernel)) (Bg (Ba 1 (show(["cubes","ahead"]:List Str).Nodup by decide +kernel)) Dp)))) (Q4 (Ig (Fe (by decide)) (Ig (Fe (by decide)) Pa))) (λC s₀ H₀ ex=>Ie) (λC s₀ H₀ ex=>(Ar Cu (Aa 0) (Am An (Aa 1) Ag))))) (Aj (Kw T.Av.N T.Av.cl T.Qw (Aa 0) (Jc rfl (Hk (dn:=(Aq Qf).names) (N0:=Tf) (N:=["ahead"]) (nt:=1) (caps:=[])) (H9 (Aa 6)) (λC s₀ H₀ ex=>(Ba 0 (show(["ahead"]:List Str).Nodup by decide +kernel))) (Fe (by decide)) (λC s₀ H₀ ex=>Ie) (λC s₀ H₀ ex=>(Ef (Ar Cu (Cg (Ik (ZAa rfl) rfl T.Qx Q8 (Ac (Cg (ZFG (Aa 0) (ZFS Ag) ZCf)) Ae))) (Cg (Eh (Ac Ag Ae)))))))) (Aj (Kw T.Av.N T.Av.cl T.Km (Aa 0) (Ef (Ar ZCE (Eh (Ac Gm Ae)) (Dl Gy rfl T.Hb Gq (Ac (Aa 5) Ae))))) (Ao (Kw T.Av.N T.Av.cl T.Vm (Aa 0) (Ef (Eh Ae)))))))))))
theorem ZD8(T:Txt K mg):MtO P w K mg base 1 "Course" "send" ZAg Q7:=by
 refine Bx T.Lk.F ZJq λcdv A outer s H E hr=>?_
 exact(Ao (Cy (Bt (Gi hr.units) (Aa 2) Ag (nomark _)) (Ao (Th (Ds T.Av.N T.Av.cl T.Mv (Aa 0)) (Aa 1) (Aa 3) Od)) (Ao (Th (Am An (Ds T.Av.N T.Av.cl T.Qw (Aa 0)) (Aa 1)) (Ar Fx (Aa 2) Ag) (Aa 3) Od))))
theorem ZCn(T:Txt K mg):FnO P w K mg base 1 "number_of" Xo Oi:=by
 refine Bx T.Qo.F Xl λcdv A outer s H E hr=>?_
 exact(Aj (Gb PassesOwn.never rfl (Qt rfl T.Mt (Ac (Am An (Aa 0) (Bp (v:=(.int 1)) rfl T.Hc ⟨_,rfl⟩ (λ_ _=>rfl))) Ae)) (Dq rfl (Bg (Ba 2 Xl.nd) (Bg (Ba 3 Xl.nd) Dp))) (Ao (Cy (Bt (Gi hr.units) (Am An (Aa 3) (Bp (v:=(.int 1)) rfl T.ZAx ⟨_,rfl⟩ (λ_ _=>rfl))) (Aa 1) (nomark _)) (Ao (Bs (Aa 2))) Dw))) (Ao ZFY))
theorem ZEY(T:Txt K mg):FnO P w K mg base 2 "down_of" Y5 R1:=by
 refine Bx T.Qk.F ZF6 λcdv A outer s H E hr=>?_
 exact(Aj (Az 2 ZF6.nd (Am An (Am An (Am An (Aa 0) (Bp (v:=(.int 1)) rfl T.Hc ⟨_,rfl⟩ (λ_ _=>rfl))) (Aa 1)) (Bp (v:=(.int 2)) rfl T.ZBQ ⟨_,rfl⟩ (λ_ _=>rfl)))) (Aj (Cy (Bt (Gi hr.units) (Aa 2) (Bp (v:=(.str "sea")) rfl T.Yu ⟨_,rfl⟩ (λ_ _=>rfl)) (nomark _)) (Ao (Bs Gm)) Dw) (Ao (Bs (Bv (ZCn T) T.Qo hr (Ac (Aa 0) (Ac (Aa 2) Ae)))))))
theorem ZCg(T:Txt K mg):MtO P w K mg base 3 "Course" "send_down" Wo R7:=by
 refine Bx T.Kf.F ZEK λcdv A outer s H E hr=>?_
 exact(Aj (Az 3 ZEK.nd (Bv (ZEY T) T.Qk hr (Ac (Ds T.Av.N T.Av.cl T.Ij (Aa 0)) (Ac (Aa 1) Ae)))) (Ao (Cy (Bt Qy (Aa 3) Gm (nomark _)) (Ao (Fd (O7 T.Av.N T.Av.cl T.Lk.me (ZD8 T) (hr.mono (by decide)) T.Lk.b pass0 (Aa 0) (Ac (Aa 3) (Ac (Am An (Am An (Am An (Ds T.Av.N T.Av.cl T.Ij (Aa 0)) (Bp (v:=(.int 1)) rfl T.Hc ⟨_,rfl⟩ (λ_ _=>rfl))) (Aa 1)) (Bp (v:=(.int 3)) rfl T.Wg ⟨_,rfl⟩ (λ_ _=>rfl))) (Ac (Aa 2) Ae)))))) Dw)))
theorem ZHW(T:Txt K mg):FnO P w K mg base 1 "opened" Ym Ul:=by
 refine Bx T.Vl.F Io λcdv A outer s H E hr=>?_
 exact(Aj (Az 2 Io.nd Ag) (Aj (Az 3 Io.nd Ag) (Aj (Gb PassesOwn.never rfl (H9 (Aa 0)) (Dq rfl (Bg (Ba 4 Io.nd) (Bg (Ba 5 Io.nd) (Bg (Ba 6 Io.nd) Dp)))) (Aj (Az 7 Io.nd (Dl (ZM3 rfl) rfl T.ZNB ZM1 (Ac Ag (Ac (Dl (Yx rfl) rfl T.Te Vr (Ac (Aa 5) (Ac (Ar Fx (Aa 1) (Aa 4)) Ae))) Ae)))) (Ao (Cy (Bt (Gi hr.units) (Aa 6) Gr (nomark _)) (Ao (ZEn 2 Io.nd (Aa 7) Od)) (Ao (ZEn 3 Io.nd (Aa 7) Od)))))) (Ao (Bs (Cz (Ac (Aa 2) (Ac (Aa 3) (Ac (Ar Fx (Ar Fx (Aa 1) (Aa 2)) (Aa 3)) Ae)))))))))
theorem ZLp(T:Txt K mg):FnO P w K mg base 1 "stairs_at" Xv Ud:=by
 refine Bx T.Vw.F Rb λcdv A outer s H E hr=>?_
 exact(Aj (Az 2 Rb.nd (Cz Ae)) (Aj (Gb PassesOwn.never rfl (H9 (Aa 0)) (Dq rfl (Bg (Ba 3 Rb.nd) (Bg (Ba 4 Rb.nd) Dp))) (Ao (Cy (Bt ZBV (Aa 3) (Aa 1) (nomark _)) (Ao (Az 2 Rb.nd (Aa 4))) Dw))) (Ao (Bs (Aa 2)))))
theorem ZM9(T:Txt K mg):MtO P w K mg base 4 "Course" "go_basin" Y0 Wb:=by
 refine Bx T.Ql.F K1 λcdv A outer s H E hr=>?_
 exact(Aj (Az 2 K1.nd (Am An (Am An (Ds T.Av.N T.Av.cl T.Ij (Aa 0)) (Bp (v:=(.int 1)) rfl T.Hc ⟨_,rfl⟩ (λ_ _=>rfl))) (Aa 1))) (Aj (Az 3 K1.nd (Am An (Ds T.Av.N T.Av.cl T.Mv (Aa 0)) (Aa 1))) (Aj (Fl (Bv (ZHW T) T.Vl hr (Ac (Bv (ZLp T) T.Vw hr (Ac (Am An (Aa 2) (Bp (v:=(.int 5)) rfl T.Yd ⟨_,rfl⟩ (λ_ _=>rfl))) (Ac (Ds T.Av.N T.Av.cl T.Um (Aa 0)) Ae))) (Ac (Ar Cu (Am An (Ds T.Av.N T.Av.cl T.T5 (Aa 0)) (Aa 1)) (Aa 3)) Ae))) (Dq rfl (Bg (Ba 4 K1.nd) (Bg (Ba 5 K1.nd) (Bg (Ba 6 K1.nd) Dp))))) (Aj (Az 7 K1.nd (Dl (Yx rfl) rfl T.Te Vr (Ac (Aa 6) (Ac (Am An (Aa 2) (Bp (v:=(.int 4)) rfl T.ZAy ⟨_,rfl⟩ (λ_ _=>rfl))) Ae)))) (Aj (Az 8 K1.nd (Ar Fx (Aa 6) (Aa 7))) (Aj (Fl (Cz (Ac (Aa 3) (Ac Ag (Ac (Aa 8) (Ac (Aa 4) (Ac (Aa 5) (Ac (Aa 7) Ae))))))) (Ja (Ds T.Av.N T.Av.cl T.Km (Aa 0)) (Aa 1))) (Aj (Fd (O7 T.Av.N T.Av.cl T.Kf.me (ZCg T) (hr.mono (by decide)) T.Kf.b pass0 (Aa 0) (Ac (Aa 1) (Ac (Ar Cu (Aa 4) (Aa 8)) Ae)))) (Ao (Cy (Bt Qy (Am An (Aa 2) (Bp (v:=(.int 6)) rfl T.Qs ⟨_,rfl⟩ (λ_ _=>rfl))) Gm (nomark _)) (Ao (Fd (O7 T.Av.N T.Av.cl T.Lk.me (ZD8 T) (hr.mono (by decide)) T.Lk.b pass0 (Aa 0) (Ac (Bv (ZCn T) T.Qo hr (Ac (Ds T.Av.N T.Av.cl T.Ij (Aa 0)) (Ac (Am An (Am An (Aa 2) (Bp (v:=(.int 6)) rfl T.Qs ⟨_,rfl⟩ (λ_ _=>rfl))) (Bp (v:=(.int 0)) rfl T.ZA2 ⟨_,rfl⟩ (λ_ _=>rfl))) Ae))) (Ac (Am An (Am An (Aa 2) (Bp (v:=(.int 6)) rfl T.Qs ⟨_,rfl⟩ (λ_ _=>rfl))) (Bp (v:=(.int 1)) rfl T.Wv ⟨_,rfl⟩ (λ_ _=>rfl))) (Ac (Aa 5) Ae)))))) Dw)))))))))
theorem ZDU(T:Txt K mg):FnO P w K mg base 1 "passed" Y7 M5:=by
 refine Bx T.R3.F Uq λcdv A outer s H E hr=>?_
 exact(Aj (ZB6 2 rfl Uq.nd (Hk (dn:=(Aq We).names) (N0:=Z8) (N:=["row","take"]) (nt:=2) (caps:=[])) (ZDg rfl T.Zz (Ac (Aa 0) (Ac (Aa 1) Ae))) (λC s₀ H₀ ex=>(Dq rfl (Bg (Ba 0 (show(["row","take"]:List Str).Nodup by decide +kernel)) (Bg (Ba 1 (show(["row","take"]:List Str).Nodup by decide +kernel)) Dp)))) (Q4 (Ig (Fe (by decide)) (Ig (Fe (by decide)) Pa))) (λC s₀ H₀ ex=>Ie) (λC s₀ H₀ ex=>(Ar Fx (Am An (Aa 0) (Bp (v:=(.int 1)) rfl T.Z4 ⟨_,rfl⟩ (λ_ _=>rfl))) (Aa 1)))) (Aj (Gb PassesOwn.never rfl (Qt rfl T.Mt (Ac (Aa 0) Ae)) (Dq rfl (Bg (Ba 4 Uq.nd) (Bg (Ba 3 Uq.nd) Dp))) (Ao (Cy (Bt Qy (Am An (Aa 3) (Bp (v:=(.int 0)) rfl T.N6 ⟨_,rfl⟩ (λ_ _=>rfl))) Gm (nomark _)) (Ao (Th (Aa 2) (Am An (Aa 3) (Bp (v:=(.int 0)) rfl T.N6 ⟨_,rfl⟩ (λ_ _=>rfl))) (Am An (Aa 2) (Aa 4)) Od)) Dw))) (Ao (Bs (Aa 2)))))
theorem ZDH(T:Txt K mg):FnO P w K mg base 3 "down_in_reach" Xp Pu:=by
 refine Bx T.Ov.F ZBC λcdv A outer s H E hr=>?_
 exact(Aj (Az 2 ZBC.nd (Am An (Aa 0) (Bp (v:=(.int 1)) rfl T.Hc ⟨_,rfl⟩ (λ_ _=>rfl)))) (Aj (Az 3 ZBC.nd (Bv (ZEY T) T.Qk hr (Ac (Aa 0) (Ac (Aa 1) Ae)))) (Aj (Cy (Rm (R8 (Bt o_is (Aa 3) Gm (nomark _)) (Tj (Bt Va (Am An (Am An (Aa 2) (Aa 1)) (Bp (v:=(.int 3)) rfl T.Wg ⟨_,rfl⟩ (λ_ _=>rfl))) Ag (nomark _))))) (Ao (Bs Gm)) Dw) (Aj (Cy (Rm (R8 (Bt (Gi hr.units) (Am An (Am An (Aa 2) (Aa 1)) (Bp (v:=(.int 0)) rfl T.Nq ⟨_,rfl⟩ (λ_ _=>rfl))) Gr (nomark _)) (Tj (Bt (Gi hr.units) (Am An (Am An (Aa 2) (Aa 3)) (Bp (v:=(.int 0)) rfl T.Nq ⟨_,rfl⟩ (λ_ _=>rfl))) Gr (nomark _))))) (Ao (Bs Gm)) Dw) (Ao (Bs (Aa 3)))))))
theorem ZNg(T:Txt K mg):FnO P w K mg base 4 "reach_rows" ZAK Vd:=by
 refine Bx T.Vz.F N8 λcdv A outer s H E hr=>?_
 exact(Aj (Az 3 N8.nd (Ef (Eh Ae))) (Aj (Gb PassesOwn.never rfl (H9 (Aa 1)) (Ba 4 N8.nd) (Aj (Az 5 N8.nd (Am An (Am An (Aa 0) (Bp (v:=(.int 1)) rfl T.Hc ⟨_,rfl⟩ (λ_ _=>rfl))) (Aa 4))) (Aj (Az 6 N8.nd (Bv (ZDH T) T.Ov hr (Ac (Aa 0) (Ac (Aa 4) Ae)))) (Aj (Az 7 N8.nd (ZNP (Bt o_is (Aa 6) Gm (nomark _)) Gm (J6 PySem.F.slot_list_index PySem.F.type_list_index ZKK (Aa 1) (Ac (Aa 6) Ae)))) (Ao (Cy (Bt (Gi hr.units) (Am An (Aa 5) (Bp (v:=(.int 0)) rfl T.Nq ⟨_,rfl⟩ (λ_ _=>rfl))) Gr (nomark _)) (Ao (Fd (J6 PySem.F.slot_list_append PySem.F.type_list_append Kq (Aa 3) (Ac (Cz (Ac (Aa 7) (Ac (Am An (Aa 2) (Aa 4)) (Ac (Am An (Aa 5) (Bp (v:=(.int 4)) rfl T.ZAe ⟨_,rfl⟩ (λ_ _=>rfl))) (Ac (Am An (Aa 5) (Bp (v:=(.int 5)) rfl T.ZBZ ⟨_,rfl⟩ (λ_ _=>rfl))) Ae))))) Ae)))) (Ao (Fd (J6 PySem.F.slot_list_append PySem.F.type_list_append Kq (Aa 3) (Ac (Cz (Ac (Aa 7) (Ac (Am An (Aa 2) (Aa 4)) (Ac Ag (Ac Ag Ae))))) Ae)))))))))) (Ao (Bs (Aa 3)))))
theorem ZMA(T:Txt K mg):FnO P w K mg base 1 "served" ZAY Tn:=by
 refine Bx T.V4.F ZEw λcdv A outer s H E hr=>?_
 exact(Aj (Az 1 ZEw.nd (Cg (Dl ZHi rfl T.ZKL ZJo (Ac (Cg (Jc rfl (Hk (dn:=(Aq Qa).names) (N0:=S9) (N:=["number","row"]) (nt:=2) (caps:=[])) (Qt rfl T.Mt (Ac (Aa 0) Ae)) (λC s₀ H₀ ex=>(Dq rfl (Bg (Ba 0 (show(["number","row"]:List Str).Nodup by decide +kernel)) (Bg (Ba 1 (show(["number","row"]:List Str).Nodup by decide +kernel)) Dp)))) (Q4 (Ig (Fe (by decide)) (Ig (Fe (by decide)) Pa))) (λC s₀ H₀ ex=>Ie) (λC s₀ H₀ ex=>(Cz (Ac (Am An (Aa 1) (Bp (v:=(.int 3)) rfl T.Ww ⟨_,rfl⟩ (λ_ _=>rfl))) (Ac (Aa 0) Ae)))))) Ae)))) (Ao (Bs (Jc rfl (Hk (dn:=(Aq Qa).names) (N0:=S9) (N:=["rank","number"]) (nt:=2) (caps:=[])) (H9 (Aa 1)) (λC s₀ H₀ ex=>(Dq rfl (Bg (Ba 0 (show(["rank","number"]:List Str).Nodup by decide +kernel)) (Bg (Ba 1 (show(["rank","number"]:List Str).Nodup by decide +kernel)) Dp)))) (Q4 (Ig (Fe (by decide)) (Ig (Fe (by decide)) Pa))) (λC s₀ H₀ ex=>Ie) (λC s₀ H₀ ex=>(Aa 1))))))
theorem ZNu(T:Txt K mg):FnO P w K mg base 1 "way_down" X8 Sg:=by
 refine Bx T.Sv.F V6 λcdv A outer s H E hr=>?_
 exact(Aj (Az 2 V6.nd (Ef (Eh (Ac (Aa 1) Ae)))) (Aj (Az 3 V6.nd (Am An (Am An (Aa 0) (Aa 1)) (Bp (v:=(.int 0)) rfl T.N6 ⟨_,rfl⟩ (λ_ _=>rfl)))) (Aj (ZBG fuel PassesOwn.never (Bt Qy (Aa 3) Gm (nomark _)) (Aj (Fd (J6 PySem.F.slot_list_append PySem.F.type_list_append Kq (Aa 2) (Ac (Aa 3) Ae))) (Ao (Az 3 V6.nd (Am An (Am An (Aa 0) (Aa 3)) (Bp (v:=(.int 0)) rfl T.N6 ⟨_,rfl⟩ (λ_ _=>rfl))))))) (Ao (Bs (Aa 2))))))
theorem ZOd(T:Txt K mg):FnO P w K mg base 2 "shares" Yv Uc:=by
 refine Bx T.Tc.F Ka λcdv A outer s H E hr=>?_
 exact(Aj (Az 1 Ka.nd (Ef (Ar ZCE (Eh (Ac Ag Ae)) (Dl Gy rfl T.Hb Gq (Ac (Aa 0) Ae))))) (Aj (Az 2 Ka.nd (Ef (Bv (ZDU T) T.R3 hr (Ac (Aa 0) (Ac (Aa 1) Ae))))) (Aj (Gb PassesOwn.never rfl (H9 (Cg (Bv (ZMA T) T.V4 hr (Ac (Aa 0) Ae)))) (Ba 3 Ka.nd) (Aj (Az 4 Ka.nd (Cg (Bv (ZNu T) T.Sv hr (Ac (Aa 0) (Ac (Aa 3) Ae))))) (Aj (Az 5 Ka.nd (Dl (Yx rfl) rfl T.Te Vr (Ac (Am An (Am An (Aa 0) (Aa 3)) (Bp (v:=(.int 2)) rfl T.Wz ⟨_,rfl⟩ (λ_ _=>rfl))) (Ac (Dl (ZNL rfl) rfl T.Te Vr (Ac (Cg (Jc rfl (Hk (dn:=(Aq U9).names) (N0:=Zd) (N:=["below","passing"]) (nt:=1) (caps:=[2])) (H9 (Aa 4)) (λC s₀ H₀ ex=>(Ba 0 (show(["below","passing"]:List Str).Nodup by decide +kernel))) (Fe (by decide)) (λC s₀ H₀ ex=>Ie) (λC s₀ H₀ ex=>(Am An (Aa 1) (Aa 0))))) Ae)) Ae)))) (Aj (Fl (Aa 5) (Ja (Aa 1) (Aa 3))) (Ao (Gb PassesOwn.never rfl (H9 (Aa 4)) (Ba 6 Ka.nd) (Ao (Th (Aa 2) (Aa 6) (Aa 5) ZIk)))))))) (Ao (Bs (Aa 1))))))
theorem ZHR(T:Txt K mg):MtO P w K mg base 5 "Course" "go_reach" X5 V1:=by
 refine Bx T.Oa.F Mm λcdv A outer s H E hr=>?_
 exact(Aj (Az 2 Mm.nd (Cg (Bv (ZNg T) T.Vz hr (Ac (Ds T.Av.N T.Av.cl T.Ij (Aa 0)) (Ac (Aa 1) (Ac (Ds T.Av.N T.Av.cl T.Mv (Aa 0)) Ae)))))) (Aj (Az 3 Mm.nd (Cg (Bv (ZOd T) T.Tc hr (Ac (Aa 2) Ae)))) (Aj (Gb PassesOwn.never rfl (ZHC rfl T.Zz (Ac (Aa 1) (Ac (Aa 3) (Ac (Cg (Bv (ZDU T) T.R3 hr (Ac (Aa 2) (Ac (Aa 3) Ae)))) Ae)))) (Dq rfl (Bg (Ba 4 Mm.nd) (Bg (Ba 5 Mm.nd) (Bg (Ba 6 Mm.nd) Dp)))) (Aj (Fl (Cz (Ac (Ar Cu (Aa 5) (Aa 6)) (Ac (Aa 5) (Ac Ag (Ac (Aa 6) (Ac Ag (Ac Ag Ae))))))) (Ja (Ds T.Av.N T.Av.cl T.Km (Aa 0)) (Aa 4))) (Ao (Cy (Bt (Gi hr.units) (Aa 4) (Am An (Aa 1) (My Ni Ag)) (nomark _)) (Ao (Fd (O7 T.Av.N T.Av.cl T.Kf.me (ZCg T) (hr.mono (by decide)) T.Kf.b pass0 (Aa 0) (Ac (Aa 4) (Ac (Aa 6) Ae))))) Dw)))) (Ao (Fd (J6 PySem.F.slot_list_append PySem.F.type_list_append Kq (Ds T.Av.N T.Av.cl T.Vm (Aa 0)) (Ac (Ef (Cz (Ac (Aa 1) (Ac (Aa 2) Ae)))) Ae)))))))
theorem ZN4(T:Txt K mg):FnO P w K mg base 4 "lasts_of_reaches" ZBk T3:=by
 refine Bx T.Rv.F Ui λcdv A outer s H E hr=>?_
 exact(Aj (Az 1 Ui.nd (Ef (ZKl rfl rfl T.Qx rfl T.Pk (Ac (Dl Gy rfl T.Hb Gq (Ac (Am An (Aa 0) (Bp (v:=(.int 1)) rfl T.Hc ⟨_,rfl⟩ (λ_ _=>rfl))) Ae)) Ae)))) (Aj (Gb PassesOwn.never rfl (ZGl rfl T.Pk (Ac (Ar Fx (Dl Gy rfl T.Hb Gq (Ac (Am An (Aa 0) (Bp (v:=(.int 1)) rfl T.Hc ⟨_,rfl⟩ (λ_ _=>rfl))) Ae)) Ag) (Ac (My Ni Ag) (Ac (My Ni Ag) Ae)))) (Ba 2 Ui.nd) (Aj (Az 3 Ui.nd (Bv (ZDH T) T.Ov hr (Ac (Aa 0) (Ac (Aa 2) Ae)))) (Ao (Cy (Bt Qy (Aa 3) Gm (nomark _)) (Ao (Fl (Am An (Aa 1) (Aa 3)) (Ja (Aa 1) (Aa 2)))) Dw)))) (Ao (Bs (Aa 1)))))
theorem ZN6(T:Txt K mg):MtO P w K mg base 6 "Course" "go" Wm V2:=by
 refine Bx T.Oj.F Vo λcdv A outer s H E hr=>?_
 exact(Aj (Az 1 Vo.nd (Cg (Bv (ZN4 T) T.Rv hr (Ac (Ds T.Av.N T.Av.cl T.Ij (Aa 0)) Ae)))) (Ao (Gb PassesOwn.never rfl (Qt rfl T.Mt (Ac (Aa 1) Ae)) (Dq rfl (Bg (Ba 2 Vo.nd) (Bg (Ba 3 Vo.nd) Dp))) (Ao (Cy (Bt (Gi hr.units) (Am An (Am An (Am An (Ds T.Av.N T.Av.cl T.Ij (Aa 0)) (Bp (v:=(.int 1)) rfl T.Hc ⟨_,rfl⟩ (λ_ _=>rfl))) (Aa 2)) (Bp (v:=(.int 0)) rfl T.Nq ⟨_,rfl⟩ (λ_ _=>rfl))) Gr (nomark _)) (Ao (Fd (O7 T.Av.N T.Av.cl T.Ql.me (ZM9 T) (hr.mono (by decide)) T.Ql.b pass0 (Aa 0) (Ac (Aa 2) Ae)))) (Ao (Cy (Bt (Gi hr.units) (Aa 3) (Aa 2) (nomark _)) (Ao (Fd (O7 T.Av.N T.Av.cl T.Oa.me (ZHR T) (hr.mono (by decide)) T.Oa.b pass0 (Aa 0) (Ac (Cg (Jc rfl (Hk (dn:=(Aq Vn).names) (N0:=Xi) (N:=["member","end","number"]) (nt:=2) (caps:=[2])) (Qt rfl T.Mt (Ac (Aa 1) Ae)) (λC s₀ H₀ ex=>(Dq rfl (Bg (Ba 0 (show(["member","end","number"]:List Str).Nodup by decide +kernel)) (Bg (Ba 1 (show(["member","end","number"]:List Str).Nodup by decide +kernel)) Dp)))) (Q4 (Ig (Fe (by decide)) (Ig (Fe (by decide)) Pa))) (λC s₀ H₀ ex=>(ZKO (Bt (Gi hr.units) (Aa 1) (Aa 2) (nomark _)))) (λC s₀ H₀ ex=>(Aa 0)))) Ae)))) Dw)))))))
theorem ZJl(T:Txt K mg):MtO P w K mg base 1 "Course" "state_behind" Zx Ti:=by
 refine Bx T.Qq.F ZNQ λcdv A outer s H E hr=>?_
 exact(Ao (Bs (Cz (Ac (Ik Lh rfl T.Kg Lf (Ac (Cg (Jc rfl (Hk (dn:=(Aq Oz).names) (N0:=Uv) (N:=["row"]) (nt:=1) (caps:=[])) (H9 (Ds T.Av.N T.Av.cl T.Km (Aa 0))) (λC s₀ H₀ ex=>(Ba 0 (show(["row"]:List Str).Nodup by decide +kernel))) (Fe (by decide)) (λC s₀ H₀ ex=>Ie) (λC s₀ H₀ ex=>(Am An (Aa 0) (Bp (v:=(.int 5)) rfl T.Wj ⟨_,rfl⟩ (λ_ _=>rfl)))))) Ae)) (Ac (Ik Lh rfl T.Kg Lf (Ac (Cg (Jc rfl (Hk (dn:=(Aq Oz).names) (N0:=Uv) (N:=["ahead"]) (nt:=1) (caps:=[])) (H9 (Ds T.Av.N T.Av.cl T.Qw (Aa 0))) (λC s₀ H₀ ex=>(Ba 0 (show(["ahead"]:List Str).Nodup by decide +kernel))) (Fe (by decide)) (λC s₀ H₀ ex=>Ie) (λC s₀ H₀ ex=>(Ik Lh rfl T.Kg Lf (Ac (Aa 0) Ae))))) Ae)) Ae)))))
theorem ZNK(T:Txt K mg):FnO P w K mg base 7 "turn" Wu Rx:=by
 refine Bx T.Ug.F ZFi λcdv A outer s H E hr=>?_
 exact(Aj (Az 4 ZFi.nd (ZK7 T.Av.N T.Av.mK (ZOb T) (hr.mono (by decide)) rfl T.Av.g T.R0.b pass0 (Ac (Aa 0) (Ac (Aa 1) (Ac (Aa 2) (Ac (Aa 3) Ae)))))) (Aj (Fd (ZCv T.Av.N T.Av.cl T.Oj.me (ZN6 T) (hr.mono (by decide)) T.Oj.b pass0 (Aa 4))) (Ao (Bs (Cz (Ac (Ik Lh rfl T.Kg Lf (Ac (Ds T.Av.N T.Av.cl T.Km (Aa 4)) Ae)) (Ac (ZCv T.Av.N T.Av.cl T.Qq.me (ZJl T) (hr.mono (by decide)) T.Qq.b pass0 (Aa 4)) Ae)))))))
theorem ZH0(T:Txt K mg):FnO P w K mg base 8 "run" ZBm O5:=by
 refine Bx T.Ss.F Nf λcdv A outer s H E hr=>?_
 exact(Aj (Az 4 Nf.nd (Ef (Eh Ae))) (Aj (Gb PassesOwn.never rfl (ZJp rfl T.Mt (Ac (Aa 3) Ae) (Aa 2)) (Dq rfl (Bg (Ba 5 Nf.nd) (Bg (Ba 6 Nf.nd) Dp))) (Aj (Fl (Bv (ZNK T) T.Ug hr (Ac (Aa 0) (Ac (Aa 1) (Ac (Aa 5) (Ac (Aa 6) Ae))))) (Dq rfl (Bg (Ba 7 Nf.nd) (Bg (Ba 1 Nf.nd) Dp)))) (Ao (Fd (J6 PySem.F.slot_list_append PySem.F.type_list_append Kq (Aa 4) (Ac (Aa 7) Ae)))))) (Ao (Bs (Cz (Ac (Aa 4) (Ac (Aa 1) Ae)))))))
theorem ZKH(T:Txt K mg):FnX P w K mg base 9 "years_until_again" Yn Kz:=by
 refine ZLR T.Nh.F Qh λcdv A outer s H E hr=>?_
 exact(Aj (Jr (Az 4 Qh.nd (Ef (Eh (Ac (Aa 1) Ae))))) (Aj (Jr (Az 5 Qh.nd (Ef (Eh Ae)))) (Aj (ZBG fuel ownX (Bt (ZGx hr.units) (Am An (Aa 4) (My Ni Ag)) (Cg (ZFG (Aa 4) ZCf (ZFS (My Ni Ag)))) (by with_unfolding_all rfl)) (Aj (Cy (Bt Va (Dl Gy rfl T.Hb Gq (Ac (Aa 4) Ae)) (Aa 3) (nomark _)) (Ao (ZJj T.O4 (ZIo T) T.Vf.b hr (Ac (Aa 3) Ae))) Dw) (Aj (Jr (Fl (Ef (Bv (ZH0 T) T.Ss hr (Ac (Aa 0) (Ac (Am An (Aa 4) (My Ni Ag)) (Ac Ag (Ac (Aa 2) Ae)))))) (Dq rfl (Bg (Ba 6 Qh.nd) (Bg (Ba 7 Qh.nd) Dp))))) (Aj (Jr (Fd (J6 PySem.F.slot_list_extend PySem.F.type_list_extend ZIl (Aa 5) (Ac (Aa 6) Ae)))) (Ao (Jr (Fd (J6 PySem.F.slot_list_append PySem.F.type_list_append Kq (Aa 4) (Ac (Aa 7) Ae))))))))) (Ao (Jr (Bs (Cz (Ac (Aa 4) (Ac (Aa 5) Ae)))))))))
theorem Z1(T:Txt K mg):FnX P w K mg base 10 "ever" ZAc Jg:=by
 refine ZKA T.Mz.F ZAd λcdv A outer s H E hr=>?_
 exact(Aj (Jr (Fd (Bv (ZNY T) T.Ux hr (Ac (Aa 0) (Ac (Aa 2) Ae))))) (Aj (Fl (Cg (ZGK (ZKH T) (hr.mono (by decide)) rfl T.Nh.m T.Nh.k T.Nh.b ZLo (Ac (Aa 0) (Ac (Aa 1) (Ac (Aa 2) (Ac (Aa 3) Ae)))))) (Dq rfl (Bg (Ba 4 ZAd.nd) (Bg (Ba 5 ZAd.nd) Dp)))) (Ao (Jr (Bs (Aa 4))))))
theorem ZMM(T:Txt K mg):FnO P w K mg base 11 "_law_long" Z5 Vx:=by
 refine Bx T.Ua.F T4 λcdv A outer s H E hr=>?_
 exact(Aj (Az 4 T4.nd Gm) (Aj (ZK9 T.O4.N T.Xq T.Xb (Z1 T) T.Mz hr (Ac (Aa 0) (Ac (Aa 1) (Ac (Aa 2) (Ac (Aa 3) Ae)))) T4.nd (λea hr=>(Ao (Az 4 T4.nd (ZKM T.O4 (Aa 5)))))) (Ao (Bs (Aa 4)))))
theorem ZD2(T:Txt K mg):FnO P w K mg base 3 "_law_pair" Yb Kv:=by
 refine Bx T.Pj.F Wk λcdv A outer s H E hr=>?_
 exact(Aj (Az 2 Wk.nd (Bv (Z6 T) T.Mp hr (Ac (Aa 0) (Ac (Aa 1) Ae)))) (Aj (Az 3 Wk.nd (Ar Cu Ag (Ar Dz (Bv (Z6 T) T.Mp hr (Ac (Aa 0) (Ac (Ar Cu (Aa 1) Ag) Ae))) (Ar Qm Ag Ag)))) (Ao (Bs (Cz (Ac (Ar Cu Ag (Ar Dz (Aa 2) Ag)) (Ac (Ar Cu Ag (Ar Dz (Ar Nj (Aa 2) Ag) Ag)) (Ac (Aa 3) Ae))))))))
theorem ZCY(T:Txt K mg):FnO P w K mg base 1 "_law_on_its_way" Ye K6:=by
 refine Bx T.Q5.F Np λcdv A outer s H E hr=>?_
 exact(Aj (Fl (Aa 0) (Dq rfl (Bg (Ba 2 Np.nd) (Bg (Ba 3 Np.nd) (Bg (Ba 4 Np.nd) Dp))))) (Aj (Az 5 Np.nd (Ef (Eh (Ac (Ef (Eh (Ac Ag (Ac Ag (Ac Ag (Ac Ag (Ac Ag Ae))))))) (Ac (Ef (Eh (Ac Ag (Ac Ag (Ac Ag (Ac Ag (Ac Ag Ae))))))) Ae))))) (Aj (Az 6 Np.nd (Ar Dz (Aa 1) (Ar Cu (Aa 2) (Aa 3)))) (Aj (Cy (Bt (Gi hr.units) (Aa 6) Ag (nomark _)) (Ao (Fl (Aa 4) (Ja (Am An (Aa 5) Ag) Ag))) (Ao (Cy (Bt ZBV (Aa 6) (Aa 2) (nomark _)) (Ao (Fl (Aa 4) (Ja (Am An (Aa 5) Ag) (Ar Fx (Aa 2) (Aa 6))))) (Ao (Fl (Aa 4) (Ja (Am An (Aa 5) Ag) (Ar Fx (Ar Cu (Aa 2) (Aa 3)) (Aa 6)))))))) (Ao (Bs (Aa 5)))))))
theorem ZM8(T:Txt K mg):FnO P w K mg base 2 "_law_state" Zv T6:=by
 refine Bx T.V7.F ZEa λcdv A outer s H E hr=>?_
 exact(Aj (Az 3 ZEa.nd (Cg (Ar Cu (Cg (Bv (ZCY T) T.Q5 hr (Ac (Am An (Aa 1) Ag) (Ac (Aa 2) Ae)))) (Cg (Bv (ZCY T) T.Q5 hr (Ac (Am An (Aa 1) Ag) (Ac (Aa 2) Ae))))))) (Ao (Bs (Cz (Ac (Cz (Ac Ag (Ac Ag (Ac Ag (Ac Ag Ae))))) (Ac (Ik Lh rfl T.Kg Lf (Ac (Cg (Jc rfl (Hk (dn:=(Aq Ry).names) (N0:=ZAm) (N:=["_law_k","_law_rows"]) (nt:=1) (caps:=[3])) (H9 (Aa 0)) (λC s₀ H₀ ex=>(Ba 0 (show(["_law_k","_law_rows"]:List Str).Nodup by decide +kernel))) (Fe (by decide)) (λC s₀ H₀ ex=>Ie) (λC s₀ H₀ ex=>(Ik Lh rfl T.Kg Lf (Ac (Am An (Aa 1) (Aa 0)) Ae))))) Ae)) Ae))))))
theorem ZJ9(T:Txt K mg):FnO P w K mg base 12 "law" ZAf Lb:=by
 refine Bx T.Rc.F Ga λcdv A outer s H E hr=>?_
 exact(Aj (Az 1 Ga.nd (Cg (Eh (Ac (Bv (ZD2 T) T.Pj hr (Ac (Aa 0) (Ac Ag Ae))) (Ac (Bv (ZD2 T) T.Pj hr (Ac (Aa 0) (Ac Ag Ae))) Ae))))) (Aj (Az 2 Ga.nd (Bv (Z6 T) T.Mp hr (Ac (Aa 0) (Ac Ag Ae)))) (Aj (Az 3 Ga.nd (Ef (Eh (Ac Ag (Ac Ag (Ac Ag (Ac Ag Ae))))))) (Aj (Gb PassesOwn.never rfl (ZAC rfl T.Pk (Ac Ag Ae)) (Ba 4 Ga.nd) (Aj (Az 5 Ga.nd (Ar Cu (Aa 4) (Ar Dz (Aa 2) (Ar Fx Ag (Aa 4))))) (Aj (Fl (Cz (Ac (Am An (Aa 3) (Aa 5)) (Ac (Am An (Aa 3) (Aa 4)) Ae))) (Dq rfl (Bg (Ja (Aa 3) (Aa 4)) (Bg (Ja (Aa 3) (Aa 5)) Dp)))) (Ao (Az 2 Ga.nd (Ar Nj (Aa 2) (Ar Fx Ag (Aa 4)))))))) (Aj (Az 6 Ga.nd (Bv (ZOS T) T.W3 hr (Ac (Aa 3) (Ac (Aa 1) Ae)))) (Aj (Az 7 Ga.nd Ag) (Aj (ZBG fuel PassesOwn.never (Rm (R8 (Bt (Qp hr.units) (Ar Dz (Aa 7) (Ar Cu (Am An (Am An (Aa 1) Ag) Ag) (Am An (Am An (Aa 1) Ag) Ag))) Ag (nomark _)) (Tj (Bt (Qp hr.units) (Ar Dz (Aa 7) (Ar Cu (Am An (Am An (Aa 1) Ag) Ag) (Am An (Am An (Aa 1) Ag) Ag))) Ag (nomark _))))) (Ao (Az 7 Ga.nd (Ar Cu (Aa 7) Ag)))) (Aj (ZHv (ZB6 8 rfl Ga.nd (Hk (dn:=(Aq Gk).names) (N0:=ZAW) (N:=["_law_when","_law_pairs","_law_order"]) (nt:=1) (caps:=[1,3])) (ZAC rfl T.Pk (Ac (Ar Cu (Aa 7) Ag) Ae)) (λC s₀ H₀ ex=>(Ba 0 (show(["_law_when","_law_pairs","_law_order"]:List Str).Nodup by decide +kernel))) (Fe (by decide)) (λC s₀ H₀ ex=>Ie) (λC s₀ H₀ ex=>(Bv (ZM8 T) T.V7 hr (Ac (Aa 2) (Ac (Aa 1) (Ac (Aa 0) Ae))))))) (Aj (Az 9 Ga.nd (Cg (Eh (Ac (Cz (Ac Ag (Ac Ag (Ac Ag (Ac Ag Ae))))) Ae)))) (Aj (Az 10 Ga.nd (ZIc (Z1 T) T.Mz hr (Ac (Aa 6) (Ac (Am An (Aa 8) Ag) (Ac (Cg (Ik (ZAa rfl) rfl T.Qx Q8 (Ac (Aa 9) Ae))) Ae))))) (Aj (Cy (Rm (R8 (ZHt (ZBr (Dl Yt rfl T.ZAS ZAr (Ac (Aa 10) (Ac (Yh rfl T.Qx Q8) Ae))))) (R8 (Bt (Qp hr.units) (Aa 10) (Aa 8) (nomark _)) (Tj (Bt (Qp hr.units) (ZHh (Z1 T) T.Mz hr (Ac (Aa 6) (Ac (Am An (Aa 8) Ag) (Ac (Cg (Ik (ZAa rfl) rfl T.Qx Q8 (Ac (Aa 9) Ae))) (Ac (Aa 7) Ae))))) (Aa 8) (nomark _)))))) (Ao (Bs ZMo)) Dw) (Aj (Az 11 Ga.nd (Bv (ZMM T) T.Ua hr (Ac (Aa 6) (Ac (Am An (Aa 8) Ag) (Ac (Aa 9) (Ac (Ar Fx (Aa 7) Ag) Ae)))))) (Ao (Bs (ZBi (Dl Yt rfl T.ZAS ZAr (Ac (Aa 11) (Ac (Yh rfl T.ZIz ZI2) Ae))) (ZBi (ZH5 (Dl Yt rfl T.ZAS ZAr (Ac (Aa 11) (Ac (Yh rfl T.ZHF ZLk) Ae)))) (ZAu (Vy (Gi hr.units) (Aa 11) (Ar Fx (Aa 7) Ag) (nomark _)))))))))))))))))))
end
def asks:List Ask:=[.cl "Course",.fn "_law_off" ZBK,.fn "_law_tape" ZBB,.fn "_law_cell_at" Wx,.fn "_law_basin" ZBP,.fn "_law_house" Xj,.fn "check_year" Y8,.mt "Course" "__init__" "Course.__init__" Qf,.mt "Course" "send" "Course.send" Yq,.fn "number_of" Xd,.fn "down_of" Ws,.mt "Course" "send_down" "Course.send_down" ZBU,.fn "opened" Yp,.fn "stairs_at" Za,.mt "Course" "go_basin" "Course.go_basin" ZAj,.fn "passed" We,.fn "down_in_reach" Yl,.fn "reach_rows" ZBE,.fn "served" Qa,.fn "way_down" ZAw,.fn "shares" U9,.mt "Course" "go_reach" "Course.go_reach" ZBN,.fn "lasts_of_reaches" ZA9,.mt "Course" "go" "Course.go" Vn,.mt "Course" "state_behind" "Course.state_behind" Oz,.fn "turn" Yg,.fn "run" ZBR,.fn "years_until_again" Zo,.fd "ever" ZAR 100,.fn "_law_long" Zk,.fn "_law_pair" ZA4,.fn "_law_on_its_way" ZA0,.fn "_law_state" Ry,.fn "law" Gk,.no "Course" "came",.no "Course" "coming",.no "Course" "house",.no "Course" "levels",.no "Course" "page",.no "Course" "reaches",.no "Course" "year_turn",.z "bool",.z "enumerate",.z "int",.z "isinstance",.z "len",.z "list",.z "max",.z "min",.z "range",.z "sorted",.z "tuple",.z "zip",.gi "BRIM" 4,.gi "DELAY" 3,.gi "DOWN" 2,.gi "KIND" 0,.gi "LIES" 5,.gi "NAME" 1,.gi "NEED" 4,.gi "PLACES" 1,.gi "PUMP" 6,.gi "PUMP_DELAY" 1,.gi "PUMP_TO" 0,.gi "RANK" 5,.gi "ROW_DOWN" 0,.gi "ROW_NEED" 2,.gi "ROW_RANK" 3,.gi "ROW_WATER" 1,.gi "RULE" 5,.gs "SEA" "sea",.gi "YEAR" 0,.mt "TooLong" "__init__" "TooLong.__init__" ZAF,.ck (ZBX "TooLong" "most"),.ck (X4 "WaterError"),.ck (λK=>gOk K "TooLong"),.ck (λK=>takes K (Af K "TooLong") (Af K "TooLong"))]
theorem all_mk{l:PySem.W.OpenLaw}{w:xq}{K:PySem.W.Frag}{h:Heap}{mg:Str->Option xY}{fa:jT}(X:K.In h)(G:h.Ns xR mg)(hfa:mg "law"=vB (.ref fa))(S:AllSaid K asks):
  ∃fd:xZ,(∀(s:xW)(v:xY),BindsTo s fd ⟨[v],[]⟩ [("_law_script",v)])/\∀base:Heap,K.In base->base.Ns xR mg->FnOk l.prog w K mg base CX0 12 fa fd ["_law_script"] (lF K Lb):=by
 obtain⟨Av,Ue,Sd,Mp,Tw,W3,Ux,R0,Lk,Qo,Qk,Kf,Vl,Vw,Ql,R3,Ov,Vz,V4,Sv,Tc,Oa,Rv,Oj,Qq,Ug,Ss,Nh,Mz,Ua,Pj,Q5,V7,Rc,Mv,Qw,Ij,T5,Km,Vm,Um,ZO5,ZO6,ZO7,ZO8,ZO9,ZPA,ZPB,ZPC,ZPD,ZPE,ZPF,ZPG,ZAy,Wg,ZBQ,Nq,Wj,ZAx,ZAe,Hc,Qs,Wv,ZA2,ZBZ,N6,Wz,Ww,Z4,Yd,Yu,Vu,Vf,O4,Y9,Xb,Xq,_⟩:=S
 have T:Txt K mg:=⟨Cv X G Ue (λ_ _ _ _ _ _ us hl=>match us,hl with |[_,_],_=>rfl),
  Cv X G Sd (λ_ _ _ _ _ _ us hl=>match us,hl with |[_],_=>rfl),
  Cv X G Mp (λ_ _ _ _ _ _ us hl=>match us,hl with |[_,_],_=>rfl),
  Cv X G Tw (λ_ _ _ _ _ _ us hl=>match us,hl with |[_,_,_,_,_],_=>rfl),
  Cv X G W3 (λ_ _ _ _ _ _ us hl=>match us,hl with |[_,_],_=>rfl),
  Cv X G Ux (λ_ _ _ _ _ _ us hl=>match us,hl with |[_,_],_=>rfl),
  Ju R0 (λ_ _ _ _ _ _ us hl=>match us,hl with |[_,_,_,_,_],_=>rfl),
  Ju Lk (λ_ _ _ _ _ _ us hl=>match us,hl with |[_,_,_,_],_=>rfl),
  Cv X G Qo (λ_ _ _ _ _ _ us hl=>match us,hl with |[_,_],_=>rfl),
  Cv X G Qk (λ_ _ _ _ _ _ us hl=>match us,hl with |[_,_],_=>rfl),
  Ju Kf (λ_ _ _ _ _ _ us hl=>match us,hl with |[_,_,_],_=>rfl),
  Cv X G Vl (λ_ _ _ _ _ _ us hl=>match us,hl with |[_,_],_=>rfl),
  Cv X G Vw (λ_ _ _ _ _ _ us hl=>match us,hl with |[_,_],_=>rfl),
  Ju Ql (λ_ _ _ _ _ _ us hl=>match us,hl with |[_,_],_=>rfl),
  Cv X G R3 (λ_ _ _ _ _ _ us hl=>match us,hl with |[_,_],_=>rfl),
  Cv X G Ov (λ_ _ _ _ _ _ us hl=>match us,hl with |[_,_],_=>rfl),
  Cv X G Vz (λ_ _ _ _ _ _ us hl=>match us,hl with |[_,_,_],_=>rfl),
  Cv X G V4 (λ_ _ _ _ _ _ us hl=>match us,hl with |[_],_=>rfl),
  Cv X G Sv (λ_ _ _ _ _ _ us hl=>match us,hl with |[_,_],_=>rfl),
  Cv X G Tc (λ_ _ _ _ _ _ us hl=>match us,hl with |[_],_=>rfl),
  Ju Oa (λ_ _ _ _ _ _ us hl=>match us,hl with |[_,_],_=>rfl),
  Cv X G Rv (λ_ _ _ _ _ _ us hl=>match us,hl with |[_],_=>rfl),
  Ju Oj (λ_ _ _ _ _ _ us hl=>match us,hl with |[_],_=>rfl),
  Ju Qq (λ_ _ _ _ _ _ us hl=>match us,hl with |[_],_=>rfl),
  Cv X G Ug (λ_ _ _ _ _ _ us hl=>match us,hl with |[_,_,_,_],_=>rfl),
  Cv X G Ss (λ_ _ _ _ _ _ us hl=>match us,hl with |[_,_,_,_],_=>rfl),
  Cv X G Nh (λ_ _ _ _ _ _ us hl=>match us,hl with |[_,_,_,_],_=>rfl),
  ZGf X G Mz (λ_ _ _ _ _ _ _ us _ hl=>match us,hl with |[_,_,_,_],_=>⟨_,rfl,rfl⟩) (λ_ _ _ _ _ _ _ us _ hl=>match us,hl with |[_,_,_],_=>⟨_,rfl,rfl⟩),
  Cv X G Ua (λ_ _ _ _ _ _ us hl=>match us,hl with |[_,_,_,_],_=>rfl),
  Cv X G Pj (λ_ _ _ _ _ _ us hl=>match us,hl with |[_,_],_=>rfl),
  Cv X G Q5 (λ_ _ _ _ _ _ us hl=>match us,hl with |[_,_],_=>rfl),
  Cv X G V7 (λ_ _ _ _ _ _ us hl=>match us,hl with |[_,_,_],_=>rfl),
  Cv X G Rc (λ_ _ _ _ _ _ us hl=>match us,hl with |[_],_=>rfl),
  ZLE X G Av R0,
  Mv,
  Qw,
  Ij,
  T5,
  Km,
  Vm,
  Um,
  PySem.W.mg_none_of X G ZO5,
  PySem.W.mg_none_of X G ZO6,
  PySem.W.mg_none_of X G ZO7,
  PySem.W.mg_none_of X G ZO8,
  PySem.W.mg_none_of X G ZO9,
  PySem.W.mg_none_of X G ZPA,
  PySem.W.mg_none_of X G ZPB,
  PySem.W.mg_none_of X G ZPC,
  PySem.W.mg_none_of X G ZPD,
  PySem.W.mg_none_of X G ZPE,
  PySem.W.mg_none_of X G ZPF,
  PySem.W.mg_none_of X G ZPG,
  PySem.W.mg_of X G ZAy,
  PySem.W.mg_of X G Wg,
  PySem.W.mg_of X G ZBQ,
  PySem.W.mg_of X G Nq,
  PySem.W.mg_of X G Wj,
  PySem.W.mg_of X G ZAx,
  PySem.W.mg_of X G ZAe,
  PySem.W.mg_of X G Hc,
  PySem.W.mg_of X G Qs,
  PySem.W.mg_of X G Wv,
  PySem.W.mg_of X G ZA2,
  PySem.W.mg_of X G ZBZ,
  PySem.W.mg_of X G N6,
  PySem.W.mg_of X G Wz,
  PySem.W.mg_of X G Ww,
  PySem.W.mg_of X G Z4,
  PySem.W.mg_of X G Yd,
  PySem.W.mg_of X G Yu,
  PySem.W.mg_of X G Vu,
  Ju Vf (λ_ _ _ _ _ _ us hl=>match us,hl with |[_,_],_=>rfl),
  ZJX X G O4,
  ZKs X G Y9,
  ZNM X G Xb,
  Xq⟩
 have eL:mg "law"=vB (.ref (Af K "law")):=PySem.W.mg_of X G Rc.1;obtain rfl:fa=Af K "law":=by rw[hfa]at eL;cases eL;rfl
 exact⟨_,λs v=>ZOH (R9 Rc.2),λbase _ _=>ZJ9 T⟩
theorem walk{l:PySem.W.OpenLaw}{q:xX}{loose:List Str}{XP:(Str->Option xY)->Heap->Prop}{YP:xq->Heap->Prop}{d:DefRec}{K:xq->PySem.W.Frag}(hn:l.most=vB 63)(hdf:d.params.defaults=[])(HH:Holds)
  (hY:∀(w:xq)(h:Heap),YP w h->(K w).In h)
  (F:∀(w:xq)(mg:Str->Option xY)(fa:jT)(h:Heap),(K w).In h->h.Ns xR mg->mg d.name=vB (.ref fa)->
   ∃fd:xZ,(∀(s:xW)(u:xY),BindsTo s fd ⟨[u],[]⟩ [("_law_script",u)])/\∀base:Heap,(K w).In base->base.Ns xR mg->FnOk l.prog w (K w) mg base CX0 12 fa fd ["_law_script"] (lF (K w) Lb)):
  PySem.W.WalkO q loose XP YP l.row.toRowW d [] (λf vs=>PySem.call f vs):=
 _L.ZHw (n:=63) (k:=12) (x:="_law_script") (CX:=λ_=>CX0) (sp:=λw=>lF (K w) Lb) hn (by decide) hdf ⟨rfl,by decide,by decide⟩ hY F
  (λw H a ns hl hO hS=>by
   obtain⟨G,hG⟩:=HH ns hl;refine⟨⟨K w,0,λ_=>0,H⟩,[],[.fl (ns.map D.int)],rfl,rfl,⟨rfl,λi j h=>absurd h (Nat.not_lt_zero _),λi o h=>by simp at h,λi h=>absurd h (Nat.not_lt_zero _)⟩,Reps.cons ⟨a,ns.map V.int,rfl,?_,Reps.ints ns⟩ Reps.nil,?_⟩
   ·rcases hS with(hS|hS)|hS
    ·rcases hO a with z|⟨o,xs,z⟩
     ·rw[z]at hS;cases hS
     ·rw[z]at hS;cases hS
    ·exact .inl hS
    ·exact .inr hS
   ·rw[hG];exact λb v _ _ r=>r) λ_ _ _ _ _ z=>z
end _W
set_option maxRecDepth 100000
namespace _W
open PySem PySem.W _L _D
abbrev rw_:OpenLaw:=PySem.Challenge.rw_sluiceway_k59_water_that_goes_round
abbrev pw:xX:=OpenLaw.prog PySem.Challenge.rw_sluiceway_k59_water_that_goes_round
def vw:xX:=view pw (zk 57)
theorem ZKm:∀w os,(ZAD pw w os).map (λs=>(ZAN pw w s.abs,PySem.W.Fast.tw4187177175401517315 vw [] (PySem.W.Fast.tw5923862056798008813 pw.main.body) (XtOf rw_ vw) vD s.abs,Yk asks s.abs.heap))=vB (vD,openGood vw [],Ze asks):=λw os=>by kernel_rfl
theorem ZDD:∀w,(openEnds vJ pw w 100000).map (λs=>(openSeen vw [] (xF pw.main.body) (XtOf rw_ vw) vD s,Yk asks s.heap))=vB (openGood vw [],Ze asks):=ZIn (by kernel_rfl) (λs=>rfl) ZKm
theorem well:rw_.wellSaid=vD:=ZLX (by kernel_rfl)
theorem hdef:defOf vw rw_.row.name=vB (dOf Gk,[]):=by kernel_rfl
theorem hp:rw_.row.prog.theDef rw_.row.name=vB ((dOf Gk).params,(dOf Gk).body,(dOf Gk).scope):=by kernel_rfl
theorem hk:kwWritten? (dOf Gk).params.kwonlyargs (dOf Gk).params.kw_defaults=vB []:=by kernel_rfl
theorem hok:(chainsOk vw&&opensWell rw_.row.prog&&(frees rw_.row.toRowW&&rw_.row.within.isEmpty))=vD:=by kernel_rfl
theorem hdf:(dOf Gk).params.defaults=[]:=by kernel_rfl
theorem hbare:rw_.row.prog.bare:=⟨rfl,rfl,rfl,rfl,rfl,by decide +kernel⟩
theorem hw:rw_.row.toRowW.promised:=by w_witness2
theorem walked:WalkO vw [] (XL vw []) (Stays rw_.prog 100000) rw_.row.toRowW (dOf Gk) [] λf vs=>PySem.call f vs:=
 walk (l:=rw_) (K:=λw=>Oh (J0 pw 100000 w)) rfl hdf holds (λw h Y=>Y.in) λw mg fa h KX G hmg=>all_mk KX G (show mg "law"=_ from hmg) (ZCt (ZJk ZDD w))
end _W
open PySem PySem.W PyProof.Rows _D
theorem PySem.Challenge.cw_sluiceway_k59_water_that_goes_round_holds : PySem.Challenge.rw_sluiceway_k59_water_that_goes_round.Holds := by
 refine holds_top (l:=_W.rw_) (q:=_W.vw) (loose:=[]) (N:=100000) (see:=Yk _W.asks) (val:=Ze _W.asks) (d:=dOf _W.Gk) ?_ ?_ ?_ ?_ ?_ ?_ ?_ ?_ ?_ ?_
 ·exact _W.well
 ·exact _W.ZDD
 ·exact _W.hdef
 ·exact _W.hp
 ·exact _W.hk
 ·rfl
 ·exact _W.hok
 ·exact _W.hbare
 ·exact _W.hw
 ·exact _W.walked
