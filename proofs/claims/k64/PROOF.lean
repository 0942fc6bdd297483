import PyProof.Rows.All
import Wide.All
import OpenK.AllK
import Wide.FinOn
import Lean
import PyProof.EqAt
import PyProof.EqKinds
import PyProof.TupleCall
import PyProof.NeKinds
import PyProof.IsInstanceH
import PyProof.SumWalkG
import PyProof.ConsumeWalk
import PyProof.IsiNone
import PyProof.WalksMore
import PyProof.PlainList
import PyProof.CompFree
import KE.KIntText
import PyProof.DictTable
import PyProof.ExcInit
import PyProof.ExcClass2
import PyProof.ExcBaseAll.ValueError
import OpenK.KOwn
import PyProof.RulesAs
import PyProof.NsDelKeeps
import PySem.Challenge.RW_sluiceway_k64_no_way
set_option compiler.extract_closed false
set_option bootstrap.genMatcherCode false
set_option genSizeOf false
set_option Elab.async false
set_option linter.all false
set_option maxRecDepth 100000
open Option renaming some→vR,none→vS
open Bool renaming true→vT,false→vU
open List renaming mem_cons_of_mem→zZ,range→zJ,mem_cons_self→zV,getElem?_eq_getElem→zY,mem_cons→zq,size_toArray→zx,replicate→zv,getElem?_set_ne→zw,getElem?_eq_some_iff→zk,map_cons→zA,getElem?_map→zC,getD_eq_getElem?_getD→zD,mem_append_right→zE,getElem?_append_left→zG,getElem?_eq_none→zH,getElem?_append_right→zI,filterMap_cons→zN,length_map→zO,append_nil→zP,length_cons→zR,mem_map→zS,getElem?_set_self→qZ,length_append→qJ,mem_range→qX,map_map→qY,getElem?_range→qq,getElem?_take_of_lt→qz,getElem?_replicate→qw,drop_of_length_le→qk,lookup→q0,getElem?_set→qA,append_assoc→qB,length_set→qD,range_succ_eq_map→qE,length_take→qF,drop_eq_getElem_cons→qG,getElem?_cons_succ→qI,map_congr_left→qL,lookup_cons→qM,getElem_mem→qN,ext_getElem→qO,filterMap_map→qP,set→qT,all_cons→qU,getElem?_eq_none_iff→jQ,reverse_cons→jZ,zipIdx_cons→jX,cons_append→jV,map_nil→jW,mem_filterMap→jY,nodup_cons→jz,eq_nil_of_length_eq_zero→jx,length_singleton→jw,ext_getElem?→j0,length_filter_le→j3,singleton_append→j4,all_eq_true→j6,take_length→j7,filter_cons→j8,mem_filter→j9,mem_append→jA,forIn_cons→jB,nil_append→jC,map_append→jD,mem_singleton→jG,take_of_length_le→jL,filterMap_eq_map'→jM,length_replicate→jN,length_drop→jO,mem_append_left→jS,of_mem_zip→jT,length→xJ
open Nat renaming lt_of_lt_of_le→zX,le_refl→zK,le_trans→z0,ne_of_lt→zF,lt_irrefl→zT,lt_succ_self→zU,ne_of_gt→qy,le_of_ble_eq_true→qH,zero_le→qR,le_succ→qS,add_sub_cancel_left→jK,lt_succ_of_lt→jy,le_of_lt→j5,le_add_right→jP,not_lt_zero→jU
open Int renaming mul_le_mul_of_nonneg_right→zL,le_refl→qW,emod_lt_of_pos→jq,emod_nonneg→jv,mul_zero→jH,mul_nonneg→jI,le_of_lt→xZ,mul_add→xX,sub_mul→xV
open Option renaming map_eq_some_iff→zM,isSome_iff_exists→jE,map_some→xQ
open Bool renaming false_ne_true→zy,and_eq_true→zB,and_eq_true_iff→jJ,false_eq_true→jF
open Array renaming getElem?_eq_some_iff→qQ,length_toList→qC,getElem?_toList→jk
open PySem.Heap renaming get?_push_of_some→zQ,lt_size→zW,get?_push_size→zj,get?_update_self→qV,get?_update_other→qK,size_push→qj,SameBut→qx,get?_none_of_le→jR
open PySem renaming Addr→xW,Around→xK,Expr→xY,FuncData→xq,NameKind→xz,Program→xj,Scope→xk,Shared→xy,Stmt→xA,Value→xB,World→xC,assignEach→xD,attributeBase→xE,backTo→xF,backToKw→xG,behindInMarks→xH,binaryOp→xI,bootBuiltins→xL,call_isinstance→xM,checkBuiltinCall→xN,codeAny_mono→xO,compareOp→xP,importedModules→xR,isSubtype→xS,isinstance_false_int→xT,isinstance_false_list→xU,isinstance_false_none→vQ,isinstance_false_str→vZ,isinstance_false_tuple→vJ,keywordEach→vX,letOwnedTupleGo→vV,mainGlobals→vW,model→vK,rawInt→vY,sizeLine_eq→vq,sliceBounds→vz,starEach→vj,treeTable→vx,wpAny→vk,wpAny_Call_Name_kw→vA,wpAny_bind→vB,wpAny_callSpecial?_slot→vC,wpAny_call_entry→vD,wpAny_field→vE,wpAny_holding→vF,wpAny_mono→vG,wpAny_newObj_type→vH,wpAny_passesOwn→vI,wpAny_pure→vL,wpAny_setField_rec→vM,wpAny_truthy_bool→vN
open PySem.W renaming Frag→vO,boot_heap→vP
set_option maxHeartbeats 0
noncomputable section
namespace _L
open PySem PySem.Spec PyProof.Rows
variable{us:List xB}{u:xB}{a b C:xW}{P:xj}{w:xC}{h base:Heap}{t' i k:Nat}{ch fp:List xW}{x:Str}{Q:Unit->xy->Prop}{e c tg:xY}{A:xK}{E:xB->xy->Prop}{s:xy}{pins:List (xW×Obj)}{K:PySem.W.Frag}{body:List xA}{f:xB->xB->Sem xB}{op:CmpOp}{pl:Sem Bool}{kw:List (Str×xB)}{mg:Str->Option xB}{kindOf:Str->Option xz}
noncomputable abbrev Key:=Sum Int Str
def ZAl:Key->xB->Bool
 |.inl k,v=>Value.isInt k v
 |.inr x,v=>Value.isStrOf x v
def keyH(w:xC):Key->Int
 |.inl k=>hashInt k
 |.inr x=>hashStr w x
theorem Im:∀{k:Key}{v:xB},ZAl k v=vT->(∃i t,k=Sum.inl i/\v=Value.int i t)∨(∃x t,k=Sum.inr x/\v=Value.str x t)
 |.inl i,v,h=>by obtain⟨t,e⟩:=Value.isInt_shape (k:=i) (v:=v) h;exact .inl ⟨i,t,rfl,e⟩
 |.inr x,v,h=>by obtain⟨t,e⟩:=Value.isStrOf_shape (x:=x) (v:=v) h;exact .inr ⟨x,t,rfl,e⟩
theorem ZIp(a b:Int):decide ((Sum.inl a:Key)=Sum.inl b)=(a==b):=by
 by_cases e:a=b
 ·subst e;simp
 ·have h:¬(Sum.inl a:Key)=Sum.inl b:=λq=>e (Sum.inl.inj q)
  rw[decide_eq_false h];exact(beq_eq_false_iff_ne.mpr e).symm
theorem ZHK(a b:Str):decide ((Sum.inr a:Key)=Sum.inr b)=decide (a=b):=by
 by_cases e:a=b
 ·subst e;simp
 ·have h:¬(Sum.inr a:Key)=Sum.inr b:=λq=>e (Sum.inr.inj q)
  rw[decide_eq_false h,decide_eq_false e]
theorem ZIL(a:Int)(b:Str):decide ((Sum.inl a:Key)=Sum.inr b)=vU:=decide_eq_false (λq=>nomatch q)
theorem ZKm(a:Str)(b:Int):decide ((Sum.inr a:Key)=Sum.inl b)=vU:=decide_eq_false (λq=>nomatch q)
def ZCd(prog:xj)(w:xC):PySem.KeyKind prog w Key where
 is:=ZAl
 hash:=keyH w
 inj:=λv a b ha hb=>by
  rcases Im ha with⟨i,t,rfl,rfl⟩|⟨x,t,rfl,rfl⟩
  ·rcases Im hb with⟨j,u,rfl,e⟩|⟨y,u,rfl,e⟩
   ·injection e with e1 _;rw[e1]
   ·exact nomatch e
  ·rcases Im hb with⟨j,u,rfl,e⟩|⟨y,u,rfl,e⟩
   ·exact nomatch e
   ·injection e with e1 _;rw[e1]
 byValue:=λk v h=>by rcases Im h with⟨i,t,rfl,rfl⟩|⟨x,t,rfl,rfl⟩<;>rfl
 pyHash:=λhv h=>by
  rcases Im hv with⟨i,t,rfl,rfl⟩|⟨x,t,rfl,rfl⟩
  ·exact wpAny_pyHash_int h
  ·exact wpAny_pyHash_str h
 eqBool:=λhu hv h=>by
  rcases Im hu with⟨i,t,rfl,rfl⟩|⟨x,t,rfl,rfl⟩
  ·rcases Im hv with⟨j,u,rfl,rfl⟩|⟨y,u,rfl,rfl⟩
   ·rw[ZIp]at h;exact wpAny_eqBool_int h
   ·rw[ZIL]at h;exact SeqAt.EqAt.int_str i t y u _ _ _ _ h
  ·rcases Im hv with⟨j,u,rfl,rfl⟩|⟨y,u,rfl,rfl⟩
   ·rw[ZKm]at h;exact SeqAt.EqAt.str_int x t j u _ _ _ _ h
   ·rw[ZHK]at h;exact wpAny_eqBool_str h
 «strs»:=λk x t v h=>by
  rcases Im h with⟨i,u,rfl,e⟩|⟨y,u,rfl,e⟩
  ·exact nomatch e
  ·injection e with e1 _
   subst e1
   cases v<;>rfl
inductive V where
 |non|bl (b:Bool)|int (i:Int)|str (x:Str)|byt (b:Array UInt8)|flt (b:UInt64)|ref (a:xW)|ty (n:String)
 deriving DecidableEq
variable{v y:V}{vs:List V}
def RelV:V->xB->Prop
 |.non,u=>u=Value.none
 |.bl b,u=>u=Value.bool b
 |.int i,u=>∃t,u=Value.int i t
 |.str x,u=>∃t,u=Value.str x t
 |.byt b,u=>∃t,u=Value.bytes b t
 |.flt b,u=>∃t,u=Value.float b t
 |.ref a,u=>u=Value.ref a
 |.ty n,u=>u=Value.type n
abbrev Vals:List V->List xB->Prop:=Paired RelV
theorem Vals.length{xs:List V}(r:Vals xs us):xs.length=us.length:=Paired.length r
theorem Vals.get:∀{xs:List V}{us:List xB}{i:Nat}{x:V},Vals xs us->xs[i]?=vR x->∃u,us[i]?=vR u/\RelV x u
 |_,_,_,_,.nil,e=>by simp at e
 |_,_,0,_,.cons r _,e=>by simp at e;subst e;exact⟨_,rfl,r⟩
 |_,_,i+1,x,.cons _ t,e=>by obtain⟨u,h1,h2⟩:=Vals.get (i:=i) (x:=x) t (by simpa using e);exact⟨u,by simpa using h1,h2⟩
theorem Vals.set{x:V}(r:RelV x u):∀{xs:List V}{us:List xB}(i:Nat),Vals xs us->Vals (xs.set i x) (us.set i u)
 |_,_,_,.nil=>.nil
 |_,_,0,.cons _ t=>.cons r t
 |_,_,i+1,.cons q t=>.cons q (Vals.set r i t)
theorem Vals.append:∀{xs ys:List V}{us ws:List xB},Vals xs us->Vals ys ws->Vals (xs++ys) (us++ws)
 |_,_,_,_,.nil,s=>s
 |_,_,_,_,.cons r t,s=>.cons r (Vals.append t s)
theorem Vals.take:∀{xs:List V}{us:List xB}(n:Nat),Vals xs us->Vals (xs.take n) (us.take n)
 |_,_,0,_=>.nil
 |_,_,_+1,.nil=>.nil
 |_,_,n+1,.cons r t=>.cons r (Vals.take n t)
theorem Vals.drop:∀{xs:List V}{us:List xB}(n:Nat),Vals xs us->Vals (xs.drop n) (us.drop n)
 |_,_,0,r=>r
 |_,_,_+1,.nil=>.nil
 |_,_,n+1,.cons _ t=>Vals.drop n t
def RelO:Option V->Option xB->Prop
 |some v,vR u=>RelV v u
 |none,vS=>True
 |_,_=>False
def KV{κ:Type}:List (κ×V)->List (κ×xB)->Prop:=Paired λ(p:κ×V)(q:κ×xB)=>p.1=q.1/\RelV p.2 q.2
def kV:Key->V
 |.inl i=>.int i
 |.inr x=>.str x
inductive HO where
 |lst (xs:List V)
 |tup (xs:List V)
 |dK (kvs:List (Key×V))|dT (kvs:List (List Key×V))
 |set (S:Int->Bool) (n:Nat)
 |ins (C dx:xW) (fs:List (Str×V))
 |own (x:xW)
 |xd (fs:List (Str×V))
 |met (f x:xW)
 |rng (lo hi:Int)
 |frz (o:Obj) (u:HO)
 |tbl (ps:Array xB)
 |ext (φ:Heap->Prop)
variable{o:HO}
noncomputable abbrev Hp:=xW->Option HO
variable{H:Hp}
noncomputable def upd(H:Hp)(a:xW)(o:HO):Hp:=λb=>if b=a then vR o else H b
theorem Do:upd H a o a=vR o:=by unfold upd;rw[if_pos rfl]
theorem Aq(h:b≠a):upd H a o b=H b:=by unfold upd;rw[if_neg h]
theorem G7(h:H a=vR o)(h':H b=vS):a≠b:=by intro e;subst e;rw[h]at h';cases h'
section
variable(P:xj)(w:xC)
def ObjOk(H:Hp)(h:Heap)(a:xW):HO->Prop
 |.lst xs=>xs.length<=sizeLine/\∃(its:List xB)(n:Nat),Vals xs its/\h.get? a=vR {cls:=.type "list",data:=.seq its.toArray n}
 |.tup xs=>xs.length<=sizeLine/\∃its:List xB,Vals xs its/\IsTup h a its.toArray
 |.dK kvs=>kvs.length<=sizeLine/\(a==sysModules)=vU/\∃vs,KV kvs vs/\h.DictOf (ZCd P w) a vs
 | .dT kvs=>kvs.length<=sizeLine/\(a==sysModules)=vU/\∃xs:List (List Key×xW×xB),
   Paired (λ(p:List Key×V)(q:List Key×xW×xB)=>p.1=q.1/\H q.2.1=vR (.tup (p.1.map kV))/\RelV p.2 q.2.2) kvs xs/\
   ∃o es ep,h.get? a=vR o/\o.ExactDict/\o.data=.dict es ep/\es.toList=xs.map (entryOfKey (tupleKind (ZCd P w)))/\(xs.map (·.1)).Nodup
 |.set S n=>h.SetOf (intKind P w) a S n
 | .ins C dx fs=>H dx=vR (.own a)/\fs.length<=1000/\dx≠a/\h.get? a=vR (PySem.W.instObj C dx)/\
   ∃mA,h.Ns1 dx mA/\(∀f,RelO (fs.lookup f) (mA f))/\PySem.Within mA (fs.map (·.1))
 |.own _=>∃o,h.get? a=vR o
 |.xd fs=>∃mA,h.Ns1 a mA/\∀f,RelO (fs.lookup f) (mA f)
 |.rng lo hi=>∃t u v,h.get? a=vR {cls:=.type "range",data:=.fields #[.int lo t,.int hi u,.int 1 v]}
 |.frz o u=>h.get? a=vR o/\ObjOk H h a u
 |.tbl ps=>h.get? a=vR {cls:=.none,data:=.fields ps}
 |.met f x=>h.get? a=vR (PySem.W.methodObj (.ref f) (.ref x))
 |.ext φ=>φ h/\(∃o,h.get? a=vR o)/\∀h1 h2:Heap,φ h1->(∀o,h1.get? a=vR o->h2.get? a=vR o)->φ h2
def HOk(H:Hp)(h:Heap):Prop:=∀a o,H a=vR o->ObjOk P w H h a o
end
section
variable{P:xj}{w:xC}{H H':Hp}{h h':Heap}{a:xW}{o:HO}
theorem ObjOk.lt(x:ObjOk P w H h a o):a<h.objs.size:=by
 cases o with
 |lst xs=>obtain⟨_,_,_,_,e⟩:=x;exact zW e
 |tup xs=>obtain⟨_,_,_,p⟩:=x;exact p.lt
 |dK kvs=>obtain⟨_,_,_,_,o,_,_,e,_⟩:=x;exact zW e
 |dT kvs=>obtain⟨_,_,_,_,o,_,_,e,_⟩:=x;exact zW e
 |set S n=>obtain⟨o,_,_,_,e,_⟩:=x;exact zW e
 |ins C dx fs=>obtain⟨_,_,_,e,_⟩:=x;exact zW e
 |own y=>obtain⟨_,e⟩:=x;exact zW e
 |xd fs=>obtain⟨_,⟨_,_,_,e,_⟩,_⟩:=x;exact zW e
 |rng lo hi=>obtain⟨_,_,_,e⟩:=x;exact zW e
 |frz ob u=>obtain⟨e,_⟩:=x;exact zW e
 |tbl ps=>exact zW (show h.get? a=vR _ from x)
 |met f y=>exact zW (show h.get? a=vR _ from x)
 |ext φ=>obtain⟨_,⟨_,e⟩,_⟩:=x;exact zW e
theorem Paired.mapP{α β:Type}{F G:α->β->Prop}:∀{l₁:List α}{l₂:List β},Paired F l₁ l₂->(∀a b,F a b->G a b)->Paired G l₁ l₂
 |_,_,.nil,_=>.nil
 |_,_,.cons r t,f=>.cons (f _ _ r) (Paired.mapP t f)
theorem ObjOk.stay(x:ObjOk P w H h a o)(k:∀b u,(b=a∨H b=vR (.own a))->h.get? b=vR u->h'.get? b=vR u)
  (ho:∀b,H b=vR (.own a)->H' b=vR (.own a)) (ht:∀b xs,H b=vR (.tup xs)->H' b=vR (.tup xs)):ObjOk P w H' h' a o:=by
 induction o with
 |lst xs=>obtain⟨z,its,n,r,e⟩:=x;exact⟨z,its,n,r,k _ _ (.inl rfl) e⟩
 |tup xs=>obtain⟨z,its,r,ob,e,c⟩:=x;exact⟨z,its,r,ob,k _ _ (.inl rfl) e,c⟩
 |dK kvs=>obtain⟨z,y,vs,r,ob,es,ep,e,c⟩:=x;exact⟨z,y,vs,r,ob,es,ep,k _ _ (.inl rfl) e,c⟩
 |dT kvs=>
  obtain⟨z,y,xs,r,ob,es,ep,e,c⟩:=x;exact⟨z,y,xs,Paired.mapP r λp q z=>⟨z.1,ht _ _ z.2.1,z.2.2⟩,ob,es,ep,k _ _ (.inl rfl) e,c⟩
 |set S n=>obtain⟨ob,es,ep,t,e,c⟩:=x;exact⟨ob,es,ep,t,k _ _ (.inl rfl) e,c⟩
 |ins C dx fs=>
  obtain⟨d,z,ne,e,mA,⟨od,es,ep,e2,c⟩,r⟩:=x;exact⟨ho _ d,z,ne,k _ _ (.inl rfl) e,mA,⟨od,es,ep,k _ _ (.inr d) e2,c⟩,r⟩
 |own y=>obtain⟨ob,e⟩:=x;exact⟨ob,k _ _ (.inl rfl) e⟩
 |xd fs=>obtain⟨mA,⟨od,es,ep,e,c⟩,r⟩:=x;exact⟨mA,⟨od,es,ep,k _ _ (.inl rfl) e,c⟩,r⟩
 |rng lo hi=>obtain⟨t,u,v,e⟩:=x;exact⟨t,u,v,k _ _ (.inl rfl) e⟩
 |frz ob u ih=>obtain⟨e,q⟩:=x;exact⟨k _ _ (.inl rfl) e,ih q⟩
 |tbl ps=>
  have e:h.get? a=vR {cls:=.none,data:=.fields ps}:=x;show h'.get? a=vR {cls:=.none,data:=.fields ps};exact k a _ (.inl rfl) e
 |met f y=>
  have e:h.get? a=vR (PySem.W.methodObj (.ref f) (.ref y)):=x;show h'.get? a=vR (PySem.W.methodObj (.ref f) (.ref y));exact k a _ (.inl rfl) e
 |ext φ=>obtain⟨p,⟨o,e⟩,st⟩:=x;exact⟨st _ _ p λo q=>k _ _ (.inl rfl) q,⟨o,k _ _ (.inl rfl) e⟩,st⟩
theorem HOk.lt(x:HOk P w H h)(e:H a=vR o):a<h.objs.size:=(x a o e).lt
theorem HOk.fresh(x:HOk P w H h)(e:h.objs.size<=a):H a=vS:=by
 cases q:H a with
 |none=>rfl
 |some u=>exact absurd (zX (x.lt q) e) (zT _)
theorem HOk.kept(x:HOk P w H h)(k:∀b u,h.get? b=vR u->h'.get? b=vR u):HOk P w H h':=λa o e=>
 (x a o e).stay (λb u _ q=>k b u q) (λ_ q=>q) λ_ _ q=>q
theorem HOk.laid(x:HOk P w H h)(k:∀b u,h.get? b=vR u->h'.get? b=vR u)(hp:h.objs.size<=a)(new:ObjOk P w (upd H a o) h' a o):HOk P w (upd H a o) h':=λb u e=>by
 have hn:=x.fresh hp;by_cases hb:b=a
 ·subst hb;rw[Do]at e;cases e;exact new
 ·rw[Aq hb]at e;exact(x b u e).stay (λc v _ q=>k c v q) (λc q=>by rw[Aq (G7 q hn)];exact q) λc xs q=>by rw[Aq (G7 q hn)];exact q
end
def Rd(H:Hp)(a:xW)(u:HO):Prop:=H a=vR u∨∃o,H a=vR (.frz o u)
theorem Rd.ok{u:HO}(r:Rd H a u)(x:HOk P w H h):ObjOk P w H h a u:=by
 rcases r with r|⟨o,r⟩
 ·exact x a u r
 ·obtain⟨_,q⟩:=x a _ r;exact q
def Mut:Option HO->Prop
 |some (.lst _)=>True
 |some (.dK _)=>True
 |some (.dT _)=>True
 |some (.set _ _)=>True
 |some (.ins _ _ _)=>True
 |some (.ext _)=>True
 |_=>False
section
variable{P:xj}{w:xC}{H:Hp}{h h':Heap}{x e:xW}{o':HO}
theorem HOk.write(ok:HOk P w H h)(mu:Mut (H x))(he:e=x∨H e=vR (.own x))(k:∀b u,b≠e->h.get? b=vR u->h'.get? b=vR u)(heo:∃u,h'.get? e=vR u)
  (new:ObjOk P w (upd H x o') h' x o'):HOk P w (upd H x o') h':=λb u q=>by
 have nown:∀c y,H c=vR (.own y)->c≠x:=λc y r z=>by subst z;rw[r]at mu;exact mu
 have ntup:∀c xs,H c=vR (.tup xs)->c≠x:=λc xs r z=>by subst z;rw[r]at mu;exact mu
 by_cases hb:b=x
 ·subst hb;rw[Do]at q;cases q;exact new
 ·rw[Aq hb]at q;by_cases hbe:b=e
  ·have q':H b=vR (.own x):=by
    rcases he with z|z
    ·exact absurd (hbe.trans z) hb
    ·rw[hbe];exact z
   rw[q]at q';cases q';obtain⟨v,hv⟩:=heo;exact⟨v,by rw[hbe];exact hv⟩
  ·refine(ok b u q).stay (λc v hc r=>k c v ?_ r) (λc r=>by rw[Aq (nown c b r)];exact r) λc xs r=>by rw[Aq (ntup c xs r)];exact r
   rcases hc with rfl|hc
   ·exact hbe
   ·rintro rfl;rcases he with z|z
    ·exact nown c b hc z
    ·rw[hc]at z;cases z;exact hb rfl
end
structure Un (fs ex:List xW) (H H':Hp) (h h':Heap):Prop where
 keep:∀b o,h.get? b=vR o->H b=vS->b∉fs->b∉ex->h'.get? b=vR o
 slot:∀b o,h.get? b=vR o->H b=vS->b∈fs->b∉ex->∃sl,h'.get? b=vR {o with slots:=sl}
 free:∀b o,h.get? b=vR o->H b=vS->b∉ex->H' b=vS
 there:∀b o,h.get? b=vR o->b∉ex->∃o',h'.get? b=vR o'
 tups:∀b xs,H b=vR (.tup xs)->H' b=vR (.tup xs)
 frzs:∀b o u,H b=vR (.frz o u)->H' b=vR (.frz o u)
 tbls:∀b ps,H b=vR (.tbl ps)->∃more,H' b=vR (.tbl (ps++more))
section
variable{fs fs' ex ex':List xW}{H H1 H2:Hp}{h h1 h2 h':Heap}{a x e:xW}{o:HO}
theorem Un.any(u:Un fs ex H H1 h h1){ob:Obj}(q:h.get? b=vR ob)(n:H b=vS)(hx:b∉ex):∃sl,h1.get? b=vR {ob with slots:=sl}:=by
 by_cases hb:b∈fs
 ·exact u.slot b ob q n hb hx
 ·exact⟨ob.slots,u.keep b ob q n hb hx⟩
theorem Un.kept(k:∀b u,h.get? b=vR u->h'.get? b=vR u):Un fs ex H H h h':=
 ⟨λb ob q _ _ _=>k b ob q,λb ob q _ _ _=>⟨ob.slots,k b ob q⟩,λ_ _ _ n _=>n,λb ob q _=>⟨ob,k b ob q⟩,λ_ _ q=>q,λ_ _ _ q=>q,λ_ ps q=>⟨#[],by rw[q];simp⟩⟩
theorem Un.refl:Un fs ex H H h h:=Un.kept λ_ _ q=>q
theorem Un.laid(k:∀b u,h.get? b=vR u->h'.get? b=vR u)(hp:h.objs.size<=a)(hn:H a=vS):Un fs ex H (upd H a o) h h' where
 keep:=λb u q _ _ _=>k b u q
 slot:=λb u q _ _ _=>⟨u.slots,k b u q⟩
 free:=λb u q n _=>by rw[Aq (zF (zX (zW q) hp))];exact n
 there:=λb u q _=>⟨u,k b u q⟩
 tups:=λb xs q=>by rw[Aq (G7 q hn)];exact q
 frzs:=λb u xs q=>by rw[Aq (G7 q hn)];exact q
 tbls:=λb ps q=>⟨#[],by rw[Aq (G7 q hn),q];simp⟩
theorem Un.write(mu:Mut (H x))(he:e=x∨H e=vR (.own x))(k:∀b u,b≠e->h.get? b=vR u->h'.get? b=vR u)(heo:∃u,h'.get? e=vR u):Un fs ex H (upd H x o) h h':=by
 have hx:∀b,H b=vS->b≠x:=λb n z=>by subst z;rw[n]at mu;exact mu
 have hb:∀b,H b=vS->b≠e:=λb n z=>by
  subst z;rcases he with r|r
  ·exact hx b n r
  ·rw[n]at r;cases r
 have hm:∀b u,H b=vR u->¬Mut (vR u)->b≠x:=λb u q nm z=>by subst z;rw[q]at mu;exact nm mu
 refine⟨λb u q n _ _=>k b u (hb b n) q,λb u q n _ _=>⟨u.slots,k b u (hb b n) q⟩,λb u q n _=>by rw[Aq (hx b n)];exact n,λb u q _=>?_,
  λb xs q=>by rw[Aq (hm b _ q λz=>z)];exact q,λb u xs q=>by rw[Aq (hm b _ q λz=>z)];exact q,λb ps q=>⟨#[],by rw[Aq (hm b _ q λz=>z),q];simp⟩⟩
 by_cases hbe:b=e
 ·subst hbe;exact heo
 ·exact⟨u,k b u hbe q⟩
end
noncomputable def trk(h:Heap)(H:Hp):List xW:=(zJ h.objs.size).filter λa=>(H a).isSome
def Ho(h:Heap)(H:Hp):Heap:=PySem.W.hideAll h (trk h H)
theorem ZI8(h:Heap)(H:Hp):(Ho h H).objs.size=h.objs.size:=PySem.W.hideAll_size _ _
theorem ZFN{o:Obj}(e:h.get? b=vR o)(n:H b=vS):(Ho h H).get? b=vR o:=
 PySem.W.hideAll_get _ e λhm=>by have q:(H b).isSome=vT:=(j9.mp hm).2;rw[n]at q;simp at q
theorem ZI0{o:Obj}(e:(Ho h H).get? b=vR o):h.get? b=vR o/\H b=vS:=by
 have e':h.get? b=vR o:=PySem.W.of_hideAll (trk h H) e;refine⟨e',?_⟩;cases q:H b with
 |none=>rfl
 |some x=>
  have hm:b∈trk h H:=j9.mpr ⟨qX.mpr (zW e'),by simp[q]⟩;have z:(Ho h H).get? b=vS:=PySem.W.hideAll_none (trk h H) hm;rw[z]at e;cases e
noncomputable def ZFP(g h:Heap)(L:xW):List (xW×Obj):=(zJ h.objs.size).filterMap λa=>if a=L∨(g.get? a).isSome=vT then vS else(h.get? a).map λo=>(a,o)
def rest(g h:Heap)(L d:xW):List (xW×Obj):=(ZFP g h L).filter λp=>decide (p.1≠d)
structure Mod (K:PySem.W.Frag) (mg:Str->Option xB) (base:Heap):Prop where
 kin:K.In base
 glob:base.Ns vW mg
 blt:∃mb,base.Ns builtinsNs mb/\∀x:Str,x≠"__name__"->mb x=xL x
 nolimit:base.NoLimit
structure Cx where
 prog:xj
 w:xC
 K:PySem.W.Frag
 mg:Str->Option xB
 base:Heap
 A:xK
 N:List Str
 s₀:xy
 H₀:Hp
 env:Env
 outer:List Env
 stack:List Env
 ex:List xW
 fn:Str->Bool
 calm:Bool
 pn:List (xW×Obj)
 xe:xB->xy->Prop
variable{X:Cx}
noncomputable def frs(l:List Env):List xW:=l.filterMap (·.frame)
noncomputable abbrev Cx.fs(X:Cx):List xW:=frs X.outer
def Vis(sc:xk)(x:Str):Prop:=sc.names.lookup x=vR .local∨sc.names.lookup x=vR .cell∨sc.names.lookup x=vR .free
def Loc(sc:xk)(x:Str):Prop:=sc.names.lookup x=vR .local∨sc.names.lookup x=vR .cell
def Look(env:Env)(h:Heap)(m:Str->Option xB)(x:Str)(u:xB):Prop:=
 (env.kindOf x=vR .local/\m x=vR u)∨((env.kindOf x=vR .cell∨env.kindOf x=vR .free)/\∃c,env.cells.lookup x=vR c/\h.IsCell c (vR u))
structure Cx.Ok (X:Cx):Prop where
 mod:Mod X.K X.mg X.base
 kind:X.env.scope.kind=.function
 glob:X.env.globals=vW
 blt:X.env.builtins=builtinsNs
 above:X.s₀.heap.objs.size<=X.env.locals
 inj:∀x y c,X.env.cells.lookup x=vR c->X.env.cells.lookup y=vR c->x=y
 has:∀x,(X.env.kindOf x=vR .cell∨X.env.kindOf x=vR .free)->∃c,X.env.cells.lookup x=vR c
 cab:∀x c,X.fn x=vT->X.env.cells.lookup x=vR c->X.s₀.heap.objs.size<=c
 hd:X.calm=vT->X.A.handled=vS
 frames:X.A.frames=vR X.stack
 stk:X.stack=X.outer∨(X.stack=X.env::X.outer/\X.env.frame=vR X.env.locals)
 exf:∀b∈X.ex,b≠X.env.locals/\∀x c,X.env.cells.lookup x=vR c->c≠b
 bs:∀b o,X.base.get? b=vR o->X.s₀.heap.get? b=vR o/\X.H₀ b=vS
 bsz:X.base.objs.size<=X.s₀.heap.objs.size
 noex:∀b o,X.base.get? b=vR o->b∉X.ex
 exfs:∀b∈X.ex,b∉X.fs
 funs:X.s₀.heap.FunFrames X.base X.outer
 frf:∀b∈X.fs,X.H₀ b=vS
structure Inv (X:Cx) (pins:List (xW×Obj)) (σ:List (Option V)) (H:Hp) (s:xy):Prop where
 ok:X.Ok
 os:s.os=X.s₀.os
 bare:AllBare s.gens
 base:Un X.fs X.ex X.H₀ H X.s₀.heap s.heap
 loc:∃m,s.heap.Ns X.env.locals m/\∀(i:Nat)(x:Str)(v:V),X.N[i]?=vR x->σ[i]?=vR (vR v)->Vis X.env.scope x->∃u,RelV v u/\Look X.env s.heap m x u
 cell:∀x c,X.env.cells.lookup x=vR c->∃v,s.heap.IsCell c v
 free:H X.env.locals=vS
 Ey:∀x c,X.env.cells.lookup x=vR c->H c=vS
 pin:∀p∈X.pn++pins,s.heap.get? p.1=vR p.2/\H p.1=vS/\p.1≠X.env.locals/\p.1∉X.fs/\∀v,p.2.data≠ .cell v
 hok:HOk X.prog X.w H s.heap
 len:σ.length=X.N.length
section
variable{X:Cx}{pins:List (xW×Obj)}{σ:List (Option V)}{H H':Hp}{s:xy}{h':Heap}
theorem Cx.Ok.nofr(ok:X.Ok){o:Obj}(e:X.base.get? b=vR o):b∉X.fs:=λhb=>by have:=(ok.funs.mem hb).1;rw[e]at this;cases this
theorem Inv.bs(I:Inv X pins σ H s):∀b o,X.base.get? b=vR o->s.heap.get? b=vR o/\H b=vS:=λb o e=>
 ⟨I.base.keep b o (I.ok.bs b o e).1 (I.ok.bs b o e).2 (I.ok.nofr e) (I.ok.noex b o e),I.base.free b o (I.ok.bs b o e).1 (I.ok.bs b o e).2 (I.ok.noex b o e)⟩
theorem Inv.bk(I:Inv X pins σ H s):∀b o,X.base.get? b=vR o->s.heap.get? b=vR o:=λb o e=>(I.bs b o e).1
theorem Inv.mod(I:Inv X pins σ H s):Mod X.K X.mg X.base:=I.ok.mod
theorem Inv.kIn(I:Inv X pins σ H s):X.K.In s.heap:=I.ok.mod.kin.keeps I.bk
theorem Inv.nolimit(I:Inv X pins σ H s):s.heap.NoLimit:=I.ok.mod.nolimit.keeps I.bk
theorem Inv.lt(I:Inv X pins σ H s):X.env.locals<s.heap.objs.size:=let⟨_,hn,_⟩:=I.loc;hn.lt
theorem Inv.sz(I:Inv X pins σ H s):X.s₀.heap.objs.size<=s.heap.objs.size:=z0 I.ok.above (j5 I.lt)
theorem Inv.nofs(I:Inv X pins σ H s)(h:s.heap.objs.size<=a):a∉X.fs:=λhb=>by obtain⟨_,o,ho,_⟩:=I.ok.funs.mem hb;exact absurd (zX (zW ho) (z0 I.sz h)) (zT _)
theorem Inv.cne(I:Inv X pins σ H s):∀x c,X.env.cells.lookup x=vR c->c≠X.env.locals:=λx c e z=>by obtain⟨v,o,ho,hd⟩:=I.cell x c e;obtain⟨m,⟨o',es,ep,ho',hd',_⟩,_⟩:=I.loc;rw[z,ho']at ho;cases ho;rw[hd']at hd;cases hd
theorem Inv.funs(I:Inv X pins σ H s):s.heap.FunFrames X.base X.outer:=by
 have all:∀(l:List Env),(∀b∈frs l,b∈X.fs)->X.s₀.heap.FunFrames X.base l->s.heap.FunFrames X.base l:=by
  intro l
  induction l with
  |nil=>intro _ _;trivial
  |cons env r ih=>
   intro hs hl;obtain⟨hk,⟨L,o,hf,hn,ho,hd⟩,hr⟩:=hl;have hL:L∈X.fs:=hs L (by unfold frs;rw[zN,hf];exact zV);obtain⟨sl,e⟩:=I.base.slot L o ho (I.ok.frf L hL) hL λz=>I.ok.exfs L z hL
   exact⟨hk,⟨L,_,hf,hn,e,hd⟩,ih (λb hb=>hs b (by unfold frs;rw[zN,hf];exact zZ _ hb)) hr⟩
 exact all X.outer (λ_ hb=>hb) I.ok.funs
theorem Inv.stack(I:Inv X pins σ H s):s.heap.FunFrames X.base X.stack:=by
 rcases I.ok.stk with e|⟨e,hf⟩
 ·rw[e];exact I.funs
 ·rw[e];obtain⟨m,hn,_⟩:=I.loc;refine .cons (by rw[I.ok.kind];decide) hf hn ?_ I.funs;exact jR (z0 I.ok.bsz I.ok.above)
theorem Inv.Nz(I:Inv X pins σ H s):∀b∈frs X.stack,b∈X.env.locals::X.fs:=λb hb=>by
 rcases I.ok.stk with e|⟨e,hf⟩
 ·rw[e]at hb;exact zZ _ hb
 ·rw[e]at hb;unfold frs at hb;rw[zN,hf]at hb;exact hb
theorem Inv.Q7(I:Inv X pins σ H s):∀b∈frs X.stack,H b=vS:=λb hb=>by
 rcases zq.mp (I.Nz b hb)with e|hb
 ·rw[e];exact I.free
 ·obtain⟨_,o,ho,_⟩:=I.ok.funs.mem hb;exact I.base.free b o ho (I.ok.frf b hb) λz=>I.ok.exfs b z hb
theorem Inv.step{g':Array GenState}{d':Drawn}(I:Inv X pins σ H s)
  (hch:∀b∈ch,(b∈X.ex∨X.s₀.heap.objs.size<=b)/\b≠X.env.locals/\(∀x c,X.env.cells.lookup x=vR c->c≠b)/\∀p∈X.pn++pins,p.1≠b)
  (keep:∀b o,b≠X.env.locals->b∉X.fs->b∉ch->s.heap.get? b=vR o->H b=vS->h'.get? b=vR o)
  (slot:∀b o,b≠X.env.locals->b∈X.fs->b∉ch->s.heap.get? b=vR o->H b=vS->∃sl,h'.get? b=vR {o with slots:=sl}) (free:∀b o,b∉ch->s.heap.get? b=vR o->H b=vS->H' b=vS)
  (there:∀b o,b∉ch->s.heap.get? b=vR o->∃o',h'.get? b=vR o')
  (tups:∀b xs,H b=vR (.tup xs)->H' b=vR (.tup xs)) (frzs:∀b o u,H b=vR (.frz o u)->H' b=vR (.frz o u)) (tbls:∀b ps,H b=vR (.tbl ps)->∃more,H' b=vR (.tbl (ps++more)))
  (ns:∀m,s.heap.Ns X.env.locals m->h'.Ns X.env.locals m) (hok:HOk X.prog X.w H' h') (hg:AllBare g'):
  Inv X pins σ H' {s with heap:=h',gens:=g',drawn:=d',toks:=t'}:=by
 have neL:∀b o,X.s₀.heap.get? b=vR o->b≠X.env.locals:=λb o e=>zF (zX (zW e) I.ok.above)
 have neC:∀b o,X.s₀.heap.get? b=vR o->b∉X.ex->b∉ch:=λb o e hx hb=>by
  rcases(hch b hb).1 with z|z
  ·exact hx z
  ·exact absurd (zX (zW e) z) (zT _)
 have cellK:∀x c,X.env.cells.lookup x=vR c->∀v,s.heap.IsCell c v->h'.IsCell c v:=λx c e v ⟨o,ho,hd⟩=>by
  have nch:c∉ch:=λz=>(hch c z).2.2.1 x c e rfl
  by_cases hc:c∈X.fs
  ·obtain⟨sl,q⟩:=slot c o (I.cne x c e) hc nch ho (I.Ey x c e);exact⟨_,q,hd⟩
  ·exact⟨o,keep c o (I.cne x c e) hc nch ho (I.Ey x c e),hd⟩
 refine⟨I.ok,I.os,hg,⟨λb o e n hb hx=>?_,λb o e n hb hx=>?_,λb o e n hx=>?_,λb o e hx=>?_,λb xs e=>tups b xs (I.base.tups b xs e),λb o xs e=>frzs b o xs (I.base.frzs b o xs e),λb ps e=>?_⟩,?_,λx c e=>?_,?_,λx c e=>?_,λp hp=>?_,hok,I.len⟩
 ·exact keep b o (neL b o e) hb (neC b o e hx) (I.base.keep b o e n hb hx) (I.base.free b o e n hx)
 ·obtain⟨sl,e1⟩:=I.base.slot b o e n hb hx;obtain⟨sl',e2⟩:=slot b _ (neL b o e) hb (neC b o e hx) e1 (I.base.free b o e n hx);exact⟨sl',e2⟩
 ·obtain⟨o',e1⟩:=I.base.there b o e hx;exact free b o' (neC b o e hx) e1 (I.base.free b o e n hx)
 ·obtain⟨o',e1⟩:=I.base.there b o e hx;exact there b o' (neC b o e hx) e1
 ·obtain⟨m1,e1⟩:=I.base.tbls b ps e;obtain⟨m2,e2⟩:=tbls b _ e1;exact⟨m1++m2,by rw[e2,Array.append_assoc]⟩
 ·obtain⟨m,hn,hl⟩:=I.loc;refine⟨m,ns m hn,λi x v e1 e2 e3=>?_⟩;obtain⟨u,r,l⟩:=hl i x v e1 e2 e3;refine⟨u,r,?_⟩;rcases l with l|⟨k,c,e,z⟩
  ·exact .inl l
  ·exact .inr ⟨k,c,e,cellK x c e _ z⟩
 ·obtain⟨v,z⟩:=I.cell x c e;exact⟨v,cellK x c e v z⟩
 ·obtain⟨m,⟨o,_,_,ho,_⟩,_⟩:=I.loc;exact free _ o (λz=>(hch _ z).2.1 rfl) ho I.free
 ·obtain⟨v,o,ho,hd⟩:=I.cell x c e;exact free c o (λz=>(hch c z).2.2.1 x c e rfl) ho (I.Ey x c e)
 ·obtain⟨e,n,ne,nf,d⟩:=I.pin p hp;have nch:p.1∉ch:=λz=>(hch p.1 z).2.2.2 p hp rfl
  exact⟨keep p.1 p.2 ne nf nch e n,free p.1 p.2 nch e n,ne,nf,d⟩
theorem Inv.un(I:Inv X pins σ H s)(u:Un X.fs [] H H' s.heap h')(hok:HOk X.prog X.w H' h'):Inv X pins σ H' {s with heap:=h',toks:=t'}:=by
 obtain⟨m,⟨o,es,ep,ho,r⟩,_⟩:=id I.loc;obtain⟨sl,hL⟩:=u.any ho I.free (by simp)
 exact I.step (g':=s.gens) (d':=s.drawn) (ch:=[]) (λ_ z=>nomatch z) (λb o _ hb _ e n=>u.keep b o e n hb (by simp)) (λb o _ hb _ e n=>u.slot b o e n hb (by simp)) (λb o _ e n=>u.free b o e n (by simp)) (λb o _ e=>u.there b o e (by simp)) u.tups u.frzs u.tbls (λm' hm=>by obtain⟨o',es',ep',ho',r'⟩:=hm;rw[ho]at ho';cases ho';exact⟨_,es',ep',hL,r'⟩) hok I.bare
theorem Inv.call{g':Array GenState}{d':Drawn}(I:Inv X pins σ H s)(u:Un (frs X.stack) ch H H' s.heap h')(hok:HOk X.prog X.w H' h')(hg:AllBare g')
  (hch:∀b∈ch,(b∈X.ex∨X.s₀.heap.objs.size<=b)/\b≠X.env.locals/\(∀x c,X.env.cells.lookup x=vR c->c≠b)/\∀p∈X.pn++pins,p.1≠b):
  Inv X pins σ H' {s with heap:=h',gens:=g',drawn:=d',toks:=t'}:=by
 obtain⟨m,⟨o,es,ep,ho,r⟩,_⟩:=id I.loc;obtain⟨sl,hL⟩:=u.any ho I.free λz=>(hch _ z).2.1 rfl
 exact I.step (ch:=ch) hch (λb o hL hb hc e n=>u.keep b o e n (λz=>(zq.mp (I.Nz b z)).elim hL hb) hc) (λb o _ _ hc e n=>u.any e n hc) (λb o hc e n=>u.free b o e n hc) (λb o hc e=>u.there b o e hc) u.tups u.frzs u.tbls (λm' hm=>by obtain⟨o',es',ep',ho',r'⟩:=hm;rw[ho]at ho';cases ho';exact⟨_,es',ep',hL,r'⟩) hok hg
theorem Inv.turned{it:xW}(I:Inv X pins σ H s)(k:∀b o,b≠it->s.heap.get? b=vR o->h'.get? b=vR o)(hn:H it=vS)(hL:it≠X.env.locals)
  (h1:it∈X.ex∨X.s₀.heap.objs.size<=it) (h2:∀x c,X.env.cells.lookup x=vR c->c≠it) (h3:∀p∈X.pn++pins,p.1≠it):Inv X pins σ H {s with heap:=h',toks:=t'}:=by
 have nit:∀b u,H b=vR u->b≠it:=λb u e z=>by rw[z,hn]at e;cases e
 refine I.step (g':=s.gens) (d':=s.drawn) (ch:=[it]) (λb hb=>?_) (λb o _ _ hc e _=>k b o (λz=>hc (by simp[z])) e) (λb o _ _ hc e _=>⟨o.slots,k b o (λz=>hc (by simp[z])) e⟩) (λ_ _ _ _ n=>n)
  (λb o hc e=>⟨o,k b o (λz=>hc (by simp[z])) e⟩) (λ_ _ e=>e) (λ_ _ _ e=>e) (λb ps e=>⟨#[],by rw[e];simp⟩) (λm hm=>?_) (λb u e=>?_) I.bare
 ·have e:b=it:=by simpa using hb
  subst e;exact⟨h1,hL,h2,h3⟩
 ·obtain⟨o,es,ep,ho,r⟩:=hm;exact⟨o,es,ep,k _ o (Ne.symm hL) ho,r⟩
 ·refine(I.hok b u e).stay (λc v hc q=>k c v ?_ q) (λ_ q=>q) λ_ _ q=>q
  rcases hc with z|z
  ·rw[z];exact nit b u e
  ·exact nit c _ z
theorem Inv.tok(I:Inv X pins σ H s)(t:Nat):Inv X pins σ H {s with toks:=t}:=I.un (h':=s.heap) (t':=t) Un.refl I.hok
theorem Inv.kept(I:Inv X pins σ H s)(k:∀b u,s.heap.get? b=vR u->h'.get? b=vR u):Inv X pins σ H {s with heap:=h',toks:=t'}:=I.un (Un.kept k) (I.hok.kept k)
theorem Inv.laid(I:Inv X pins σ H s)(k:∀b u,s.heap.get? b=vR u->h'.get? b=vR u)(hp:s.heap.objs.size<=a)(new:ObjOk X.prog X.w (upd H a o) h' a o):
  Inv X pins σ (upd H a o) {s with heap:=h',toks:=t'}:=I.un (Un.laid k hp (I.hok.fresh hp)) (I.hok.laid k hp new)
theorem Inv.write{x e:xW}(I:Inv X pins σ H s)(mu:Mut (H x))(he:e=x∨H e=vR (.own x))(k:∀b u,b≠e->s.heap.get? b=vR u->h'.get? b=vR u)(heo:∃u,h'.get? e=vR u)
  (new:ObjOk X.prog X.w (upd H x o) h' x o):Inv X pins σ (upd H x o) {s with heap:=h',toks:=t'}:=I.un (Un.write mu he k heo) (I.hok.write mu he k heo new)
theorem Inv.Gs{pins':List (xW×Obj)}(I:Inv X pins σ H s)(h:∀p∈pins',s.heap.get? p.1=vR p.2/\H p.1=vS/\p.1≠X.env.locals/\p.1∉X.fs/\∀v,p.2.data≠ .cell v):Inv X pins' σ H s:=
 ⟨I.ok,I.os,I.bare,I.base,I.loc,I.cell,I.free,I.Ey,λp hp=>(jA.mp hp).elim (λz=>I.pin p (jS _ z)) (h p),I.hok,I.len⟩
theorem Yx{N:List Str}(hN:N.Nodup){j:Nat}(a:N[i]?=vR x)(b:N[j]?=vR x):i=j:=by obtain⟨h1,e1⟩:=zk.mp a;obtain⟨h2,e2⟩:=zk.mp b;exact(List.getElem_inj hN).mp (e1.trans e2.symm)
theorem ZA1{M:Model}{A:xK}{E:xB->xy->Prop}(I:Inv X pins σ H s)(hN:X.N.Nodup)(hi:X.N[i]?=vR x)(hx:Loc X.env.scope x)(r:RelV v u)
  (h:∀s',Inv X pins (σ.set i (vR v)) H s'->(∃a,qx a s.heap s'.heap/\(a=X.env.locals∨X.env.cells.lookup x=vR a))->Q () s') (hf:X.fn x=vT∨X.env.scope.names.lookup x=vR .local:=by first|exact .inl rfl|exact .inr rfl|assumption):vk M A (storeName X.env x u) Q E s:=by
 obtain⟨m,hn,hl⟩:=id I.loc;have hcls:(X.env.scope.kind == .class||(X.env.scope.kind == .module&&X.env.locals != X.env.globals))=vU:=by rw[I.ok.kind];rfl
 have hiσ:i<σ.length:=by rw[I.len];exact(zk.mp hi).1
 have cne:=I.cne;have tracked:∀{a:xW}{h':Heap},(∃o,s.heap.get? a=vR o/\H a=vS)->qx a s.heap h'->HOk X.prog X.w H h':=λ{a h'}ha hs b ob e=>by
  obtain⟨_,_,hfree⟩:=ha;refine(I.hok b ob e).stay (λc w' hc q=>(hs.2 c ?_).trans q) (λ_ q=>q) λ_ _ q=>q
  rintro rfl;rcases hc with rfl|hc
  ·rw[hfree]at e;cases e
  ·rw[hfree]at hc;cases hc
 rcases hx with hk|hk
 ·refine wpAny_storeName_local hk hn (λh' hn' hs=>?_) hcls;obtain⟨oL,_,_,hoL,_⟩:=id hn;refine h _ ⟨I.ok,I.os,I.bare,⟨λb o e n hb hx=>?_,λb o e n hb hx=>?_,I.base.free,λb o e hx=>?_,I.base.tups,I.base.frzs,I.base.tbls⟩,⟨_,hn',λj y v' e1 e2 e3=>?_⟩,λy c e=>?_,I.free,I.Ey,λp hp=>?_,tracked ⟨oL,hoL,I.free⟩ hs,by simpa using I.len⟩ ⟨_,hs,.inl rfl⟩
  ·exact(hs.2 b (zF (zX (zW e) I.ok.above))).trans (I.base.keep b o e n hb hx)
  ·obtain⟨sl,e1⟩:=I.base.slot b o e n hb hx;exact⟨sl,(hs.2 b (zF (zX (zW e) I.ok.above))).trans e1⟩
  ·obtain⟨o',e1⟩:=I.base.there b o e hx;exact⟨o',(hs.2 b (zF (zX (zW e) I.ok.above))).trans e1⟩
  ·by_cases hj:j=i
   ·subst hj;rw[hi]at e1;cases e1;rw[qZ hiσ]at e2;cases e2;exact⟨u,r,.inl ⟨hk,by simp⟩⟩
   ·rw[zw (Ne.symm hj)]at e2;obtain⟨u',r',q⟩:=hl j y v' e1 e2 e3;refine⟨u',r',?_⟩;rcases q with⟨k,e⟩|⟨k,c,e,z⟩
    ·refine .inl ⟨k,?_⟩;have:y≠x:=λe=>hj (Yx hN e1 (e▸hi))
     simp[this,e]
    ·exact .inr ⟨k,c,e,z.sameBut hs (cne y c e)⟩
  ·obtain⟨w',z⟩:=I.cell y c e;exact⟨w',z.sameBut hs (cne y c e)⟩
  ·obtain⟨e,n,ne,nf,d⟩:=I.pin p hp;exact⟨(hs.2 p.1 ne).trans e,n,ne,nf,d⟩
 ·have hfn:X.fn x=vT:=by
   rcases hf with z|z
   ·exact z
   ·rw[z]at hk;cases hk
  obtain⟨c,hc⟩:=I.ok.has x (.inl hk);obtain⟨w',z⟩:=I.cell x c hc;refine wpAny_storeName_cell I.ok.kind hk hc z (λh' hc' hs=>?_);obtain⟨oc,hoc,hocd⟩:=id z;refine h {s with heap:=h'} ⟨I.ok,I.os,I.bare,⟨λb o e n hb hx=>?_,λb o e n hb hx=>?_,I.base.free,λb o e hx=>?_,I.base.tups,I.base.frzs,I.base.tbls⟩,⟨m,hn.sameBut hs (Ne.symm (cne x c hc)),λj y v' e1 e2 e3=>?_⟩,λy c' e=>?_,I.free,I.Ey,λp hp=>?_,tracked ⟨oc,hoc,I.Ey x c hc⟩ hs,by simpa using I.len⟩ ⟨c,hs,.inr hc⟩
  ·exact(hs.2 b (zF (zX (zW e) (I.ok.cab x c hfn hc)))).trans (I.base.keep b o e n hb hx)
  ·obtain⟨sl,e1⟩:=I.base.slot b o e n hb hx;exact⟨sl,(hs.2 b (zF (zX (zW e) (I.ok.cab x c hfn hc)))).trans e1⟩
  ·obtain⟨o',e1⟩:=I.base.there b o e hx;exact⟨o',(hs.2 b (zF (zX (zW e) (I.ok.cab x c hfn hc)))).trans e1⟩
  ·by_cases hj:j=i
   ·subst hj;rw[hi]at e1;cases e1;rw[qZ hiσ]at e2;cases e2;exact⟨u,r,.inr ⟨.inl hk,c,hc,hc'⟩⟩
   ·rw[zw (Ne.symm hj)]at e2;obtain⟨u',r',q⟩:=hl j y v' e1 e2 e3;refine⟨u',r',?_⟩;rcases q with q|⟨k,c',e,z'⟩
    ·exact .inl q
    ·refine .inr ⟨k,c',e,z'.sameBut hs ?_⟩;rintro rfl;exact hj (Yx hN e1 (I.ok.inj _ _ _ e hc▸hi))
  ·by_cases hcc:c'=c
   ·subst hcc;exact⟨_,hc'⟩
   ·obtain⟨w2,z2⟩:=I.cell y c' e;exact⟨w2,z2.sameBut hs hcc⟩
  ·obtain⟨e,n,ne,nf,d⟩:=I.pin p hp;refine⟨(hs.2 p.1 ?_).trans e,n,ne,nf,d⟩;intro q;rw[q,hoc]at e;have q':oc=p.2:=Option.some.inj e;exact d w' (by rw[<-q'];exact hocd)
theorem Xz{M:Model}{A:xK}{E:xB->xy->Prop}(I:Inv X pins σ H s)(hN:X.N.Nodup)(hi:X.N[i]?=vR x)(hx:Loc X.env.scope x)(r:RelV v u)
  (h:∀s',Inv X pins (σ.set i (vR v)) H s'->Q () s') (hf:X.fn x=vT∨X.env.scope.names.lookup x=vR .local:=by first|exact .inl rfl|exact .inr rfl|assumption):vk M A (storeName X.env x u) Q E s:=
 ZA1 I hN hi hx r (λs' I' _=>h s' I') hf
theorem Inv.call'{s':xy}(I:Inv X pins σ H s)(ho:s'.os=s.os)(u:Un (frs X.stack) ch H H' s.heap s'.heap)(hok:HOk X.prog X.w H' s'.heap)(hg:AllBare s'.gens)
  (hch:∀b∈ch,(b∈X.ex∨X.s₀.heap.objs.size<=b)/\b≠X.env.locals/\(∀x c,X.env.cells.lookup x=vR c->c≠b)/\∀p∈X.pn++pins,p.1≠b):Inv X pins σ H' s':=by
 obtain⟨h',g',d',t',o'⟩:=s';have e:o'=s.os:=ho;subst e;exact I.call (g':=g') (t':=t') (d':=d') u hok hg hch
end
noncomputable abbrev XK:=xB->Option xW->Hp->Prop
noncomputable abbrev St:=List (Option V)
variable{σ:St}
noncomputable abbrev VK:=V->Hp->Prop
noncomputable abbrev TE:=St->Hp->VK->Prop
noncomputable abbrev TT:=St->Hp->(Bool->Hp->Prop)->Prop
noncomputable abbrev TA:=St->Hp->(List V->Hp->Prop)->Prop
structure Ends where
 nx:St->Hp->Prop
 rt:VK
 bk:St->Hp->Prop:=λ_ _=>False
 ct:St->Hp->Prop:=λ_ _=>False
noncomputable abbrev TS:=Ends->St->Hp->Prop
def EP(X:Cx)(pins:List (xW×Obj))(σ:St)(Q:VK)(u:xB)(s':xy):Prop:=∃v H',Inv X pins σ H' s'/\RelV v u/\Q v H'
def TP(X:Cx)(pins:List (xW×Obj))(σ:St)(Q:Bool->Hp->Prop)(b:Bool)(s':xy):Prop:=∃H',Inv X pins σ H' s'/\Q b H'
def AP(X:Cx)(pins:List (xW×Obj))(σ:St)(Q:List V->Hp->Prop)(us:List xB)(s':xy):Prop:=∃vs H',Inv X pins σ H' s'/\Vals vs us/\Q vs H'
def SP(X:Cx)(pins:List (xW×Obj))(D:Ends)(f:Flow)(s':xy):Prop:=
 match f with
 |.next=>∃σ' H',Inv X pins σ' H' s'/\D.nx σ' H'
 |.brk=>∃σ' H',Inv X pins σ' H' s'/\D.bk σ' H'
 |.cont=>∃σ' H',Inv X pins σ' H' s'/\D.ct σ' H'
 |.ret u=>∃v σ' H',Inv X pins σ' H' s'/\RelV v u/\D.rt v H'
def PE(X:Cx)(e:xY)(t:TE):Prop:=
 ∀(pins:List (xW×Obj))(s:xy)(σ:St)(H:Hp)(Q:VK),Inv X pins σ H s->t σ H Q->vk (vK X.prog X.w) X.A (eval e X.env) (EP X pins σ Q) X.xe s
def PT(X:Cx)(e:xY)(t:TT):Prop:=
 ∀(pins:List (xW×Obj))(s:xy)(σ:St)(H:Hp)(Q:Bool->Hp->Prop),Inv X pins σ H s->t σ H Q->vk (vK X.prog X.w) X.A (isTrue e X.env (eval e X.env)) (TP X pins σ Q) X.xe s
def PW(X:Cx)(e:xY)(t:TT):Prop:=
 ∀(whole:Sem xB)(pins:List (xW×Obj))(s:xy)(σ:St)(H:Hp)(Q:Bool->Hp->Prop),Inv X pins σ H s->t σ H Q->vk (vK X.prog X.w) X.A (isTrue e X.env whole) (TP X pins σ Q) X.xe s
theorem PW.pt{t:TT}(h:PW X e t):PT X e t:=h _
def PA(X:Cx)(es:List xY)(t:TA):Prop:=
 ∀(pos:Pos)(pins:List (xW×Obj))(s:xy)(σ:St)(H:Hp)(Q:List V->Hp->Prop),Inv X pins σ H s->t σ H Q->vk (vK X.prog X.w) X.A (spliced (xF pos (vj es X.env))) (AP X pins σ Q) X.xe s
def PS(X:Cx)(st:xA)(t:TS):Prop:=
 ∀(pins:List (xW×Obj))(s:xy)(σ:St)(H:Hp)(D:Ends),Inv X pins σ H s->t D σ H->vk (vK X.prog X.w) X.A (exec st X.env) (SP X pins D) X.xe s
def PSs(X:Cx)(st:List xA)(t:TS):Prop:=
 ∀(pins:List (xW×Obj))(s:xy)(σ:St)(H:Hp)(D:Ends),Inv X pins σ H s->t D σ H->vk (vK X.prog X.w) X.A (execs st X.env) (SP X pins D) X.xe s
theorem thn{α:Type}{t:Sem α}{Q Q':α->xy->Prop}{M:Model}(h:vk M A t Q E s)(hQ:∀a s,Q a s->Q' a s):vk M A t Q' E s:=vG h hQ λ_ _ x=>x
section
variable{X:Cx}
noncomputable def Lk(i:Nat):TE:=λσ H Q=>∃v,σ[i]?=vR (vR v)/\Q v H
noncomputable def tC(v:V):TE:=λ_ H Q=>Q v H
theorem Oh{pos:Pos}(hN:X.N[i]?=vR x)(hv:Vis X.env.scope x)(hd:(x==("__debug__":Str))=vU:=by decide)(hcd:(x==("__classdict__":Str))=vU:=by decide):PE X (.Name x pos) (Lk i):=by
 intro pins s σ H Q I h;obtain⟨v,e,h⟩:=h;obtain⟨m,hn,hl⟩:=I.loc;obtain⟨u,r,l⟩:=hl i x v hN e hv;have fin:EP X pins σ Q u s:=⟨v,H,I,r,h⟩;rcases l with⟨hk,hm⟩|⟨hk,c,hc,hcell⟩
 ·exact wpAny_Name (wpAny_loadName_local I.ok.kind hk hn hm fin) hd
 ·rcases hk with hk|hk
  ·exact wpAny_Name (wpAny_loadName_cell I.ok.kind hk hc hcell fin) hd
  ·exact wpAny_Name (wpAny_loadName_free I.ok.kind hk hc hcell fin hcd) hd
theorem ZMS{i j pos}:PE X (.Constant (.int i) j pos) (tC (.int i)):=λ_ _ _ H _ I h=>wpAny_Constant_int ⟨.int i,H,I.tok _,⟨_,rfl⟩,h⟩
theorem ZIm{b j pos}:PE X (.Constant (.bool b) j pos) (tC (.bl b)):=λ_ _ _ H _ I h=>Constant_bool ⟨.bl b,H,I,rfl,h⟩
theorem ZLZ{j pos}:PE X (.Constant .none j pos) (tC .non):=λ_ _ _ H _ I h=>Constant_none ⟨.non,H,I,rfl,h⟩
theorem W8{x j pos}:PE X (.Constant (.str x) j pos) (tC (.str x)):=λ_ _ _ H _ I h=>Calls.Constant_str ⟨.str x,H,I.tok _,⟨_,rfl⟩,h⟩
def Gl(X:Cx)(x:Str):Prop:=X.env.kindOf x=vR .globalImplicit
theorem Jq{E:xB->xy->Prop}{pos:Pos}{Q:xB->xy->Prop}(I:Inv X pins σ H s)(hg:Gl X x)(hm:X.mg x=vR u)(h:Q u s)
  (hd:(x==("__debug__":Str))=vU:=by decide):vk (vK X.prog X.w) X.A (eval (.Name x pos) X.env) Q E s:=
 Calls.Name_function_global I.ok.kind hg (Calls.loadGlobal_global (by rw[I.ok.glob];exact I.mod.glob.keeps I.bk) hm h) hd
theorem Il{E:xB->xy->Prop}{pos:Pos}{Q:xB->xy->Prop}(I:Inv X pins σ H s)(hg:Gl X x)(hm:X.mg x=vS)(hv:xL x=vR u)(h:Q u s)
  (hn:x≠"__name__":=by decide) (hd:(x==("__debug__":Str))=vU:=by decide):vk (vK X.prog X.w) X.A (eval (.Name x pos) X.env) Q E s:=by
 obtain⟨mb,h1,h2⟩:=I.mod.blt;exact Calls.Name_function_global I.ok.kind hg (Calls.loadGlobal_builtin (by rw[I.ok.glob];exact I.mod.glob.keeps I.bk) hm (by rw[I.ok.blt];exact h1.keeps I.bk) ((h2 x hn).trans hv) h) hd
theorem ZAE{pos:Pos}(hg:Gl X x)(hm:X.mg x=vR u)(r:RelV v u)(hd:(x==("__debug__":Str))=vU:=by decide):PE X (.Name x pos) (tC v):=
 λ_ _ _ H _ I h=>Jq I hg hm ⟨v,H,I,r,h⟩ hd
theorem ZBw{pos:Pos}(hg:Gl X x)(hm:X.mg x=vS)(hv:xL x=vR u)(r:RelV v u)(hn:x≠"__name__":=by decide)(hd:(x==("__debug__":Str))=vU:=by decide):PE X (.Name x pos) (tC v):=
 λ_ _ _ H _ I h=>Il I hg hm hv ⟨v,H,I,r,h⟩ hn hd
variable{a b:xY}{ta tb:TE}{pos:Pos}
def PC(X:Cx)(op:CmpOp)(a b:xY)(t:TE):Prop:=
 ∀(pins:List (xW×Obj))(s:xy)(σ:St)(H:Hp)(Q:VK),Inv X pins σ H s->t σ H Q->
  vk (vK X.prog X.w) X.A (eval a X.env) (λv s₁=>vk (vK X.prog X.w) X.A (eval b X.env) (λu s₂=>vk (vK X.prog X.w) X.A (xP op v u) (EP X pins σ Q) X.xe s₂) X.xe s₁) X.xe s
noncomputable def tB(t:TE):TT:=λσ H Q=>t σ H λx H1=>∃c,x=.bl c/\Q c H1
theorem ZKn{t:TE}(h:PE X e t)(he:∀whole,isTrue e X.env whole=(do let v<-whole;standAt e.pos;holding [v] (truthy v)):=by intro _;rfl):PT X e (tB t):=by intro pins s σ H Q I hw;refine isTrue_plain (thn (h pins s σ H _ I hw) λv s1 ⟨x,H1,I1,r1,q1⟩=>?_) (he _);obtain⟨d,rfl,q⟩:=q1;cases r1;exact vN ⟨H1,I1,q⟩
variable{tA tB':TT}{rest:List xY}
noncomputable def tAnd(t u:TT):TT:=λσ H Q=>t σ H λc H1=>if c=vT then u σ H1 Q else Q vU H1
noncomputable def tOr(t u:TT):TT:=λσ H Q=>t σ H λc H1=>if c=vT then Q vT H1 else u σ H1 Q
noncomputable def tNot(t:TT):TT:=λσ H Q=>t σ H λc H1=>Q (!c) H1
theorem pw_and1(ha:PT X a tA):PW X (.BoolOp .And [a] pos) tA:=by
 intro wh pins s σ H Q I h;refine isTrue_and (thn (ha pins s σ H Q I h) λc s1 e=>?_);cases c with
 |true=>exact isTrue_and_nil e
 |false=>exact e
theorem pw_or1(ha:PT X a tA):PW X (.BoolOp .Or [a] pos) tA:=by
 intro wh pins s σ H Q I h;refine isTrue_or (thn (ha pins s σ H Q I h) λc s1 e=>?_);cases c with
 |false=>exact isTrue_or_nil e
 |true=>exact e
theorem pw_and(ha:PT X a tA)(hb:PW X (.BoolOp .And (b::rest) pos) tB'):PW X (.BoolOp .And (a::b::rest) pos) (tAnd tA tB'):=by
 intro wh pins s σ H Q I h;refine isTrue_and (thn (ha pins s σ H _ I h) λc s1 ⟨H1,I1,q1⟩=>?_);cases c with
 |true=>exact hb wh pins s1 σ H1 Q I1 q1
 |false=>exact⟨H1,I1,q1⟩
theorem pw_or(ha:PT X a tA)(hb:PW X (.BoolOp .Or (b::rest) pos) tB'):PW X (.BoolOp .Or (a::b::rest) pos) (tOr tA tB'):=by
 intro wh pins s σ H Q I h;refine isTrue_or (thn (ha pins s σ H _ I h) λc s1 ⟨H1,I1,q1⟩=>?_);cases c with
 |true=>exact⟨H1,I1,q1⟩
 |false=>exact hb wh pins s1 σ H1 Q I1 q1
theorem ZJQ(ha:PT X a tA):PT X (.UnaryOp .Not a pos) (tNot tA):=by intro pins s σ H Q I h;exact isTrue_not (ha pins s σ H (λc H1=>Q (!c) H1) I h)
noncomputable def ZKR(ta tb:TE):TE:=λσ H Q=>ta σ H λx H1=>∃c,x=.bl c/\if c=vT then tb σ H1 Q else Q (.bl vU) H1
noncomputable def ZLF(ta:TE):TE:=λσ H Q=>ta σ H λx H1=>∃c,x=.bl c/\Q (.bl (!c)) H1
theorem ZFd{op}{t:TE}(h:PE X a t):PE X (.BoolOp op [a] pos) t:=λpins s σ H Q I hw=>BoolOp_one (h pins s σ H Q I hw)
theorem ZKZ(ha:PE X a ta)(hb:PE X (.BoolOp .And (b::rest) pos) tb):PE X (.BoolOp .And (a::b::rest) pos) (ZKR ta tb):=by
 intro pins s σ H Q I h;refine BoolOp_and (thn (ha pins s σ H _ I h) λv s1 ⟨x,H1,I1,r1,q1⟩=>?_);obtain⟨c,rfl,q1⟩:=q1;cases r1;refine vN ?_;cases c with
 |true=>exact hb pins s1 σ H1 Q I1 q1
 |false=>exact⟨.bl vU,H1,I1,rfl,q1⟩
theorem ZJk(ha:PE X a ta):PE X (.UnaryOp .Not a pos) (ZLF ta):=by intro pins s σ H Q I h;refine UnaryOp_ (thn (ha pins s σ H _ I h) λv s1 ⟨x,H1,I1,r1,q1⟩=>?_);obtain⟨c,rfl,q1⟩:=q1;cases r1;exact not_of (vN ⟨.bl (!c),H1,I1,rfl,q1⟩)
noncomputable def tIf(t:TT)(ta tb:TE):TE:=λσ H Q=>t σ H λc H1=>if c=vT then ta σ H1 Q else tb σ H1 Q
theorem ZJD(hc:PT X c tA)(ha:PE X a ta)(hb:PE X b tb):PE X (.IfExp c a b pos) (tIf tA ta tb):=by
 intro pins s σ H Q I h;refine wpAny_IfExp (thn (hc pins s σ H _ I h) λd s1 ⟨H1,I1,q1⟩=>?_);cases d with
 |true=>exact ha pins s1 σ H1 Q I1 q1
 |false=>exact hb pins s1 σ H1 Q I1 q1
end
def SqL(K:PySem.W.Frag)(H:Hp)(a:xW)(xs:List V):Prop:=
 Rd H a (.lst xs)∨
  ∃(o:Obj)(its:Array xB)(n:Nat),K.lookup a=vR o/\o.cls=.type "list"/\o.dict=vS/\o.data=.seq its n/\its.size<=sizeLine/\Vals xs its.toList
def SqT(K:PySem.W.Frag)(H:Hp)(a:xW)(xs:List V):Prop:=
 Rd H a (.tup xs)∨
  ∃(o:Obj)(its:Array xB)(n:Nat),K.lookup a=vR o/\o.cls=.type "tuple"/\o.data=.seq its n/\its.size<=sizeLine/\Vals xs its.toList
noncomputable def absV:xB->Option V
 |.none=>vR .non
 |.bool b=>vR (.bl b)
 |.int i _=>vR (.int i)
 |.str x _=>vR (.str x)
 |.bytes b _=>vR (.byt b)
 |.float b _=>vR (.flt b)
 |.ref a=>vR (.ref a)
 |.type n=>vR (.ty n)
 |_=>vS
theorem RelV.abs{x:V}(r:RelV x u):absV u=vR x:=by
 cases x with
 |non=>cases r;rfl
 |bl _=>cases r;rfl
 |int _=>obtain⟨t,rfl⟩:=r;rfl
 |str _=>obtain⟨t,rfl⟩:=r;rfl
 |byt _=>obtain⟨t,rfl⟩:=r;rfl
 |flt _=>obtain⟨t,rfl⟩:=r;rfl
 |ref _=>cases r;rfl
 |ty _=>cases r;rfl
theorem RelV.inj{x:V}(r:RelV x u)(q:RelV y u):x=y:=Option.some.inj (r.abs.symm.trans q.abs)
theorem Vals.inj:∀{xs ys:List V}{us:List xB},Vals xs us->Vals ys us->xs=ys
 |_,_,_,.nil,.nil=>rfl
 |_,_,_,.cons r t,.cons r' t'=>by rw[r.inj r',Vals.inj t t']
section
variable{X:Cx}{pins:List (xW×Obj)}{σ:St}{H:Hp}{s:xy}{a:xW}{xs ys:List V}
theorem SqL.of(h:H a=vR (.lst xs)):SqL K H a xs:=.inl (.inl h)
theorem SqT.of(h:H a=vR (.tup xs)):SqT K H a xs:=.inl (.inl h)
theorem Inv.list(I:Inv X pins σ H s)(h:SqL X.K H a xs):∃its:List xB,Vals xs its/\PlainL s.heap a its.toArray/\xs.length<=sizeLine:=by
 rcases h with h|⟨o,its,n,hk,hc,hd,hs,hz,r⟩
 ·obtain⟨z,its,n,r,e⟩:=h.ok I.hok;exact⟨its,r,⟨_,n,e,rfl,rfl,rfl⟩,z⟩
 ·refine⟨its.toList,r,⟨o,n,I.kIn a o hk,hc,hd,by simpa using hs⟩,?_⟩;have e:=r.length;simp only[qC]at e;lia
theorem Inv.tuple(I:Inv X pins σ H s)(h:SqT X.K H a xs):∃its:List xB,Vals xs its/\IsTup s.heap a its.toArray/\xs.length<=sizeLine:=by
 rcases h with h|⟨o,its,n,hk,hc,hs,hz,r⟩
 ·obtain⟨z,its,r,p⟩:=h.ok I.hok;exact⟨its,r,p,z⟩
 ·refine⟨its.toList,r,⟨o,I.kIn a o hk,hc,n,by simpa using hs⟩,?_⟩;have e:=r.length;simp only[qC]at e;lia
theorem Inv.Xd(I:Inv X pins σ H s)(h:SqL X.K H a xs)(h':SqL X.K H a ys):xs=ys:=by
 obtain⟨its,r,⟨o,n,e,_,_,d⟩,_⟩:=I.list h;obtain⟨its',r',⟨o',n',e',_,_,d'⟩,_⟩:=I.list h';rw[e]at e';cases e';rw[d]at d';injection d' with d1 _
 have:its=its':=by simpa using congrArg Array.toList d1
 subst this;exact r.inj r'
theorem Inv.Uy(I:Inv X pins σ H s)(h:SqT X.K H a xs)(h':SqT X.K H a ys):xs=ys:=by
 obtain⟨its,r,⟨o,e,_,n,d⟩,_⟩:=I.tuple h;obtain⟨its',r',⟨o',e',_,n',d'⟩,_⟩:=I.tuple h';rw[e]at e';cases e';rw[d]at d';injection d' with d1 _
 have:its=its':=by simpa using congrArg Array.toList d1
 subst this;exact r.inj r'
end
noncomputable abbrev Cx.wish(X:Cx)(E:xB->xy->Prop):Cx:={X with xe:=E}
noncomputable abbrev Cx.nox(X:Cx):Cx:=X.wish λ_ _=>False
theorem Cx.Ok.wish(ok:X.Ok)(E:xB->xy->Prop):(X.wish E).Ok:=
 ⟨ok.mod,ok.kind,ok.glob,ok.blt,ok.above,ok.inj,ok.has,ok.cab,ok.hd,ok.frames,ok.stk,ok.exf,ok.bs,ok.bsz,ok.noex,ok.exfs,ok.funs,ok.frf⟩
theorem Cx.Ok.unwish(ok:(X.wish E).Ok):X.Ok:=
 ⟨ok.mod,ok.kind,ok.glob,ok.blt,ok.above,ok.inj,ok.has,ok.cab,ok.hd,ok.frames,ok.stk,ok.exf,ok.bs,ok.bsz,ok.noex,ok.exfs,ok.funs,ok.frf⟩
section
variable{X:Cx}{pins:List (xW×Obj)}{σ:St}{H:Hp}{s:xy}{E:xB->xy->Prop}
theorem Inv.wish(I:Inv X pins σ H s)(E:xB->xy->Prop):Inv (X.wish E) pins σ H s:=⟨I.ok.wish E,I.os,I.bare,I.base,I.loc,I.cell,I.free,I.Ey,I.pin,I.hok,I.len⟩
theorem Inv.unwish(I:Inv (X.wish E) pins σ H s):Inv X pins σ H s:=⟨I.ok.unwish,I.os,I.bare,I.base,I.loc,I.cell,I.free,I.Ey,I.pin,I.hok,I.len⟩
theorem SP.unwish{D:Ends}{f:Flow}{s':xy}(h:SP (X.wish E) pins D f s'):SP X pins D f s':=by
 cases f with
 |next=>obtain⟨σ',H',I,q⟩:=h;exact⟨σ',H',I.unwish,q⟩
 |brk=>obtain⟨σ',H',I,q⟩:=h;exact⟨σ',H',I.unwish,q⟩
 |cont=>obtain⟨σ',H',I,q⟩:=h;exact⟨σ',H',I.unwish,q⟩
 |ret u=>obtain⟨v,σ',H',I,r,q⟩:=h;exact⟨v,σ',H',I.unwish,r,q⟩
theorem PSs.nox{st:List xA}{t:TS}(h:PSs X.nox st t):PSs X st t:=λpins s σ H D I hw=>
 vG (h pins s σ H D (I.wish _) hw) (λ_ _ q=>q.unwish) λ_ _ z=>False.elim z
end
section
variable{X:Cx}{st:xA}{rest:List xA}{t u:TS}{e:xY}{te:TE}{pos:Pos}
noncomputable def ZL4:TS:=λD σ H=>D.nx σ H
noncomputable def tSeq(t u:TS):TS:=λD σ H=>t {D with nx:=u D} σ H
theorem ZHg:PSs X [] ZL4:=λ_ _ σ H _ I h=>wpAny_execs_nil ⟨σ,H,I,h⟩
theorem ZD3(h1:PS X st t)(h2:PSs X rest u):PSs X (st::rest) (tSeq t u):=by
 intro pins s σ H D I h;refine wpAny_execs_cons (thn (h1 pins s σ H {D with nx:=u D} I h) λf s1 q=>?_);cases f with
 |next=>
  obtain⟨σ',H',I',q⟩:=q;exact h2 pins s1 σ' H' D I' q
 |ret v=>exact q
 |brk=>exact q
 |cont=>exact q
theorem ZDU(h1:PS X st t):PSs X [st] t:=by
 intro pins s σ H D I h;refine wpAny_execs_cons (thn (h1 pins s σ H D I h) λf s1 q=>?_);cases f with
 |next=>exact wpAny_execs_nil q
 |ret v=>exact q
 |brk=>exact q
 |cont=>exact q
theorem Inv.quiet(I:Inv X pins σ H s):interactive X.env=vU:=by simp[interactive,I.ok.kind]
noncomputable def ZK0(te:TE):TS:=λD σ H=>te σ H λ_ H1=>D.nx σ H1
theorem ZBZ(he:PE X e te)(hs:swapsWith e vS pos.line X.env=pure vU:=by rfl):PS X (.Expr e pos) (ZK0 te):=by intro pins s σ H D I h;exact wpAny_Expr_any (thn (he pins s σ H _ I h) λv s1 ⟨x,H1,I1,r1,q1⟩=>⟨σ,H1,I1,q1⟩) I.quiet hs
noncomputable def tRet(te:TE):TS:=λD σ H=>te σ H D.rt
theorem ZGl(he:PE X e te):PS X (.Return (vR e) pos) (tRet te):=by intro pins s σ H D I h;exact wpAny_Return_some (thn (he pins s σ H _ I h) λv s1 ⟨x,H1,I1,r1,q1⟩=>⟨x,σ,H1,I1,r1,q1⟩)
noncomputable def tIfS(c:TT)(t u:TS):TS:=λD σ H=>c σ H λb H1=>if b=vT then t D σ H1 else u D σ H1
theorem ZLH{a b:List xA}{tc:TT}(hc:PT X c tc)(ha:PSs X a t)(hb:PSs X b u):PS X (.If c a b pos) (tIfS tc t u):=by
 intro pins s σ H D I h;refine wpAny_If (thn (hc pins s σ H _ I h) λd s1 ⟨H1,I1,q1⟩=>?_);cases d with
 |true=>exact ha pins s1 σ H1 D I1 q1
 |false=>exact hb pins s1 σ H1 D I1 q1
end
noncomputable abbrev TG:=V->St->Hp->(St->Hp->Prop)->Prop
noncomputable abbrev TGs:=List V->St->Hp->(St->Hp->Prop)->Prop
def PG(X:Cx)(target:xY)(t:TG):Prop:=
 ∀(pins:List (xW×Obj))(s:xy)(σ:St)(H:Hp)(v:V)(u:xB)(Q:St->Hp->Prop),Inv X pins σ H s->RelV v u->t v σ H Q->
  vk (vK X.prog X.w) X.A (assign target X.env u) (λ_ s'=>∃σ' H',Inv X pins σ' H' s'/\Q σ' H') X.xe s
def PGs(X:Cx)(ts:List xY)(t:TGs):Prop:=
 ∀(pins:List (xW×Obj))(s:xy)(σ:St)(H:Hp)(vs:List V)(us:List xB)(Q:St->Hp->Prop),Inv X pins σ H s->Vals vs us->t vs σ H Q->
  vk (vK X.prog X.w) X.A (assignInOrder ((xD ts X.env).map (·.2)) us) (λ_ s'=>∃σ' H',Inv X pins σ' H' s'/\Q σ' H') X.xe s
noncomputable abbrev TSet:=V->V->V->Hp->(Hp->Prop)->Prop
def PSet(X:Cx)(t:TSet):Prop:=
 ∀(pins:List (xW×Obj))(s:xy)(σ:St)(H:Hp)(o i v:V)(ov iv u:xB)(Q:Hp->Prop),Inv X pins σ H s->RelV o ov->RelV i iv->RelV v u->t o i v H Q->
  vk (vK X.prog X.w) X.A (setItem ov iv u) (λ_ s'=>∃H',Inv X pins σ H' s'/\Q H') X.xe s
noncomputable abbrev TIp:=V->V->Hp->VK->Prop
def PIp(X:Cx)(op:Operator)(t:TIp):Prop:=
 ∀(pins:List (xW×Obj))(s:xy)(σ:St)(H:Hp)(x y:V)(v u:xB)(Q:VK),Inv X pins σ H s->RelV x v->RelV y u->t x y H Q->
  vk (vK X.prog X.w) X.A (inplaceOp op v u) (EP X pins σ Q) X.xe s
section
variable{X:Cx}{pos:Pos}
noncomputable def ZBv(i:Nat):TG:=λv σ H Q=>Q (σ.set i (vR v)) H
theorem ZLp(hN:X.N.Nodup)(hi:X.N[i]?=vR x)(hx:Loc X.env.scope x)(hf:X.fn x=vT∨X.env.scope.names.lookup x=vR .local:=by first|exact .inl rfl|exact .inr rfl|assumption):PG X (.Name x pos) (ZBv i):=by intro pins s σ H v u Q I r h;exact wpAny_assign_Name (Xz I hN hi hx r (λs' I'=>⟨_,H,I',h⟩) hf)
noncomputable def gNil:TGs:=λvs σ H Q=>vs=[]/\Q σ H
noncomputable def ZLg(t:TG)(u:TGs):TGs:=λvs σ H Q=>∃v r,vs=v::r/\t v σ H λσ' H'=>u r σ' H' Q
theorem ZG7:PGs X [] gNil:=by intro pins s σ H vs us Q I r h;obtain⟨e,h⟩:=h;subst e;cases r;exact assignInOrder_nil ⟨σ,H,I,h⟩
theorem ZGz{es:List xY}{t:TG}{u:TGs}(h1:PG X e t)(h2:PGs X es u)
  (hs:(xD (e::es) X.env).map (·.2)=assign e X.env::(xD es X.env).map (·.2):=by rfl):PGs X (e::es) (ZLg t u):=by
 intro pins s σ H vs us Q I r h;obtain⟨v,vr,e1,h⟩:=h;subst e1;cases r with
 |cons r rr=>
  rw[hs];refine assignInOrder_cons (thn (h1 pins s σ H _ _ _ I r h) λ_ s1 ⟨σ1,H1,I1,q1⟩=>?_);exact h2 pins s1 σ1 H1 _ _ Q I1 rr q1
noncomputable def gTup(K:PySem.W.Frag)(n:Nat)(t:TGs):TG:=λv σ H Q=>∃a xs,v=.ref a/\SqT K H a xs/\xs.length=n/\t xs σ H Q
theorem ZI9{es:List xY}{k:Nat}{t:TGs}{n:Nat}(hc:X.calm=vT)(h:PGs X es t)
  (hn:(xD es X.env).length=n:=by rfl) (hst:(xD es X.env).findIdx? (·.1)=vS:=by rfl):PG X (.Tuple es k pos) (gTup X.K n t):=by
 intro pins s σ H v u Q I r hw;obtain⟨a,xs,e1,hq,hl,hw⟩:=hw;subst e1;cases r;obtain⟨its,rv,ht,hz⟩:=I.tuple hq;refine assign_Tuple_tuple (I.ok.hd hc) ht (by simp[hn,<-hl,rv.length]) hst λh' hx=>?_
 have I1:Inv X pins σ H {s with heap:=h'}:=I.kept (t':=s.toks) λb o e=>hx b o (zF (zW e)) e
 exact h pins _ σ H xs _ Q I1 (by simpa using rv) hw
noncomputable def gSub(to ti:TE)(t:TSet):TG:=λv σ H Q=>to σ H λo H1=>ti σ H1 λi H2=>t o i v H2 λH3=>Q σ H3
theorem ZHx{o i:xY}{to ti:TE}{t:TSet}(ho:PE X o to)(hi:PE X i ti)(hs:PSet X t)
  (ha:∀v,assign (.Subscript o i pos) X.env v=(do
   let ov<-holding [v] (eval o X.env);let iv<-holding [v,ov] (eval i X.env)
   standAt pos
   holding [v,ov,iv] (setItem ov iv v)
   release [v,ov,iv] []):=by intro _;rfl):PG X (.Subscript o i pos) (gSub to ti t):=by
 intro pins s σ H v u Q I r h;rw[ha];refine vB (vF (thn (ho pins s σ H _ I h) λov s1 ⟨x,H1,I1,r1,q1⟩=>?_));refine vB (vF (thn (hi pins s1 σ H1 _ I1 q1) λiv s2 ⟨y,H2,I2,r2,q2⟩=>?_));refine vB (wpAny_standAt (vB (vF (thn (hs pins s2 σ H2 x y v ov iv u _ I2 r1 r2 r q2) λ_ s3 ⟨H3,I3,q3⟩=>?_))));exact wpAny_release ⟨σ,H3,I3,q3⟩
noncomputable def Yg(te:TE)(g:TG):TS:=λD σ H=>te σ H λx H1=>g x σ H1 D.nx
theorem ZHG{te:TE}{g:TG}(he:PE X e te)(hg:PG X tg g)(hs:swapsWithSole [tg] e pos.line X.env=pure vU:=by rfl)(hw:swappedStores [tg] e X.env=pure vS:=by rfl)
  (h1:(xD [tg] X.env).map (·.2)=[assign tg X.env]:=by rfl):PS X (.Assign [tg] e pos) (Yg te g):=by
 intro pins s σ H D I h;refine wpAny_Assign_stores (thn (he pins s σ H _ I h) λv s1 ⟨x,H1,I1,r1,q1⟩=>?_) hs hw;rw[h1];exact thn (hg pins s1 σ H1 x v _ I1 r1 q1) λ_ s2 q=>q
theorem ZLx{te:TE}{pos':Pos}(hN:X.N.Nodup)(hi:X.N[i]?=vR x)(hx:Loc X.env.scope x)(he:PE X e te)(hs:swapsWith e (vR (.Name x pos')) pos.line X.env=pure vU:=by rfl)(hf:X.fn x=vT∨X.env.scope.names.lookup x=vR .local:=by first|exact .inl rfl|exact .inr rfl|assumption):
  PS X (.Assign [.Name x pos'] e pos) (Yg te (ZBv i)):=by
 intro pins s σ H D I h;refine wpAny_Assign_Name (thn (he pins s σ H _ I h) λv s1 ⟨y,H1,I1,r1,q1⟩=>?_) hs;exact Xz I1 hN hi hx r1 (λs2 I2=>⟨_,H1,I2,q1⟩) hf
noncomputable def ipI(f:Int->Int->Int):TIp:=λx y H Q=>∃i j,x=.int i/\y=.int j/\Q (.int (f i j)) H
theorem ZJ1:PIp X .Add (ipI λi j=>i+j):=by intro pins s σ H x y v u Q I r1 r2 h;obtain⟨i,j,e1,e2,q⟩:=h;subst e1;subst e2;obtain⟨t,rfl⟩:=r1;obtain⟨t',rfl⟩:=r2;exact iadd_int ⟨.int _,H,I.tok _,⟨_,rfl⟩,q⟩
theorem ZJN:PIp X .Sub (ipI λi j=>i-j):=by intro pins s σ H x y v u Q I r1 r2 h;obtain⟨i,j,e1,e2,q⟩:=h;subst e1;subst e2;obtain⟨t,rfl⟩:=r1;obtain⟨t',rfl⟩:=r2;exact isub_int ⟨.int _,H,I.tok _,⟨_,rfl⟩,q⟩
end
section
variable{X:Cx}{pos:Pos}
def ZIc(c:TT)(tb:TS):TS:=λD σ H=>∃W:Nat->St->Hp->Prop,(∃m,W m σ H)/\∀m σ H,W m σ H->
 c σ H λb H1=>if b=vT then∃N:St->Hp->Prop,(∀σ' H',N σ' H'->∃m',m'<m/\W m' σ' H')/\tb {D with nx:=N,ct:=N,bk:=D.nx} σ H1 else D.nx σ H1
theorem ZLs{tc:TT}{tb:TS}(hp:PassesOwn (vK X.prog X.w) X.A X.env X.xe)(hc:PT X c tc)(hb:PSs X body tb):PS X (.While c body [] pos) (ZIc tc tb):=by
 intro pins s σ H D I h;obtain⟨W,⟨m0,w0⟩,turn⟩:=h;refine wpAny_While (codeAny_whileLoop (λn s'=>∃σ' H',Inv X pins σ' H' s'/\W n σ' H') ?_ m0 ⟨σ,H,I,w0⟩);rintro n s1 ⟨σ1,H1,I1,w1⟩;refine vI hp (thn (hc pins s1 σ1 H1 _ I1 (turn n σ1 H1 w1)) λb s2 ⟨H2,I2,q2⟩=>?_);cases b with
 | true=>
  obtain⟨N,hN,q2⟩:=q2;rw[if_pos rfl];refine vI hp (thn (hb pins s2 σ1 H2 _ I2 q2) λf s3 q3=>?_);cases f with
  |next=>
   obtain⟨σ3,H3,I3,n3⟩:=q3;obtain⟨m',hm,w3⟩:=hN σ3 H3 n3;exact⟨m',hm,σ3,H3,I3,w3⟩
  |cont=>
   obtain⟨σ3,H3,I3,n3⟩:=q3;obtain⟨m',hm,w3⟩:=hN σ3 H3 n3;exact⟨m',hm,σ3,H3,I3,w3⟩
  |brk=>exact q3
  |ret v=>exact q3
 |false=>
  rw[if_neg zy];exact wpAny_execs_nil ⟨σ1,H2,I2,q2⟩
end
structure It where
 go:Nat->Hp->Prop
 yld:Nat->Hp->V->Hp->Prop
 stop:Nat->Hp->Prop
def FpOk(X:Cx)(pins:List (xW×Obj))(H:Hp)(b:xW):Prop:=
 H b=vS/\b≠X.env.locals/\b∉X.fs/\(b∈X.ex∨X.s₀.heap.objs.size<=b)/\(∀x c,X.env.cells.lookup x=vR c->c≠b)/\∀p∈X.pn++pins,p.1≠b
theorem Inv.I8{H':Hp}(I:Inv X pins σ H s)(hb:s.heap.objs.size<=b)(hn:H' b=vS):FpOk X pins H' b:=by
 refine⟨hn,qy (zX I.lt hb),I.nofs hb,.inr (z0 I.sz hb),λx c e z=>?_,λp hp z=>?_⟩
 ·obtain⟨v,q⟩:=I.cell x c e;exact absurd (zX q.lt (by rw[z];exact hb)) (zT _)
 ·exact absurd (zX (zW (I.pin p hp).1) (by rw[z];exact hb)) (zT _)
structure Turn (P:xj) (w:xC) (K:PySem.W.Frag) (tg:xY) (J:It) (fp:List xW) (it:xW) (tn:Nat->Heap->Prop):Prop where
 mem:it∈fp
 obj:∀i h,tn i h->∀b∈fp,∃o,h.get? b=vR o/\∀v,o.data≠ .cell v
 keep:∀i h h',tn i h->(∀b∈fp,∀o,h.get? b=vR o->h'.get? b=vR o)->tn i h'
 item:∀(X:Cx),X.prog=P->X.w=w->X.K=K->X.calm=vT->∀(i:Nat)(pins:List (xW×Obj))(s:xy)(σ:St)(H:Hp)(E:xB->xy->Prop),Inv X pins σ H s->(∀b∈fp,FpOk X pins H b)->tn i s.heap->J.go i H->
  vk (vK P w) X.A (pyNext (.ref it)) (λr s1=>∃u,r=vR u/\
   vk (vK P w) X.A (vV tg (.ref it) u) (λ_ s2=>∃x H',Inv X pins σ H' s2/\RelV x u/\J.yld i H x H'/\tn (i+1) s2.heap/\∀b∈fp,H' b=vS) E s1) E s
 done:∀(X:Cx),X.prog=P->X.w=w->X.K=K->X.calm=vT->∀(i:Nat)(pins:List (xW×Obj))(s:xy)(σ:St)(H:Hp)(E:xB->xy->Prop),Inv X pins σ H s->(∀b∈fp,FpOk X pins H b)->tn i s.heap->J.stop i H->
  vk (vK P w) X.A (pyNext (.ref it)) (λr s1=>r=vS/\Inv X pins σ H s1) E s
 self:∀(A:xK)(i:Nat)(s:xy)(Q:xB->xy->Prop)(E:xB->xy->Prop),tn i s.heap->Q (.ref it) s->vk (vK P w) A (pyIter (.ref it)) Q E s
noncomputable abbrev TI:=St->Hp->(It->Hp->Prop)->Prop
def PIE(X:Cx)(pins:List (xW×Obj))(σ:St)(tg:xY)(R:It->Hp->Prop)(itv:xB)(s2:xy):Prop:=
 ∃(it:xW)(fp:List xW)(tn:Nat->Heap->Prop)(J:It)(H':Hp),itv=.ref it/\Inv X pins σ H' s2/\Turn X.prog X.w X.K tg J fp it tn/\tn 0 s2.heap/\(∀b∈fp,FpOk X pins H' b)/\R J H'
def PI(X:Cx)(tg iter:xY)(wi:TI):Prop:=
 ∀(pins:List (xW×Obj))(s:xy)(σ:St)(H:Hp)(R:It->Hp->Prop),Inv X pins σ H s->wi σ H R->
  vk (vK X.prog X.w) X.A (eval iter X.env) (λv s1=>vk (vK X.prog X.w) X.A (pyIter v) (PIE X pins σ tg R) X.xe s1) X.xe s
theorem Ms{M:Model}{it:xW}{o:Obj}{n:String}{vs:Array xB}(ho:s.heap.get? it=vR o)(hc:o.cls=.type n)(hd:o.data=.fields vs)
  (hn: ["enumerate","zip","dict_itemiterator","dict_reverseitemiterator","odict_iterator","itertools.zip_longest","itertools.pairwise"].contains n=vU) (hQ:Q () s):vk M A (vV tg (.ref it) u) Q E s:=by
 unfold vV
 cases tg<;>first
  |exact vL hQ
  | (cases u<;>first
    |exact vL hQ
    | (
      refine vB (wpAny_load ho ?_);rw[hc,hd];show vk M A (if(["enumerate","zip","dict_itemiterator","dict_reverseitemiterator","odict_iterator","itertools.zip_longest","itertools.pairwise"].contains n&&vs[0]?==vR (vY _))=vT then _ else _) Q E s;rw[if_neg (by intro h;rw[hn,Bool.false_and]at h;cases h)];exact vL hQ))
noncomputable def Itl(K:PySem.W.Frag)(a:xW):It:=
 ⟨λi H=>∃xs x,SqL K H a xs/\xs[i]?=vR x,λi H x H'=>H'=H/\∀xs,SqL K H a xs->xs[i]?=vR x,λi H=>∃xs,SqL K H a xs/\xs.length<=i⟩
noncomputable def Itt(K:PySem.W.Frag)(a:xW):It:=
 ⟨λi H=>∃xs x,SqT K H a xs/\xs[i]?=vR x,λi H x H'=>H'=H/\∀xs,SqT K H a xs->xs[i]?=vR x,λi H=>∃xs,SqT K H a xs/\xs.length<=i⟩
noncomputable def Itr(lo:Int)(n:Nat):It:=⟨λi _=>i<n,λi H x H'=>H'=H/\x=.int (lo+i),λi _=>n<=i⟩
theorem ZHJ(a it:xW):Turn P w K tg (Itl K a) [it] it (λi h=>h.IsListIter it a i) where
 mem:=by simp
 obj:=λi h st b hb=>by
  have e:b=it:=by simpa using hb
  subst e;obtain⟨o,e,c,d⟩:=st;exact⟨o,e,λv z=>by rw[d]at z;cases z⟩
 keep:=λi h h' st k=>st.at λo e=>k it (by simp) o e
 item:=by
  intro X hP hw hK hc i pins s σ H E I hf st hg;subst hP hw hK;obtain⟨xs,x,hq,hx⟩:=hg;obtain⟨its,rv,p,hz⟩:=I.list hq;obtain⟨u,hu,ru⟩:=rv.get hx;obtain⟨f0,f1,f2,f3,f4,f5⟩:=hf it (by simp);refine wpAny_pyNext_list_item st p.isList (x:=u) (by simpa using hu) λh' st' sb=>?_
  have I1:Inv X pins σ H {s with heap:=h'}:=I.turned (t':=s.toks) (λb o hb e=>(sb.2 b hb).trans e) f0 f1 f3 f4 f5;obtain⟨o,e,c,d⟩:=id st';exact⟨u,rfl,Ms (s:={s with heap:=h'}) e c d (by decide) ⟨x,H,I1,ru,⟨rfl,λys hy=>by rw[I.Xd hy hq];exact hx⟩,st',λb hb=>(hf b hb).1⟩⟩
 done:=by intro X hP hw hK hc i pins s σ H E I hf st hg;subst hP hw hK;obtain⟨xs,hq,hx⟩:=hg;obtain⟨its,rv,p,hz⟩:=I.list hq;obtain⟨f0,f1,f2,f3,f4,f5⟩:=hf it (by simp);have hl:=rv.length;exact wpAny_pyNext_list_end (I.ok.hd hc) st p.isList (by simp;lia) λh' eb=>⟨rfl,I.turned (t':=s.toks) (λb o hb e=>eb b o hb e) f0 f1 f3 f4 f5⟩
 self:=λ_ _ _ _ _ st h=>wpAny_pyIter_listiter st h
theorem ZJb(a it:xW):Turn P w K tg (Itt K a) [it] it (λi h=>h.IsTupleIter it a i) where
 mem:=by simp
 obj:=λi h st b hb=>by
  have e:b=it:=by simpa using hb
  subst e;obtain⟨o,e,c,d⟩:=st;exact⟨o,e,λv z=>by rw[d]at z;cases z⟩
 keep:=λi h h' st k=>st.at λo e=>k it (by simp) o e
 item:=by
  intro X hP hw hK hc i pins s σ H E I hf st hg;subst hP hw hK;obtain⟨xs,x,hq,hx⟩:=hg;obtain⟨its,rv,p,hz⟩:=I.tuple hq;obtain⟨u,hu,ru⟩:=rv.get hx;obtain⟨f0,f1,f2,f3,f4,f5⟩:=hf it (by simp)
  refine wpAny_pyNext_tuple_item st (show s.heap.IsTuple a its.toArray from p) (x:=u) (by simpa using hu) λh' st' sb=>?_
  have I1:Inv X pins σ H {s with heap:=h'}:=I.turned (t':=s.toks) (λb o hb e=>(sb.2 b hb).trans e) f0 f1 f3 f4 f5;obtain⟨o,e,c,d⟩:=id st';exact⟨u,rfl,Ms (s:={s with heap:=h'}) e c d (by decide) ⟨x,H,I1,ru,⟨rfl,λys hy=>by rw[I.Uy hy hq];exact hx⟩,st',λb hb=>(hf b hb).1⟩⟩
 done:=by
  intro X hP hw hK hc i pins s σ H E I hf st hg;subst hP hw hK;obtain⟨xs,hq,hx⟩:=hg;obtain⟨its,rv,p,hz⟩:=I.tuple hq;obtain⟨f0,f1,f2,f3,f4,f5⟩:=hf it (by simp);have hl:=rv.length
  exact wpAny_pyNext_tuple_end (I.ok.hd hc) st (show s.heap.IsTuple a its.toArray from p) (by simp;lia) λh' eb=>⟨rfl,I.turned (t':=s.toks) (λb o hb e=>eb b o hb e) f0 f1 f3 f4 f5⟩
 self:=λ_ _ _ _ _ st h=>wpAny_pyIter_tupleiter st h
theorem ZKk(it:xW)(lo:Int)(n:Nat):Turn P w K tg (Itr lo n) [it] it (λi h=>IsRangeIter h it (lo+(i:Nat)*1) ((n:Int)-(i:Nat)) 1) where
 mem:=by simp
 obj:=λi h st b hb=>by
  have e:b=it:=by simpa using hb
  subst e;exact⟨_,st,λv z=>by have z':Data.fields _=Data.cell v:=z;cases z'⟩
 keep:=λi h h' st k=>k it (by simp) _ st
 item:=by
  intro X hP hw hK hc i pins s σ H E I hf st hg;subst hP hw hK;obtain⟨f0,f1,f2,f3,f4,f5⟩:=hf it (by simp);have W:=Walks.range (prog:=X.prog) (w:=X.w) (I.ok.hd hc) it lo 1 n;refine W.item i s _ _ hg st λv h' tk hv st' kk=>?_
  obtain⟨t,rfl⟩:=hv;have I1:Inv X pins σ H {s with heap:=h',toks:=tk}:=I.turned (λb o hb e=>kk b o (by simpa using hb) e) f0 f1 f3 f4 f5;refine⟨_,rfl,Ms (s:={s with heap:=h',toks:=tk}) (n:="range_iterator") st' rfl rfl (by decide) ⟨.int (lo+i),H,I1,⟨t,?_⟩,⟨rfl,rfl⟩,st',λb hb=>(hf b hb).1⟩⟩;rw[Int.mul_one]
 done:=by intro X hP hw hK hc i pins s σ H E I hf st hg;subst hP hw hK;obtain⟨f0,f1,f2,f3,f4,f5⟩:=hf it (by simp);exact wpAny_pyNext_range_end (I.ok.hd hc) st (by have:n<=i:=hg;lia) λh' eb=>⟨rfl,I.turned (t':=s.toks) (λb o hb e=>eb b o hb e) f0 f1 f3 f4 f5⟩
 self:=λ_ _ _ _ _ st h=>wpAny_pyIter_rangeiter st h
section
variable{X:Cx}{tg:xY}
def ZHj(K:PySem.W.Frag)(tl:TE):TI:=λσ H R=>tl σ H λx H1=>∃a,x=.ref a/\(∃xs,SqL K H1 a xs)/\R (Itl K a) H1
def iTup(K:PySem.W.Frag)(tl:TE):TI:=λσ H R=>tl σ H λx H1=>∃a,x=.ref a/\(∃xs,SqT K H1 a xs)/\R (Itt K a) H1
theorem ZAf{l:xY}{tl:TE}(hl:PE X l tl):PI X tg l (ZHj X.K tl):=by
 intro pins s σ H R I h;refine thn (hl pins s σ H _ I h) λv s1 ⟨x,H1,I1,r1,q1⟩=>?_
 obtain⟨a,e,⟨xs,hq⟩,q⟩:=q1;subst e;cases r1;obtain⟨its,rv,p,hz⟩:=I1.list hq;refine wpAny_pyIter_list p.isList ?_;refine⟨s1.heap.objs.size,[s1.heap.objs.size],_,_,H1,rfl,I1.kept (t':=s1.toks) λb o e=>zQ _ e,ZHJ a _,⟨_,zj _ rfl,rfl,rfl⟩,λb hb=>?_,q⟩;have e:b=s1.heap.objs.size:=by simpa using hb
 subst e;exact I1.I8 (zK _) (I1.hok.fresh (zK _))
theorem ZKl{l:xY}{tl:TE}(hl:PE X l tl):PI X tg l (iTup X.K tl):=by
 intro pins s σ H R I h;refine thn (hl pins s σ H _ I h) λv s1 ⟨x,H1,I1,r1,q1⟩=>?_
 obtain⟨a,e,⟨xs,hq⟩,q⟩:=q1;subst e;cases r1;obtain⟨its,rv,p,hz⟩:=I1.tuple hq
 refine wpAny_pyIter_tuple (show s1.heap.IsTuple a its.toArray from p) ?_
 refine⟨s1.heap.objs.size,[s1.heap.objs.size],_,_,H1,rfl,I1.kept (t':=s1.toks) λb o e=>zQ _ e,ZJb a _,⟨_,zj _ rfl,rfl,rfl⟩,λb hb=>?_,q⟩;have e:b=s1.heap.objs.size:=by simpa using hb
 subst e;exact I1.I8 (zK _) (I1.hok.fresh (zK _))
theorem ZFn{R:It->Hp->Prop}{lo hi:Int}{t u v:Tok}{tk:Nat}(I:Inv X pins σ H s)(h1: -(2^62)<=lo)(h2:lo<2^62)(h3: -(2^62)<=hi)(h4:hi<2^62)
  (q:R (Itr lo (hi-lo).toNat) H):vk (vK X.prog X.w) X.A (pyIter (.ref s.heap.objs.size)) (PIE X pins σ tg R) E {s with heap:=s.heap.push {cls:=.type "range",data:=.fields #[.int lo t,.int hi u,.int 1 v]},toks:=tk}:=by
 refine wpAny_pyIter_range (IsRange.new ..) (small_one h1 h2 h3 h4) ?_;have I1:Inv X pins σ H {s with heap:=s.heap.push {cls:=.type "range",data:=.fields #[.int lo t,.int hi u,.int 1 v]},toks:=tk}:=I.kept λb o e=>zQ _ e
 refine⟨(s.heap.push {cls:=.type "range",data:=.fields #[.int lo t,.int hi u,.int 1 v]}).objs.size,[(s.heap.push {cls:=.type "range",data:=.fields #[.int lo t,.int hi u,.int 1 v]}).objs.size],_,_,H,rfl,
  I1.kept (t':=tk) λb o e=>zQ _ e,ZKk _ lo (hi-lo).toNat,?_,λb hb=>?_,q⟩
 ·have e1:lo+((0:Nat):Int)*1=lo:=by simp
  have e2:(((hi-lo).toNat:Nat):Int)-((0:Nat):Int)=Builtin.Range.rangeSize lo hi 1:=by rw[rangeSize_one];split <;> lia
  show IsRangeIter _ _ (lo+((0:Nat):Int)*1) ((((hi-lo).toNat:Nat):Int)-((0:Nat):Int)) 1;rw[e1,e2];exact zj _ rfl
 ·have e:b=(s.heap.push {cls:=.type "range",data:=.fields #[.int lo t,.int hi u,.int 1 v]}).objs.size:=by simpa using hb
  subst e;exact I1.I8 (zK _) (I1.hok.fresh (zK _))
def ZG3(ta:TA):TI:=λσ H R=>ta σ H λvs H1=>∃j:Int,vs=[.int j]/\ -(2^62)<=j/\j<2^62/\R (Itr 0 j.toNat) H1
theorem ZJ3{a:xY}{ta:TA}{p pos:Pos}(hg:Gl X "range")(hm:X.mg "range"=vS)(ha:PA X [a] ta)(hs:vj [a] X.env=[(vU,eval a X.env)]:=by rfl):PI X tg (.Call (.Name "range" p) [a] [] pos) (ZG3 ta):=by
 intro pins s σ H R I h;refine Call_ (Il I hg hm boot_range (PyProof.Rows.callWith_type1 (thn (ha pos pins s σ H _ I h) λus s1 ⟨vs,H1,I1,r1,q1⟩=>?_) hs rfl));obtain⟨j,e,q1,q2,q⟩:=q1;subst e;cases r1 with
 |cons r rr=>
  cases rr;obtain⟨t,rfl⟩:=r;exact call_range_1 (ZFn I1 (by lia) (by lia) q1 q2 (by simpa using q))
def tFor(wi:TI)(g:TG)(tb:TS):TS:=λD σ H=>wi σ H λJ H1=>∃W:Nat->Nat->St->Hp->Prop,(∃m,W 0 m σ H1)/\∀i m σ H,W i m σ H->
 (J.stop i H/\D.nx σ H)∨(J.go i H/\∃N:St->Hp->Prop,(∀σ' H',N σ' H'->∃m',m'<m/\W (i+1) m' σ' H')/\∀x H',J.yld i H x H'->g x σ H' λσ2 H2=>tb {D with nx:=N,ct:=N,bk:=D.nx} σ2 H2)
noncomputable def N5(fp:List xW)(h:Heap):List (xW×Obj):=fp.filterMap λb=>(h.get? b).map λo=>(b,o)
theorem Rc{o:Obj}(hb:b∈fp)(e:h.get? b=vR o):(b,o)∈N5 fp h:=jY.mpr ⟨b,hb,by rw[e];rfl⟩
theorem ZCO{p:xW×Obj}(hp:p∈N5 fp h):p.1∈fp/\h.get? p.1=vR p.2:=by
 obtain⟨b,hb,e⟩:=jY.mp hp;cases q:h.get? b with
 |none=>rw[q]at e;cases e
 |some o=>
  rw[q]at e;have e':(b,o)=p:=Option.some.inj e;subst e';exact⟨hb,q⟩
theorem Inv.pinned(I:Inv X pins σ H s)(hf:∀b∈fp,FpOk X pins H b)(ho:∀b∈fp,∃o,s.heap.get? b=vR o/\∀v,o.data≠ .cell v):Inv X (pins++N5 fp s.heap) σ H s:=
 I.Gs λp hp=>(jA.mp hp).elim (λz=>I.pin p (zE _ z)) λz=>by obtain⟨hb,e⟩:=ZCO z;obtain⟨f0,f1,f2,_⟩:=hf p.1 hb;obtain⟨o,e',d⟩:=ho p.1 hb;rw[e]at e';cases e';exact⟨e,f0,f1,f2,d⟩
theorem Inv.unpinned{pl:List (xW×Obj)}(I:Inv X (pins++pl) σ H s):Inv X pins σ H s:=I.Gs λp hp=>I.pin p (zE _ (jS _ hp))
theorem ZIU{iter:xY}{wi:TI}{g:TG}{tb:TS}{pos:Pos}(hp:PassesOwn (vK X.prog X.w) X.A X.env X.xe)(hc:X.calm=vT)(hi:PI X tg iter wi)(hg:PG X tg g)(hb:PSs X body tb)
  (hs:∀x,foldedSetIterable iter X.env x=pure x:=by intro _;rfl):PS X (.For tg iter body [] pos) (tFor wi g tb):=by
 intro pins s σ H D I h;refine wpAny_For (thn (hi pins s σ H _ I h) λv s1 h1=>thn h1 λitv s2 h2=>?_) hs;obtain⟨it,fp,tn,J,H2,e,I2,T,st2,f2,W,⟨m0,w0⟩,turn⟩:=h2;subst e;have stat:∀{H':Hp},(∀b∈fp,H' b=vS)->∀b∈fp,FpOk X pins H' b:=λhn b hb=>⟨hn b hb,(f2 b hb).2⟩
 refine codeAny_forLoop_any (λn s'=>∃i σ' H',Inv X pins σ' H' s'/\tn i s'.heap/\(∀b∈fp,H' b=vS)/\W i n σ' H') ?_ m0 ⟨0,σ,H2,I2,st2,λb hb=>(f2 b hb).1,w0⟩;rintro n s3 ⟨i,σ3,H3,I3,st3,fr3,w3⟩;rcases turn i n σ3 H3 w3 with⟨stop,qn⟩|⟨go,N,hN,step⟩
 ·refine vI hp (thn (T.done X rfl rfl rfl hc i pins s3 σ3 H3 X.xe I3 (stat fr3) st3 stop) λr s4 ⟨hr,I4⟩=>?_);subst hr;exact wpAny_execs_nil ⟨σ3,H3,I4,qn⟩
 ·refine vI hp (thn (T.item X rfl rfl rfl hc i pins s3 σ3 H3 X.xe I3 (stat fr3) st3 go) λr s4 ⟨u,hr,h4⟩=>?_);subst hr;refine vI hp (thn h4 λ_ s5 ⟨x,H5,I5,r5,y5,st5,fr5⟩=>?_);have I5':=I5.pinned (stat fr5) (T.obj _ _ st5);refine vI hp (thn (hg _ s5 σ3 H5 x u _ I5' r5 (step x H5 y5)) λ_ s6 ⟨σ6,H6,I6,q6⟩=>?_);refine vI hp (thn (hb _ s6 σ6 H6 _ I6 q6) λf s7 q7=>?_)
  have again:∀{σ7:St}{H7:Hp},Inv X (pins++N5 fp s5.heap) σ7 H7 s7->N σ7 H7->∃m,m<n/\∃i σ' H',Inv X pins σ' H' s7/\tn i s7.heap/\(∀b∈fp,H' b=vS)/\W i m σ' H':=λ{σ7 H7}I7 n7=>by obtain⟨m',hm,w7⟩:=hN σ7 H7 n7;refine⟨m',hm,i+1,σ7,H7,I7.unpinned,T.keep _ _ _ st5 λb hb o e=>(I7.pin (b,o) (zE _ (zE _ (Rc hb e)))).1,λb hb=>?_,w7⟩;obtain⟨o,e,d⟩:=T.obj _ _ st5 b hb;exact(I7.pin (b,o) (zE _ (zE _ (Rc hb e)))).2.1
  cases f with
  |next=>obtain⟨σ7,H7,I7,n7⟩:=q7;exact again I7 n7
  |cont=>obtain⟨σ7,H7,I7,n7⟩:=q7;exact again I7 n7
  |brk=>obtain⟨σ7,H7,I7,q7⟩:=q7;exact⟨σ7,H7,I7.unpinned,q7⟩
  |ret v=>obtain⟨x7,σ7,H7,I7,r7,q7⟩:=q7;exact⟨x7,σ7,H7,I7.unpinned,r7,q7⟩
end
noncomputable abbrev R2:=V->V->Hp->VK->Prop
variable{r:R2}
def OpR(X:Cx)(f:xB->xB->Sem xB)(r:R2):Prop:=
 ∀(pins:List (xW×Obj))(s:xy)(σ:St)(H:Hp)(x y:V)(v u:xB)(Q:VK),Inv X pins σ H s->RelV x v->RelV y u->r x y H Q->
  vk (vK X.prog X.w) X.A (f v u) (EP X pins σ Q) X.xe s
def UnR(X:Cx)(f:xB->Sem xB)(r:V->Hp->VK->Prop):Prop:=
 ∀(pins:List (xW×Obj))(s:xy)(σ:St)(H:Hp)(x:V)(v:xB)(Q:VK),Inv X pins σ H s->RelV x v->r x H Q->
  vk (vK X.prog X.w) X.A (f v) (EP X pins σ Q) X.xe s
def CallR(X:Cx)(f:xB)(r:List V->Hp->VK->Prop):Prop:=
 ∀(pins:List (xW×Obj))(s:xy)(σ:St)(H:Hp)(xs:List V)(us:List xB)(Q:VK),Inv X pins σ H s->Vals xs us->r xs H Q->
  vk (vK X.prog X.w) X.A (call f us) (EP X pins σ Q) X.xe s
noncomputable def tOp(r:R2)(ta tb:TE):TE:=λσ H Q=>ta σ H λx H1=>tb σ H1 λy H2=>r x y H2 Q
noncomputable def tUn(r:V->Hp->VK->Prop)(ta:TE):TE:=λσ H Q=>ta σ H λx H1=>r x H1 Q
noncomputable def rI(C:Int->Int->Prop)(g:Int->Int->V):R2:=λx y H Q=>∃i j,x=.int i/\y=.int j/\C i j/\Q (g i j) H
noncomputable def rI0(g:Int->Int->V):R2:=λx y H Q=>∃i j,x=.int i/\y=.int j/\Q (g i j) H
def rU(g:Int->V):V->Hp->VK->Prop:=λx H Q=>∃i,x=.int i/\Q (g i) H
section
variable{X:Cx}{a b c:xY}{ta tb tc:TE}{pos:Pos}
theorem Z3(ha:PE X a ta)(hb:PE X b tb){R:V->V->Hp->Prop}(I:Inv X pins σ H s)
  (h:ta σ H λx H1=>tb σ H1 λy H2=>R x y H2) {Q:xB->xy->Prop} {f:xB->xB->Sem xB}
  (hf:∀v u s2 x y H2,Inv X pins σ H2 s2->RelV x v->RelV y u->R x y H2->vk (vK X.prog X.w) X.A (f v u) Q X.xe s2):
  vk (vK X.prog X.w) X.A (eval a X.env) (λv s₁=>vk (vK X.prog X.w) X.A (eval b X.env) (λu s₂=>vk (vK X.prog X.w) X.A (f v u) Q X.xe s₂) X.xe s₁) X.xe s:=by
 refine thn (ha pins s σ H _ I h) λv s1 ⟨x,H1,I1,r1,q1⟩=>?_
 refine thn (hb pins s1 σ H1 _ I1 q1) λu s2 ⟨y,H2,I2,r2,q2⟩=>?_
 exact hf v u s2 x y H2 I2 r1 r2 q2
theorem ZGO{op:Operator}(ho:OpR X (xI op) r)(ha:PE X a ta)(hb:PE X b tb):PE X (.BinOp a op b pos) (tOp r ta tb):=by intro pins s σ H Q I h;exact wpAny_BinOp (Z3 ha hb I h λv u s2 x y H2 I2 rx ry q=>ho pins s2 σ H2 x y v u Q I2 rx ry q)
theorem ZMC{op:UnaryOp}{r:V->Hp->VK->Prop}(ho:UnR X (unaryOp op) r)(ha:PE X a ta):PE X (.UnaryOp op a pos) (tUn r ta):=by intro pins s σ H Q I h;exact UnaryOp_ (thn (ha pins s σ H _ I h) λv s1 ⟨x,H1,I1,r1,q1⟩=>ho pins s1 σ H1 x v Q I1 r1 q1)
theorem opI{C:Int->Int->Prop}{g:Int->Int->Int}
  (rule:∀(i j:Int)(t u:Tok)(s:xy)(Q:xB->xy->Prop)(E:xB->xy->Prop),C i j->Q (.int (g i j) s.toks) {s with toks:=s.toks+1}->vk (vK X.prog X.w) X.A (f (.int i t) (.int j u)) Q E s):
  OpR X f (rI C λi j=>.int (g i j)):=by
 intro pins s σ H x y v u Q I rx ry h;obtain⟨i,j,rfl,rfl,hc,q⟩:=h;obtain⟨t,rfl⟩:=rx;obtain⟨t',rfl⟩:=ry;exact rule i j t t' s _ _ hc ⟨.int (g i j),H,I.tok _,⟨_,rfl⟩,q⟩
theorem opI0{g:Int->Int->Int}
  (rule:∀(i j:Int)(t u:Tok)(s:xy)(Q:xB->xy->Prop)(E:xB->xy->Prop),Q (.int (g i j) s.toks) {s with toks:=s.toks+1}->vk (vK X.prog X.w) X.A (f (.int i t) (.int j u)) Q E s):
  OpR X f (rI0 λi j=>.int (g i j)):=by
 intro pins s σ H x y v u Q I rx ry h;obtain⟨i,j,rfl,rfl,q⟩:=h;obtain⟨t,rfl⟩:=rx;obtain⟨t',rfl⟩:=ry;exact rule i j t t' s _ _ ⟨.int (g i j),H,I.tok _,⟨_,rfl⟩,q⟩
theorem ZAZ{g:Int->Int->Bool}
  (rule:∀(i j:Int)(t u:Tok)(s:xy)(Q:xB->xy->Prop)(E:xB->xy->Prop),Q (.bool (g i j)) s->vk (vK X.prog X.w) X.A (f (.int i t) (.int j u)) Q E s):
  OpR X f (rI0 λi j=>.bl (g i j)):=by
 intro pins s σ H x y v u Q I rx ry h;obtain⟨i,j,rfl,rfl,q⟩:=h;obtain⟨t,rfl⟩:=rx;obtain⟨t',rfl⟩:=ry;exact rule i j t t' s _ _ ⟨.bl (g i j),H,I,rfl,q⟩
def CPow(i j:Int):Prop:=0<=j/\j<=1000000/\i.natAbs<2^64
def CMul(i j:Int):Prop:=(-(2^64)<i/\i<2^64)∨(-(2^64)<j/\j<2^64)
theorem CMul.ok{i j:Int}(h:CMul i j):IntMulOk i j:=by
 rcases h with⟨h1,h2⟩|⟨h1,h2⟩
 ·exact .of_left (intBits_le_64 h1 h2)
 ·exact .of_right (intBits_le_64 h1 h2)
theorem ZMK:OpR X (xI .Add) (rI0 λi j=>.int (i+j)):=opI0 λ_ _ _ _ _ _ _ q=>add_int q
theorem ZIt:OpR X (xI .Sub) (rI0 λi j=>.int (i-j)):=opI0 λ_ _ _ _ _ _ _ q=>sub_int q
theorem ZGs:OpR X (xI .Mult) (rI CMul λi j=>.int (i*j)):=opI λ_ _ _ _ _ _ _ hc q=>mul_int q hc.ok
theorem ZLU:OpR X (xI .Mod) (rI (λ_ j=>0<j) λi j=>.int (i%j)):=opI λi j _ _ _ _ _ hc q=>by have h1:(0:Int)<j:=hc;exact mod_int' (by lia) (by rw[Int.fmod_eq_emod_of_nonneg i (by lia)];exact q)
theorem ZLN:OpR X (xI .Pow) (rI CPow λi j=>.int (i^j.toNat)):=opI λ_ _ _ _ _ _ _ hc q=>pow_int_small hc.1 hc.2.1 hc.2.2 q
theorem unI{f:xB->Sem xB}{g:Int->Int}
  (rule:∀(i:Int)(t:Tok)(s:xy)(Q:xB->xy->Prop)(E:xB->xy->Prop),Q (.int (g i) s.toks) {s with toks:=s.toks+1}->vk (vK X.prog X.w) X.A (f (.int i t)) Q E s):
  UnR X f (rU λi=>.int (g i)):=by
 intro pins s σ H x v Q I rx h;obtain⟨i,rfl,q⟩:=h;obtain⟨t,rfl⟩:=rx;exact rule i t s _ _ ⟨.int (g i),H,I.tok _,⟨_,rfl⟩,q⟩
theorem ZLb:UnR X (unaryOp .USub) (rU λi=>.int (-i)):=unI λ_ _ _ _ _ q=>neg_int q
end
section
variable{X:Cx}{a b c:xY}{ta tb tc:TE}{pos:Pos}
theorem R6{Q:VK}{k k':Bool}(I:Inv X pins σ H s)(q:Q (.bl k) H)(e:k=k'):EP X pins σ Q (.bool k') s:=by subst e;exact⟨.bl k,H,I,rfl,q⟩
theorem ZKM:OpR X (xP .Lt) (rI0 λi j=>.bl (decide (i<j))):=ZAZ λ_ _ _ _ _ _ _ q=>lt_int q
theorem ZL9:OpR X (xP .LtE) (rI0 λi j=>.bl (decide (i<=j))):=ZAZ λ_ _ _ _ _ _ _ q=>le_int q
theorem ZFI:OpR X (xP .Gt) (rI0 λi j=>.bl (decide (j<i))):=ZAZ λ_ _ _ _ _ _ _ q=>gt_int q
theorem ZIN:OpR X (xP .Lt) (λx y H Q=>∃i j,x=.str i/\y=.str j/\Q (.bl (decide (i.cps.toList<j.cps.toList))) H):=by intro pins s σ H x y v u Q I rx ry h;obtain⟨i,j,rfl,rfl,q⟩:=h;obtain⟨t,rfl⟩:=rx;obtain⟨t',rfl⟩:=ry;exact lt_str (R6 I q rfl)
theorem ZLW:OpR X (xP .Is) (λx y H Q=>y=.non/\Q (.bl (decide (x=.non))) H):=by
 intro pins s σ H x y v u Q I rx ry h;obtain⟨rfl,q⟩:=h;cases ry;refine is_none_gen (R6 I q ?_)
 cases x<;>first
  |(cases rx;rfl)
  |(obtain⟨t,rfl⟩:=rx;rfl)
theorem ZFi:OpR X (xP .IsNot) (λx y H Q=>y=.non/\Q (.bl (!decide (x=.non))) H):=by
 intro pins s σ H x y v u Q I rx ry h;obtain⟨rfl,q⟩:=h;cases ry;refine isnot_none_gen (R6 I q ?_)
 cases x<;>first
  |(cases rx;rfl)
  |(obtain⟨t,rfl⟩:=rx;rfl)
theorem ZHy:OpR X (xP .NotIn) (λx y H Q=>∃i j,x=.str i/\y=.str j/\Q (.bl (!(!(Builtin.Str.occurrences j i 0 j.length 1).isEmpty))) H):=by intro pins s σ H x y v u Q I rx ry h;obtain⟨i,j,rfl,rfl,q⟩:=h;obtain⟨t,rfl⟩:=rx;obtain⟨t',rfl⟩:=ry;exact notIn_str (R6 I q rfl)
theorem OpR.or{r':R2}(h:OpR X f r)(h':OpR X f r'):OpR X f (λx y H Q=>r x y H Q∨r' x y H Q):=by
 intro pins s σ H x y v u Q I rx ry q;rcases q with q|q
 ·exact h pins s σ H x y v u Q I rx ry q
 ·exact h' pins s σ H x y v u Q I rx ry q
theorem nomark(b:xY)(h:op≠ .In:=by decide)(h2:op≠ .NotIn:=by decide):xH op b=vU:=by
 have e1:(op==CmpOp.In)=vU:=by cases op<;>first|rfl|exact absurd rfl h
 have e2:(op==CmpOp.NotIn)=vU:=by cases op<;>first|rfl|exact absurd rfl h2
 cases b<;>simp[xH,e1,e2]
theorem ZFZ(ho:OpR X (xP op) r)(ha:PE X a ta)(hb:PE X b tb)(hm:xH op b=vU):PE X (.Compare a [op] [b] pos) (tOp r ta tb):=by intro pins s σ H Q I h;exact wpAny_Compare1 (Z3 ha hb I h λv u s2 x y H2 I2 rx ry q=>ho pins s2 σ H2 x y v u Q I2 rx ry q) hm
noncomputable def Ou(t:TE):TT:=λσ H Q=>t σ H λx H'=>∃k,x=.bl k/\Q k H'
theorem ZGK(ho:OpR X (xP op) r)(ha:PE X a ta)(hb:PE X b tb)(hm:xH op b=vU):PT X (.Compare a [op] [b] pos) (Ou (tOp r ta tb)):=by
 intro pins s σ H Q I h;refine wpAny_isTrue_Compare1 (thn (ha pins s σ H _ I h) λv s1 ⟨x,H1,I1,r1,q1⟩=>thn (hb pins s1 σ H1 _ I1 q1) λu s2 ⟨y,H2,I2,r2,q2⟩=>
  thn (ho pins s2 σ H2 x y v u _ I2 r1 r2 q2) λc s3 ⟨z,H3,I3,r3,k,e,q3⟩=>?_) hm
 subst e;cases r3;exact vN ⟨H3,I3,q3⟩
noncomputable def ZEW(r r':R2)(ta tb tc:TE):TE:=λσ H Q=>ta σ H λx H1=>tb σ H1 λy H2=>r x y H2 λz H3=>∃k,z=.bl k/\
 (if k=vT then tc σ H3 λw' H4=>r' y w' H4 Q else Q (.bl vU) H3)
theorem ZK8{op':CmpOp}{r':R2}(ho:OpR X (xP op) r)(ho':OpR X (xP op') r')(ha:PE X a ta)(hb:PE X b tb)(hc:PE X c tc)
  (hm:lastMarks [op,op'] [b,c]=vU:=by with_unfolding_all rfl):PT X (.Compare a [op,op'] [b,c] pos) (Ou (ZEW r r' ta tb tc)):=by
 intro pins s σ H Q I h;refine isTrue_chain (thn (ha pins s σ H _ I h) λv s1 ⟨x,H1,I1,r1,q1⟩=>test_link (thn (hb pins s1 σ H1 _ I1 q1) λu s2 ⟨y,H2,I2,r2,q2⟩=>
  thn (ho pins s2 σ H2 x y v u _ I2 r1 r2 q2) λd s3 ⟨z,H3,I3,r3,k,e,q3⟩=>?_)) hm
 subst e;cases r3;refine vN ?_;cases k with
 |false=>
  obtain⟨k',e',q'⟩:=q3;cases e';exact ite_ff ⟨H3,I3,q'⟩
 |true=>
  refine ite_tt (test_last (thn (hc pins s3 σ H3 _ I3 q3) λw' s4 ⟨z',H4,I4,r4,q4⟩=>thn (ho' pins s4 σ H4 y z' u w' _ I4 r2 r4 q4) λd' s5 ⟨z2,H5,I5,r5,k2,e2,q5⟩=>?_));subst e2;cases r5;exact vN ⟨H5,I5,q5⟩
theorem line63:(sizeLine:Nat)<2^63:=by rw[vq];decide
theorem ZJ2:OpR X (xI .Add) (λx y H Q=>∃i j,x=.str i/\y=.str j/\i.length+j.length<=sizeLine/\Q (.str (i++j)) H):=by intro pins s σ H x y v u Q I rx ry h;obtain⟨i,j,rfl,rfl,hz,q⟩:=h;obtain⟨t,rfl⟩:=rx;obtain⟨t',rfl⟩:=ry;exact add_str (λt' tk=>⟨.str (i++j),H,I.tok _,⟨_,rfl⟩,q⟩) hz
theorem ZG0:OpR X (inplaceOp .Add) (λx y H Q=>∃i j,x=.str i/\y=.str j/\i.length+j.length<=sizeLine/\Q (.str (i++j)) H):=by intro pins s σ H x y v u Q I rx ry h;obtain⟨i,j,rfl,rfl,hz,q⟩:=h;obtain⟨t,rfl⟩:=rx;obtain⟨t',rfl⟩:=ry;exact iadd_str (λt' tk=>⟨.str (i++j),H,I.tok _,⟨_,rfl⟩,q⟩) hz
theorem vals1{x:V}(r:Vals [x] us):∃u,us=[u]/\RelV x u:=by
 cases r with
 |cons r1 r2=>cases r2;exact⟨_,rfl,r1⟩
theorem vals2{x:V}(r:Vals [x,y] us):∃u w',us=[u,w']/\RelV x u/\RelV y w':=by
 cases r with
 |cons r1 r2=>
  cases r2 with
  |cons r3 r4=>cases r4;exact⟨_,_,rfl,r1,r3⟩
theorem ZML(hc:X.calm=vT):CallR X (.builtin "min") (λxs H Q=>∃i j,xs=[.int i,.int j]/\Q (.int (if j<i then j else i)) H):=by
 intro pins s σ H xs us Q I r h;obtain⟨i,j,rfl,q⟩:=h;obtain⟨u,w',rfl,⟨t,rfl⟩,⟨t',rfl⟩⟩:=vals2 r;refine min_two_ints (I.ok.hd hc) λh' tk k=>⟨_,H,I.kept k,?_,q⟩
 by_cases hj:j<i
 ·rw[if_pos hj,if_pos hj];exact⟨_,rfl⟩
 ·rw[if_neg hj,if_neg hj];exact⟨_,rfl⟩
theorem ZF4:CallR X (.type "int") (λxs H Q=>(∃i,xs=[.int i]/\Q (.int i) H)∨∃k,xs=[.bl k]/\Q (.int (if k then 1 else 0)) H):=by
 intro pins s σ H xs us Q I r h;rcases h with⟨i,rfl,q⟩|⟨k,rfl,q⟩
 ·obtain⟨u,rfl,t,rfl⟩:=vals1 r;exact call_int_int ⟨.int i,H,I,⟨_,rfl⟩,q⟩
 ·obtain⟨u,rfl,r1⟩:=vals1 r;cases r1;exact call_int_bool ⟨.int (if k then 1 else 0),H,I.tok _,⟨_,rfl⟩,q⟩
end
structure ObjM (h:Heap) (x dx C:xW) (mA:Str->Option xB):Prop where
 obj:h.get? x=vR (PySem.W.instObj C dx)
 ns:h.Ns1 dx mA
 ne:dx≠x
theorem ZDQ{dx:xW}{mA:Str->Option xB}(n:h.Ns1 dx mA):∃od,h.get? dx=vR od/\∀name,PySem.W.lookIn name od=vR (mA name):=by
 obtain⟨o,es,ep,ho,hd,hk,_,hm⟩:=n;refine⟨o,ho,λname=>?_⟩;have e:=hm name;unfold nsFind findBy at e;rw[<-Array.find?_toList]at e;unfold PySem.W.lookIn;rw[hd];dsimp only;split
 ·rename_i y q;rw[q]at e;exact congrArg vR e
 ·rename_i q;rw[q]at e
  have a:es.toList.any (·.refKey)=vU:=by rw[List.any_eq_false];intro y hy;obtain⟨z,t,hkey⟩:=hk y (Array.mem_toList_iff.mp hy);simp[DictEntry.refKey,hkey]
  have a':¬es.toList.any (·.refKey)=vT:=by rw[a];exact zy
  rw[if_neg a'];exact congrArg vR e
theorem ObjM.look{x dx:xW}{mA:Str->Option xB}(I:ObjM h x dx C mA):∃od,PySem.W.InstAt h x (PySem.W.instObj C dx) C (vR od)/\∀name,PySem.W.lookIn name od=vR (mA name):=
 let⟨od,ho,hl⟩:=ZDQ I.ns
 ⟨od,⟨I.obj,rfl,rfl,ho⟩,hl⟩
section
variable{prog:xj}{w:xC}{A:xK}{E:xB->xy->Prop}{s:xy}{K:PySem.W.Frag}{x dx C f:xW}{mA:Str->Option xB}{name:Str}{v:xB}
theorem ZGE{expr:Bool}{Q:xB->xy->Prop}(X:K.In s.heap)(I:ObjM s.heap x dx C mA)(hg:PySem.W.plainGet K C name=vT)(hh:PySem.W.hasDictIn K C=vT)
  (ha:PySem.W.findIn K (.ref C) name=vR vS) (hv:mA name=vR v) (hv':PySem.W.handedIn v=vT) (h:Q v {s with toks:=s.toks+1}):
  vk (vK prog w) A (getAttr (.ref x) name expr) Q E s:=by
 obtain⟨od,J,hl⟩:=I.look;exact PySem.W.get_value X J (PySem.W.plainGet_of hg).1 (PySem.W.findObj_own hh ha rfl (by rw[hl,hv])) hv' h
theorem ZFp{Q:xB×List xB->xy->Prop}(X:K.In s.heap)(I:ObjM s.heap x dx C mA)(hg:PySem.W.plainGet K C name=vT)
  (hf:PySem.W.findIn K (.ref C) name=vR (vR (.ref f))) (ht:PySem.W.isFn K (.ref f)=vT) (hv:mA name=vS) (h:Q (.ref f,[.ref x]) s):
  vk (vK prog w) A (getMethod (.ref x) name pl) Q E s:=by
 obtain⟨od,J,hl⟩:=I.look
 exact PySem.W.method_fn X J (PySem.W.plainGet_of hg).1 (PySem.W.plainGet_of hg).2 hf (beq_iff_eq.mp ht) (by show(PySem.W.lookIn name od).map (·.isSome)=vR vU;rw[hl,hv];rfl) h
theorem ZLI{ns:List Str}(X:K.In s.heap)(I:ObjM s.heap x dx C mA)
  (hs:PySem.W.findIn K (.ref C) "__setattr__"=vR (vR (.builtin "object.__setattr__"))) (hp:PySem.W.plainOver K C=vT) (ht:PySem.W.takerIn K C name=vR vS) (hh:PySem.W.hasDictIn K C=vT)
  (hw:PySem.Within mA ns) (hsz:ns.length<=sizeLine)
  (h:∀h',ObjM h' x dx C (λy=>if y=name then vR v else mA y)->qx dx s.heap h'->Q () {s with heap:=h',toks:=s.toks+2}):
  vk (vK prog w) A (setAttr (.ref x) name v) Q E s:=by
 obtain⟨od,J,hl⟩:=I.look;refine PySem.W.set_plain X J hs (PySem.W.osa_open (s:={s with toks:=s.toks+1}) (r:=vS) X J hp ht λb=>?_);obtain⟨cd,hc,hd'⟩:=PySem.W.any_some hh;have hx:s.heap.get? x=vR ⟨.ref C,vR dx,.plain,#[]⟩:=I.obj;refine vB (vL (vB (vB (wpAny_loadPart hx (vB (PySem.W.Looks.here (s:={s with toks:=s.toks+1}) (PySem.W.looks_clsIn X hc) ?_))))))
 rw[hd'];refine vL (a:=vR dx) (vB (vL (vB ?_)));refine wpAny_nsSet1 (s:={s with toks:=s.toks+1}) I.ns λh' hn2 hs2=>?_
 obtain⟨oD,esD,epD,hoD,hdD,hcD⟩:=hn2.count (PySem.Within.cons name v hw);refine vB (wpAny_lookBehind hoD (by rw[hdD];exact pastItsLine_dict (z0 hcD (by rw[zR];lia))) ?_);exact vL (h _ ⟨(hs2.2 _ (Ne.symm I.ne)).trans I.obj,hn2,I.ne⟩ hs2)
theorem ZKT{R:Result->xy->Prop}{vs:List xB}(X:K.In s.heap)(hm:PySem.W.makesIn K C=vT)
  (hi:PySem.W.findIn K (.ref C) "__init__"=vR (vR (.ref f))) (hf:PySem.W.typeIn K (.ref f)=vR (.type "function"))
  (h:codeAny (vK prog w) (A.under (.builtin "type.__call__" ⟨.ref C::vs,kw⟩)) (.call (.ref f) ⟨.ref (s.heap.objs.size+1)::vs,kw⟩) (PySem.W.InitBack (s.heap.objs.size+1) R)
   {s with heap:=(s.heap.push PySem.W.emptyDict).push (PySem.W.instObj C s.heap.objs.size)}):
  codeAny (vK prog w) A (.call (.ref C) ⟨vs,kw⟩) R s:=by
 obtain⟨hh,g,d,t,os⟩:=s;exact PySem.W.make_core (PySem.W.makes_of X hm) (PySem.W.looks_findIn X hi) (λself=>PySem.W.bind_fn X self hf) (.inl rfl) h
end
noncomputable def Dl(f:Str)(v:V):List (Str×V)->List (Str×V)
 |[]=>[(f,v)]
 |(g,x)::r=>if g=f then(g,v)::r else(g,x)::Dl f v r
theorem ZBm(f g:Str)(v:V):∀fs:List (Str×V),(Dl f v fs).lookup g=if g=f then vR v else fs.lookup g
 |[]=>by
  show q0 g [(f,v)]=_;by_cases h:g=f
  ·have hb:(g==f)=vT:=beq_iff_eq.mpr h;simp only[q0,hb,if_pos h]
  ·have hb:(g==f)=vU:=beq_eq_false_iff_ne.mpr h;simp only[q0,hb,if_neg h]
 | (k,x)::r=>by
  have ih:=ZBm f g v r
  rw[show Dl f v ((k,x)::r)=(if k=f then(k,v)::r else(k,x)::Dl f v r)from rfl]
  by_cases hk:k=f
  ·rw[if_pos hk];by_cases h:g=k
   ·have hb:(g==k)=vT:=beq_iff_eq.mpr h;simp only[q0,hb,if_pos (h.trans hk)]
   ·have hb:(g==k)=vU:=beq_eq_false_iff_ne.mpr h;simp only[q0,hb,if_neg (λe:g=f=>h (e.trans hk.symm))]
  ·rw[if_neg hk];by_cases h:g=k
   ·have hb:(g==k)=vT:=beq_iff_eq.mpr h;simp only[q0,hb,if_neg (λe:g=f=>hk (h.symm.trans e))]
   ·have hb:(g==k)=vU:=beq_eq_false_iff_ne.mpr h;simp only[q0,hb];exact ih
theorem Uv(f:Str)(v:V):∀fs:List (Str×V),f∈(Dl f v fs).map (·.1)/\∀g,g∈fs.map (·.1)->g∈(Dl f v fs).map (·.1)
 |[]=>⟨by simp[Dl],λg h=>by simp at h⟩
 | (k,x)::r=>by
  obtain⟨i1,i2⟩:=Uv f v r
  rw[show Dl f v ((k,x)::r)=(if k=f then(k,v)::r else(k,x)::Dl f v r)from rfl]
  by_cases hk:k=f
  ·rw[if_pos hk];subst hk;exact⟨by simp,λg h=>by simpa using h⟩
  ·rw[if_neg hk];refine⟨?_,λg h=>?_⟩
   ·rw[zA];exact zZ _ i1
   ·rw[zA]at h⊢;rcases zq.mp h with e|e
    ·exact zq.mpr (.inl e)
    ·exact zZ _ (i2 g e)
theorem ZA4(f:Str)(v:V):∀fs:List (Str×V),(Dl f v fs).length<=fs.length+1
 |[]=>by simp[Dl]
 |(k,x)::r=>by
  have ih:=ZA4 f v r
  rw[show Dl f v ((k,x)::r)=(if k=f then(k,v)::r else(k,x)::Dl f v r)from rfl]
  by_cases hk:k=f
  ·rw[if_pos hk,zR,zR];lia
  ·rw[if_neg hk,zR,zR];lia
theorem RelO.some_of{o:Option xB}(r:RelO (vR v) o):∃u,o=vR u/\RelV v u:=by
 cases o with
 |none=>exact(show False from r).elim
 |some u=>exact⟨u,rfl,r⟩
theorem RelO.none_of{o:Option xB}(r:RelO vS o):o=vS:=by
 cases o with
 |none=>rfl
 |some u=>exact(show False from r).elim
theorem ZAo(r:RelV v u):PySem.W.handedIn u=vT:=by
 cases v with
 |non=>cases(show u=Value.none from r);rfl
 |bl b=>cases(show u=Value.bool b from r);rfl
 |int i=>obtain⟨t,e⟩:=(show∃t,u=Value.int i t from r);cases e;rfl
 |str x=>obtain⟨t,e⟩:=(show∃t,u=Value.str x t from r);cases e;rfl
 |byt b=>obtain⟨t,e⟩:=(show∃t,u=Value.bytes b t from r);cases e;rfl
 |flt b=>obtain⟨t,e⟩:=(show∃t,u=Value.float b t from r);cases e;rfl
 |ref a=>cases(show u=Value.ref a from r);rfl
 |ty n=>cases(show u=Value.type n from r);rfl
section
variable{P:xj}{w:xC}{H H':Hp}{h h':Heap}{a C dx:xW}{fs fs':List (Str×V)}
theorem Yk(hok:HOk P w H h)(e:H a=vR (.ins C dx fs)):∃mA,ObjM h a dx C mA/\(∀f,RelO (fs.lookup f) (mA f))/\PySem.Within mA (fs.map (·.1))/\fs.length<=1000/\H dx=vR (.own a):=by
 obtain⟨d,z,ne,ob,mA,n,r,q⟩:=(show ObjOk P w H h a (.ins C dx fs)from hok a _ e)
 exact⟨mA,⟨ob,n,ne⟩,r,q,z,d⟩
end
structure Cls (K:PySem.W.Frag) (C:xW):Prop where
 pg:PySem.W.plainGet K C Str.empty=vT
 hd:PySem.W.hasDictIn K C=vT
 po:PySem.W.plainOver K C=vT
 sa:PySem.W.findIn K (.ref C) "__setattr__"=vR (vR (.builtin "object.__setattr__"))
theorem Cls.get(c:Cls K C)(f:Str):PySem.W.plainGet K C f=vT:=c.pg
def NoAttr(K:PySem.W.Frag)(C:xW)(f:Str):Prop:=PySem.W.findIn K (.ref C) f=vR vS
theorem NoAttr.taker{f:Str}(n:NoAttr K C f):PySem.W.takerIn K C f=vR vS:=by
 unfold PySem.W.takerIn
 rw[show PySem.W.findIn K (.ref C) f=vR vS from n]
 rfl
structure Meth (K:PySem.W.Frag) (C:xW) (m:Str) (f:xW):Prop where
 at_:PySem.W.findIn K (.ref C) m=vR (vR (.ref f))
 fn:PySem.W.isFn K (.ref f)=vT
 kp:PySem.W.keepIn K (.ref f)=vT
section
variable{X:Cx}{pins:List (xW×Obj)}{σ:St}{H:Hp}{s:xy}{a C dx:xW}{fs:List (Str×V)}{f:Str}{v:V}{A:xK}{E:xB->xy->Prop}
theorem ZIh{b:Bool}{Q:xB->xy->Prop}(I:Inv X pins σ H s)(e:H a=vR (.ins C dx fs))(c:Cls X.K C)(n:NoAttr X.K C f)(l:fs.lookup f=vR v)
  (h:∀u s',Inv X pins σ H s'->RelV v u->Q u s'):vk (vK X.prog X.w) A (getAttr (.ref a) f b) Q E s:=by
 obtain⟨mA,O,r,_,_,_⟩:=Yk I.hok e;obtain⟨u,hu,ru⟩:=RelO.some_of (v:=v) (o:=mA f) (by rw[<-l];exact r f);exact ZGE I.kIn O (c.get f) c.hd n hu (ZAo ru) (h u _ (I.tok _) ru)
theorem ZAn{m:Str}{g:xW}{Q:xB×List xB->xy->Prop}(I:Inv X pins σ H s)(e:H a=vR (.ins C dx fs))(c:Cls X.K C)(k:Meth X.K C m g)(l:fs.lookup m=vS)
  (h:Q (.ref g,[.ref a]) s):vk (vK X.prog X.w) A (getMethod (.ref a) m pl) Q E s:=by
 obtain⟨mA,O,r,_,_,_⟩:=Yk I.hok e;have hn:mA m=vS:=RelO.none_of (by rw[<-l];exact r m);exact ZFp I.kIn O (c.get m) k.at_ k.fn hn h
theorem ZLJ(I:Inv X pins σ H s)(e:H a=vR (.ins C dx fs))(c:Cls X.K C)(n:NoAttr X.K C f)(hl:fs.length<1000)(ry:RelV y u)
  (h:∀s',Inv X pins σ (upd H a (.ins C dx (Dl f y fs))) s'->Q () s'):vk (vK X.prog X.w) A (setAttr (.ref a) f u) Q E s:=by
 obtain⟨mA,O,r,wi,_,ho⟩:=Yk I.hok e
 have hz:(fs.map (·.1)).length<=sizeLine:=by rw[zO,vq];lia
 refine ZLI I.kIn O c.sa c.po n.taker c.hd wi hz λh' O' sb=>h _ ?_
 have hd:∃o,h'.get? dx=vR o:=let⟨o,_,_,e',_⟩:=O'.ns;⟨o,e'⟩;refine I.write (x:=a) (e:=dx) (by rw[e];exact True.intro) (.inr ho) (λb q hb z=>(sb.2 b hb).trans z) hd ?_;refine⟨by rw[Aq O.ne];exact ho,?_,O.ne,O'.obj,_,O'.ns,λg=>?_,λg hg=>?_⟩
 ·have:=ZA4 f y fs;lia
 ·show RelO ((Dl f y fs).lookup g) (if g=f then vR u else mA g);rw[ZBm];by_cases q:g=f
  ·rw[if_pos q,if_pos q];exact ry
  ·rw[if_neg q,if_neg q];exact r g
 ·by_cases q:g=f
  ·rw[q];exact(Uv f y fs).1
  ·refine(Uv f y fs).2 g (wi g λz=>hg ?_);show(if g=f then vR u else mA g)=vS;rw[if_neg q];exact z
theorem Inv.made(I:Inv X pins σ H s):Inv X pins σ (upd (upd H s.heap.objs.size (.own (s.heap.objs.size+1))) (s.heap.objs.size+1) (.ins C s.heap.objs.size []))
  {s with heap:=(s.heap.push PySem.W.emptyDict).push (PySem.W.instObj C s.heap.objs.size)}:=by
 have e1:(s.heap.push PySem.W.emptyDict).get? s.heap.objs.size=vR PySem.W.emptyDict:=zj s.heap rfl;have e2:((s.heap.push PySem.W.emptyDict).push (PySem.W.instObj C s.heap.objs.size)).get? (s.heap.objs.size+1)=vR (PySem.W.instObj C s.heap.objs.size):=by have:=zj (s.heap.push PySem.W.emptyDict) (o:=PySem.W.instObj C s.heap.objs.size) rfl;rwa[qj]at this
 have e3:(s.heap.push PySem.W.emptyDict).Ns s.heap.objs.size (λ_=>vS):=⟨PySem.W.emptyDict,#[],_,e1,rfl,(λe he=>absurd he (by simp)),λ_=>rfl⟩;have I1:=I.laid (a:=s.heap.objs.size) (o:=.own (s.heap.objs.size+1)) (h':=s.heap.push PySem.W.emptyDict) (t':=s.toks) (λb u q=>zQ _ q) (zK _) ⟨_,e1⟩;refine I1.laid (a:=s.heap.objs.size+1) (o:=.ins C s.heap.objs.size []) (t':=s.toks) (λb u q=>zQ _ q) (Nat.le_of_eq (qj _ _)) ?_
 have ne:s.heap.objs.size≠s.heap.objs.size+1:=zF (zU _);refine⟨by rw[Aq ne,Do],qR _,ne,e2,λ_=>vS,(Heap.Ns1.of_empty e3).at λo q=>zQ _ q,λ_=>True.intro,λy hy=>absurd rfl hy⟩
theorem ZCR{prog:xj}{env:Env}{f:Str}{pos:Pos}{Q:xB->xy->Prop}(hb:xE e f env (eval e env)=eval e env)
  (h:vk (vK prog w) A (eval e env) (λo s₁=>vk (vK prog w) A (getAttr o f vT) Q E s₁) E s):vk (vK prog w) A (eval (.Attribute e f pos) env) Q E s:=
 Attribute_any_ h (by rw[arm_eval_Attribute,hb])
end
def tFld(K:PySem.W.Frag)(ta:TE)(f:Str):TE:=λσ H Q=>ta σ H λx H1=>∃a C dx fs v,x=.ref a/\H1 a=vR (.ins C dx fs)/\Cls K C/\NoAttr K C f/\fs.lookup f=vR v/\Q v H1
def sFld(K:PySem.W.Frag)(ta tv:TE)(f:Str):TS:=λD σ H=>tv σ H λy H1=>ta σ H1 λx H2=>∃a C dx fs,x=.ref a/\H2 a=vR (.ins C dx fs)/\Cls K C/\NoAttr K C f/\fs.length<1000/\
 D.nx σ (upd H2 a (.ins C dx (Dl f y fs)))
section
variable{X:Cx}{o e value:xY}{f:Str}{pos pos' tpos:Pos}{ta tv:TE}
theorem ZIR(he:PE X e ta)(hb:xE e f X.env (eval e X.env)=eval e X.env):PE X (.Attribute e f pos) (tFld X.K ta f):=by intro pins s σ H Q I h;refine ZCR hb (thn (he pins s σ H _ I h) λu s1 ⟨x,H1,I1,rx,a,C,dx,fs,v,ex,ea,c,n,l,q⟩=>?_);subst ex;obtain rfl:u=Value.ref a:=rx;exact ZIh I1 ea c n l λu' s2 I2 ru=>⟨v,H1,I2,ru,q⟩
theorem ZGX(ha:PE X o ta)(hv:PE X value tv)(hs:swapsWith value (vR (.Attribute o f pos')) pos.line X.env=pure vU):PS X (.Assign [.Attribute o f pos'] value pos) (sFld X.K ta tv f):=by intro pins s σ H D I h;refine plainObj_wpAny_Assign_Attribute (thn (hv pins s σ H _ I h) λu s1 ⟨y,H1,I1,ry,q⟩=>thn (ha pins s1 σ H1 _ I1 q) λov s2 ⟨x,H2,I2,rx,a,C,dx,fs,ex,ea,c,n,l,q2⟩=>?_) hs;subst ex;obtain rfl:ov=Value.ref a:=rx;exact ZLJ I2 ea c n l ry λs3 I3=>⟨σ,_,I3,q2⟩
end
section
variable{X:Cx}{pins:List (xW×Obj)}{σ:St}{H:Hp}{s:xy}{A:xK}{E:xB->xy->Prop}{Q:xB->xy->Prop}{c:xB}{b:Bool}
end
structure Room (k:Nat) (A:xK):Prop where
 hd:A.handled=vS
 dp:A.depth+3*k+5<recursionLimit
 un:A.units+16*k+200<cLine
theorem Room.mono{j:Nat}(r:Room k A)(h:j<=k):Room j A:=⟨r.hd,by have:=r.dp;lia,by have:=r.un;lia⟩
theorem Room.deeper(r:Room (k+1) A)(env:Env):Room k (A.deeper env):=
 ⟨r.hd,by have:=r.dp;show A.depth+1+3*k+5<_;lia,by have:=r.un;show A.units+3+16*k+200<_;lia⟩
theorem Room.in1(r:Room (k+1) A):Room k A.in1:=
 ⟨r.hd,by have:=r.dp;show A.depth+3*k+5<_;lia,by have:=r.un;show A.units+1+16*k+200<_;lia⟩
theorem ZKK:(A.under (.builtin "type.__call__" ⟨.ref C::us,kw⟩)).depth=A.depth+1:=by
 first|rfl|simp[Around.under,Code.weight,Code.isCreation,Code.isGuard,Code.isCaller,Code.frames,Code.isFrame,guardIds]
theorem ZFo:(A.under (.builtin "type.__call__" ⟨.ref C::us,kw⟩)).units=A.units+1:=by
 first|rfl|simp[Around.under,Code.cUnits,Code.frames,Code.isFrame]
theorem Room.make(r:Room (k+1) A)(C:xW)(us:List xB)(kw:List (Str×xB)):Room k (A.under (.builtin "type.__call__" ⟨.ref C::us,kw⟩)):=
 ⟨r.hd,by have:=r.dp;rw[ZKK];lia,by have:=r.un;rw[ZFo];lia⟩
theorem Room.depth(r:Room k A):A.depth<recursionLimit:=by have:=r.dp;lia
theorem Room.units(r:Room k A):A.units+64<cLine:=by have:=r.un;lia
noncomputable def ZAa:TA:=λ_ H Q=>Q [] H
noncomputable def Z7(ta:TE)(tr:TA):TA:=λσ H Q=>ta σ H λx H1=>tr σ H1 λxs H2=>Q (x::xs) H2
section
variable{X:Cx}{e:xY}{es:List xY}{te:TE}{t:TA}{pos:Pos}
theorem Pg:PA X [] ZAa:=λ_ _ _ _ H Q I h=>Calls.spliced_nil ⟨[],H,I,.nil,h⟩
theorem Jd(ha:PE X e te)(hr:PA X es t)(hs:vj (e::es) X.env=(vU,eval e X.env)::vj es X.env:=by rfl):PA X (e::es) (Z7 te t):=by intro pos pins s σ H Q I h;rw[hs];show vk _ _ (spliced ((vU,eval e X.env)::xF pos (vj es X.env))) _ _ s;refine Calls.spliced_cons (thn (ha pins s σ H _ I h) λu s1 ⟨x,H1,I1,r1,q1⟩=>?_);exact thn (hr pos pins s1 σ H1 _ I1 q1) λus s2 ⟨xs,H2,I2,r2,q2⟩=>⟨x::xs,H2,I2,.cons r1 r2,q2⟩
def tTup(t:TA):TE:=λσ H Q=>t σ H λxs H1=>xs.length<=sizeLine/\∀p,H1 p=vS->Q (.ref p) (upd H1 p (.tup xs))
def tLst(t:TA):TE:=λσ H Q=>t σ H λxs H1=>xs.length<=sizeLine/\∀p,H1 p=vS->Q (.ref p) (upd H1 p (.lst xs))
theorem ZCy{x1}(h:PA X es t):PE X (.Tuple es x1 pos) (tTup t):=by intro pins s σ H Q I hq;refine wpAny_Tuple_spliced (thn (h pos pins s σ H _ I hq) λus s1 ⟨xs,H1,I1,r,z,q⟩=>⟨by rw[<-r.length];exact z,?_⟩);have hf:H1 s1.heap.objs.size=vS:=I1.hok.fresh (zK _);refine⟨.ref s1.heap.objs.size,upd H1 s1.heap.objs.size (.tup xs),I1.laid (t':=s1.toks) (λb u e=>zQ _ e) (zK _) ?_,rfl,q _ hf⟩;exact⟨z,us,r,⟨_,zj _ rfl,rfl,_,rfl⟩⟩
theorem ZL8(h:PA X es t):PE X (.List es pos) (tLst t):=by intro pins s σ H Q I hq;refine wpAny_List_spliced (thn (h pos pins s σ H _ I hq) λus s1 ⟨xs,H1,I1,r,z,q⟩=>⟨by rw[<-r.length];exact z,?_⟩);have hf:H1 s1.heap.objs.size=vS:=I1.hok.fresh (zK _);refine⟨.ref s1.heap.objs.size,upd H1 s1.heap.objs.size (.lst xs),I1.laid (t':=s1.toks) (λb u e=>zQ _ e) (zK _) ?_,rfl,q _ hf⟩;exact⟨z,us,0,r,zj _ rfl⟩
end
noncomputable abbrev Sp:=List V->Hp->VK->XK->Prop
noncomputable abbrev CXT:=List Env->Hp->xy->XK->xB->xy->Prop
structure Env0 (P:xj) (w:xC) (K:PySem.W.Frag) (mg:Str->Option xB) (base:Heap) (A:xK) (outer:List Env) (s:xy) (H:Hp):Prop where
 frames:A.frames=vR outer
 mod:Mod K mg base
 bs:∀b o,base.get? b=vR o->s.heap.get? b=vR o/\H b=vS
 bsz:base.objs.size<=s.heap.objs.size
 funs:s.heap.FunFrames base outer
 frf:∀b∈frs outer,H b=vS
 hok:HOk P w H s.heap
 bare:AllBare s.gens
def CE(outer:List Env)(P:xj)(w:xC)(H:Hp)(s:xy)(Q:VK)(u:xB)(s':xy):Prop:=
 ∃v H',s'.os=s.os/\AllBare s'.gens/\Un (frs outer) [] H H' s.heap s'.heap/\HOk P w H' s'.heap/\RelV v u/\Q v H'
def CR(CX:CXT)(outer:List Env)(P:xj)(w:xC)(H:Hp)(s:xy)(Q:VK)(E:XK)(r:Result)(s':xy):Prop:=
 match r with
 |.ok (.ret u)=>CE outer P w H s Q u s'
 |.ok _=>False
 |.error e=>CX outer H s E e s'
structure FnOk (P:xj) (w:xC) (K:PySem.W.Frag) (mg:Str->Option xB) (base:Heap) (CX:CXT) (k:Nat) (f:xW) (fd:xq) (ps:List Str) (sp:Sp):Prop where
 len:∀vs H Q E,sp vs H Q E->vs.length=ps.length
 run:∀(A:xK)(outer:List Env)(s:xy)(H:Hp)(args:Args)(us:List xB)(vs:List V)(Q:VK)(E:XK),Room k A->Env0 P w K mg base A outer s H->BindsTo s fd args (ps.zip us)->Vals vs us->sp vs H Q E->
  codeAny (vK P w) A (.call (.ref f) args) (CR CX outer P w H s Q E) s
theorem Env0.make{outer:List Env}(e:Env0 P w K mg base A outer s H)(C:xW)(us:List xB)(kw:List (Str×xB)):
  Env0 P w K mg base (A.under (.builtin "type.__call__" ⟨.ref C::us,kw⟩)) outer s H:=⟨by first|exact e.frames|(simpa[Around.under,Code.envs,Code.isFrame,pushEnvs]using e.frames),e.mod,e.bs,e.bsz,e.funs,e.frf,e.hok,e.bare⟩
section
variable{X:Cx}{pins:List (xW×Obj)}{σ:St}{H:Hp}{s s':xy}
theorem Inv.env0(I:Inv X pins σ H s):Env0 X.prog X.w X.K X.mg X.base X.A X.stack s H:=
 ⟨I.ok.frames,I.ok.mod,I.bs,z0 I.ok.bsz I.sz,I.stack,I.Q7,I.hok,I.bare⟩
theorem Inv.after{Q:VK}(I:Inv X pins σ H s)(h:CE X.stack X.prog X.w H s Q u s'):EP X pins σ Q u s':=by obtain⟨v,H',os,bare,un,hok,r,q⟩:=h;obtain⟨hh,g,d,t,os'⟩:=s';obtain rfl:os'=s.os:=os;exact⟨v,H',I.call (h':=hh) (g':=g) (d':=d) (t':=t) (ch:=[]) un hok bare (λb z=>absurd z (by simp)),r,q⟩
end
noncomputable def ZEL(sp:Sp)(dvs:List V)(E:XK)(t:TA):TE:=λσ H Q=>t σ H λvs H1=>sp (vs++dvs) H1 Q E
def Xp(C:xW)(m:Str)(sp:Sp)(dvs:List V)(E:XK)(ta:TE)(t:TA):TE:=λσ H Q=>ta σ H λx H1=>∃a dx fs,x=.ref a/\H1 a=vR (.ins C dx fs)/\fs.lookup m=vS/\
 t σ H1 λvs H2=>sp (x::(vs++dvs)) H2 Q E
def ZMQ(C:xW)(sp:Sp)(dvs:List V)(E:XK)(t:TA):TE:=λσ H Q=>t σ H λvs H1=>∀x dx,H1 x=vS->H1 dx=vS->dx≠x->
 sp (.ref x::(vs++dvs)) (upd (upd H1 dx (.own x)) x (.ins C dx [])) (λv H2=>v=.non/\Q (.ref x) H2) E
def Binds(K:PySem.W.Frag)(fd:xq)(ps:List Str)(ds:List xB):Prop:=
 ∀(s:xy)(us:List xB),K.In s.heap->(us++ds).length=ps.length->BindsTo s fd ⟨us,[]⟩ (ps.zip (us++ds))
theorem Binds.all{fd:xq}{ps:List Str}(h:∀us:List xB,us.length=ps.length->bindArgs fd ⟨us,[]⟩=pure (ps.zip us)):Binds K fd ps []:=λs us _ hl=>by rw[zP]at hl⊢;exact .of_eq (h us hl)
def Passes(CX:CXT)(X:Cx)(E:XK):Prop:=∀(pins:List (xW×Obj))(σ:St)(H:Hp)(s:xy)(e:xB)(s':xy),Inv X pins σ H s->CX X.stack H s E e s'->X.xe e s'
section
variable{X:Cx}{CX:CXT}{k:Nat}{f C:xW}{fd:xq}{ps:List Str}{sp:Sp}{dvs:List V}{ds:List xB}{E:XK}{x m:Str}{p pos apos:Pos}{e o:xY}{es:List xY}{ta:TE}{t:TA}
theorem Wj{Q:VK}(F:FnOk X.prog X.w X.K X.mg X.base CX k f fd ps sp)(hr:Room k X.A)(hb:Binds X.K fd ps ds)(hd:Vals dvs ds)(hx:Passes CX X E)
  (I:Inv X pins σ H s) (r:Vals vs us) (h:sp (vs++dvs) H Q E):vk (vK X.prog X.w) X.A (call (.ref f) us) (EP X pins σ Q) X.xe s:=by
 have r2:Vals (vs++dvs) (us++ds):=r.append hd;have hl:(us++ds).length=ps.length:=by rw[<-r2.length];exact F.len _ _ _ _ h
 refine wpAny_call (xO (F.run X.A X.stack s H ⟨us,[]⟩ (us++ds) (vs++dvs) Q E hr I.env0 (hb s us I.kIn hl) r2 h) λr s' hq=>?_);cases r with
 |error e=>exact hx pins σ H s e s' I hq
 |ok fl=>
  cases fl with
  |ret u=>exact I.after hq
  |next=>exact False.elim hq
  |brk=>exact False.elim hq
  |cont=>exact False.elim hq
theorem ZDq(F:FnOk X.prog X.w X.K X.mg X.base CX k f fd ps sp)(hr:Room k X.A)(hg:Gl X x)(hm:X.mg x=vR (.ref f))(hk:PySem.W.keepIn X.K (.ref f)=vT)(hb:Binds X.K fd ps ds)(hd:Vals dvs ds)(hx:Passes CX X E)
  (ha:PA X (e::es) t) (hdb:(x==("__debug__":Str))=vU:=by decide) (he:vj (e::es) X.env=(vU,eval e X.env)::vj es X.env:=by rfl) (hpl:(xF pos (vj es X.env)).any (·.1)=vU:=by rfl):
  PE X (.Call (.Name x p) (e::es) [] pos) (ZEL sp dvs E t):=by
 intro pins s σ H Q I h;refine vA (Jq I hg hm ?_ hdb);refine PySem.W.callWith_K (h₀:=X.base) I.ok.mod.kin hk (thn (ha pos pins s σ H _ I h) λus s1 ⟨vs,H1,I1,r,q⟩=>⟨I1.kIn,?_⟩) he hpl;exact Wj F hr hb hd hx I1 r q
theorem ZJd{pl:Sem Bool}(he:PE X o ta)(c:Cls X.K C)(hm:Meth X.K C m f)(F:FnOk X.prog X.w X.K X.mg X.base CX k f fd ps sp)(hr:Room k X.A)(hb:Binds X.K fd ps ds)(hd:Vals dvs ds)(hx:Passes CX X E)(ha:PA X (e::es) t)
  (hst:vj (e::es) X.env=(vU,eval e X.env)::vj es X.env:=by rfl) (hpl:(xF pos (vj es X.env)).any (·.1)=vU:=by rfl)
  (ht:eval (.Call (.Attribute o m apos) (e::es) [] pos) X.env=(do
   let ov<-eval o X.env
   standAt apos.atName
   let(f,first)<-holding [ov] (getMethod ov m pl)
   callWith pos f first (xF pos (vj (e::es) X.env)) (xG pos (vX [] X.env))):=by rfl):
  PE X (.Call (.Attribute o m apos) (e::es) [] pos) (Xp C m sp dvs E ta t):=by
 intro pins s σ H Q I h;refine PySem.W.methodCall_KW (pl:=pl) (thn (he pins s σ H _ I h) λu s1 ⟨x,H1,I1,rx,a,dx,fs,ex,ea,l,q⟩=>?_) ht;subst ex;obtain rfl:u=Value.ref a:=rx;refine ZAn I1 ea c hm l ?_
 refine PySem.W.callWith_K (first:=[.ref a]) (h₀:=X.base) I.ok.mod.kin hm.kp (thn (ha pos pins s1 σ H1 _ I1 q) λus s2 ⟨vs,H2,I2,r,q2⟩=>⟨I2.kIn,?_⟩) hst hpl
 exact Wj (us:=.ref a::us) (vs:=.ref a::vs) F hr hb hd hx I2 (.cons rfl r) q2
theorem ZH1(he:PE X o ta)(c:Cls X.K C)(hm:Meth X.K C m f)(F:FnOk X.prog X.w X.K X.mg X.base CX k f fd ps sp)(hr:Room k X.A)(hb:Binds X.K fd ps ds)(hd:Vals dvs ds)(hx:Passes CX X E)
  (ht:eval (.Call (.Attribute o m apos) [] [] pos) X.env=(do
   let ov<-eval o X.env
   standAt apos.atName
   let(f,first)<-holding [ov] (getMethod ov m pl)
   callWith pos f first (xF pos (vj [] X.env)) (xG pos (vX [] X.env))):=by rfl):
  PE X (.Call (.Attribute o m apos) [] [] pos) (Xp C m sp dvs E ta ZAa):=by
 intro pins s σ H Q I h;refine PySem.W.methodCall_KW (pl:=pl) (thn (he pins s σ H _ I h) λu s1 ⟨x,H1,I1,rx,a,dx,fs,ex,ea,l,q⟩=>?_) ht;subst ex;obtain rfl:u=Value.ref a:=rx;refine ZAn I1 ea c hm l ?_
 exact PySem.W.callWith_K0 (first:=[.ref a]) I1.kIn hm.kp (Wj (us:=[.ref a]) (vs:=[.ref a]) F hr hb hd hx I1 (.cons rfl .nil) q)
structure Mk (K:PySem.W.Frag) (C f:xW):Prop where
 makes:PySem.W.makesIn K C=vT
 init:PySem.W.findIn K (.ref C) "__init__"=vR (vR (.ref f))
 fn:PySem.W.isFn K (.ref f)=vT
 kp:PySem.W.keepIn K (.ref C)=vT
theorem ZFg{Q:VK}(M:Mk X.K C f)(F:FnOk X.prog X.w X.K X.mg X.base CX k f fd ps sp)(hr:Room (k+1) X.A)(hb:Binds X.K fd ps ds)(hd:Vals dvs ds)
  (hx:Passes CX X E) (I:Inv X pins σ H s) (r:Vals vs us)
  (h:∀x dx,H x=vS->H dx=vS->dx≠x->sp (.ref x::(vs++dvs)) (upd (upd H dx (.own x)) x (.ins C dx [])) (λv H2=>v=.non/\Q (.ref x) H2) E):
  vk (vK X.prog X.w) X.A (call (.ref C) us) (EP X pins σ Q) X.xe s:=by
 have hq:=h (s.heap.objs.size+1) s.heap.objs.size (I.hok.fresh (qS _)) (I.hok.fresh (zK _)) (zF (zU _));have I2:=Inv.made (C:=C) I;have r2:Vals (V.ref (s.heap.objs.size+1)::(vs++dvs)) (Value.ref (s.heap.objs.size+1)::(us++ds)):=.cons rfl (r.append hd);have hl:(Value.ref (s.heap.objs.size+1)::us++ds).length=ps.length:=by have e:=r2.length;rw[F.len _ _ _ _ hq]at e;exact e.symm
 refine wpAny_call (ZKT (f:=f) I.kIn M.makes M.init (beq_iff_eq.mp M.fn) (xO (F.run _ X.stack _ _ ⟨Value.ref (s.heap.objs.size+1)::us,[]⟩ (Value.ref (s.heap.objs.size+1)::(us++ds)) _ _ E (hr.make C us [])
  (I2.env0.make C us []) (hb _ (Value.ref (s.heap.objs.size+1)::us) I2.kIn hl) r2 hq) λr s' hq'=>?_))
 cases r with
 |error e=>exact hx pins σ _ _ e s' I2 hq'
 | ok fl=>
  cases fl with
  |ret u=>
   obtain⟨v,H',I3,rv,ev,q3⟩:=I2.after hq';subst ev;exact⟨rv,⟨V.ref (s.heap.objs.size+1),H',I3,rfl,q3⟩⟩
  |next=>exact False.elim hq'
  |brk=>exact False.elim hq'
  |cont=>exact False.elim hq'
theorem ZGG(M:Mk X.K C f)(F:FnOk X.prog X.w X.K X.mg X.base CX k f fd ps sp)(hr:Room (k+1) X.A)(hg:Gl X x)(hm:X.mg x=vR (.ref C))(hb:Binds X.K fd ps ds)(hd:Vals dvs ds)(hx:Passes CX X E)
  (ha:PA X (e::es) t) (hdb:(x==("__debug__":Str))=vU:=by decide) (he:vj (e::es) X.env=(vU,eval e X.env)::vj es X.env:=by rfl) (hpl:(xF pos (vj es X.env)).any (·.1)=vU:=by rfl):
  PE X (.Call (.Name x p) (e::es) [] pos) (ZMQ C sp dvs E t):=by
 intro pins s σ H Q I h;refine vA (Jq I hg hm ?_ hdb);refine PySem.W.callWith_K (h₀:=X.base) I.ok.mod.kin M.kp (thn (ha pos pins s σ H _ I h) λus s1 ⟨vs,H1,I1,r,q⟩=>⟨I1.kIn,?_⟩) he hpl;exact ZFg M F hr hb hd hx I1 r q
end
section
variable{X:Cx}{CX:CXT}{k:Nat}{f C:xW}{fd:xq}{ps ks:List Str}{sp:Sp}{E:XK}{x m:Str}{p pos apos kpos:Pos}{e o:xY}{es:List xY}{kws:List Keyword}{te ta:TE}{t tk:TA}{nm:Option Str}
variable{g:List xB->List xB->List xB}{gV:List V->List V->List V}
end
structure FnScope (N P:List Str) (sc:xk):Prop where
 kind:sc.kind=.function
 co:sc.isCoroutine=vU
 gen:sc.isGenerator=vU
 nd:N.Nodup
 pre:N.take P.length=P
 par:∀x∈P,sc.names.lookup x=vR .local∨sc.names.lookup x=vR .cell
 nofree:∀y∈sc.names,y.2≠ .free
theorem ZEU:∀{binds:List (Str×xB)}{m:Str->Option xB},(∀v,(x,v)∉binds)->bindL kindOf binds m x=m x
 |[],_,_=>rfl
 | (n,v)::r,m,h=>by
  unfold bindL;rw[ZEU λw hw=>h w (zZ _ hw)];split
  ·have:x≠n:=by rintro rfl;exact h v zV
   simp[this]
  ·rfl
theorem ZCS:∀{binds:List (Str×xB)}{m:Str->Option xB},(∀v,(x,v)∉binds)->bindC kindOf binds m x=m x
 |[],_,_=>rfl
 | (n,v)::r,m,h=>by
  unfold bindC;rw[ZCS λw hw=>h w (zZ _ hw)];split
  ·rfl
  ·have:x≠n:=by rintro rfl;exact h v zV
   simp[this]
theorem ZA2{v:xB}:∀{P:List Str}{vs:List xB}{i:Nat}{m:Str->Option xB},P.Nodup->P[i]?=vR x->vs[i]?=vR v->kindOf x=vR .local->
  bindL kindOf (P.zip vs) m x=vR v
 |[],_,_,_,_,h,_,_=>by simp at h
 |_::_,[],_,_,_,_,h,_=>by simp at h
 |p::P,w::vs,0,m,nd,h1,h2,hk=>by simp at h1 h2;subst h1;subst h2;show bindL kindOf ((p,w)::P.zip vs) m p=_;unfold bindL;rw[ZEU λv hv=>(jz.mp nd).1 (jT hv).1,if_pos hk];simp
 |p::P,w::vs,i+1,m,nd,h1,h2,hk=>by show bindL kindOf ((p,w)::P.zip vs) m x=_;unfold bindL;exact ZA2 (i:=i) (jz.mp nd).2 (by simpa using h1) (by simpa using h2) hk
theorem ZEa{v:xB}:∀{P:List Str}{vs:List xB}{i:Nat}{m:Str->Option xB},P.Nodup->P[i]?=vR x->vs[i]?=vR v->kindOf x≠vR .local->
  bindC kindOf (P.zip vs) m x=vR v
 |[],_,_,_,_,h,_,_=>by simp at h
 |_::_,[],_,_,_,_,h,_=>by simp at h
 |p::P,w::vs,0,m,nd,h1,h2,hk=>by simp at h1 h2;subst h1;subst h2;show bindC kindOf ((p,w)::P.zip vs) m p=_;unfold bindC;rw[ZCS λv hv=>(jz.mp nd).1 (jT hv).1,if_neg hk];simp
 |p::P,w::vs,i+1,m,nd,h1,h2,hk=>by show bindC kindOf ((p,w)::P.zip vs) m x=_;unfold bindC;exact ZEa (i:=i) (jz.mp nd).2 (by simpa using h1) (by simpa using h2) hk
noncomputable def start(N:List Str)(vs:List V):St:=vs.map vR++zv (N.length-vs.length) vS
noncomputable def Dy(CX:CXT)(P:xj)(w:xC)(K:PySem.W.Frag)(mg:Str->Option xB)(base:Heap)(N:List Str)(qual:Str)(scope:xk)(f:xW)(cd:xB)(A:xK)(outer:List Env)(s:xy)(H:Hp)(E:XK):Cx where
 prog:=P
 w:=w
 K:=K
 mg:=mg
 base:=base
 A:=A.deeper (envOfC qual scope s.heap.objs.size f cd)
 N:=N
 s₀:=s
 H₀:=H
 env:=envOfC qual scope s.heap.objs.size f cd
 outer:=outer
 stack:=envOfC qual scope s.heap.objs.size f cd::outer
 ex:=[]
 calm:=vT
 fn:=λ_=>vT
 pn:=[]
 xe:=λe s'=>vk (vK P w) (A.deeper (envOfC qual scope s.heap.objs.size f cd)) (leaving (envOfC qual scope s.heap.objs.size f cd) e) (λ_ s''=>CX outer H s E e s'') (λe' s''=>CX outer H s E e' s'') s'
theorem ZCH{sc:xk}{n:Nat}(h:sc.names.lookup x=vR .cell):∃c,(cellsFrom n sc.names []).lookup x=vR c:=by have q:=PySem.W.cellsFrom_some sc.names n [] (.inl h);exact jE.mp q
theorem ZDI{CX:CXT}{N ps:List Str}{qual:Str}{scope:xk}{f:xW}{cd:xB}{outer:List Env}{s1:xy}{E:XK} 
  (S:FnScope N ps scope) (hd:A.handled=vS) (e0:Env0 P w K mg base A outer s H) (hl:vs.length=ps.length) (r:Vals vs us)
  (x:InCallC s s.heap.objs.size (bindL (envOfC qual scope s.heap.objs.size f cd).kindOf (ps.zip us) λ_=>vS) (cellsFrom (s.heap.objs.size+1) scope.names []) (bindC (envOfC qual scope s.heap.objs.size f cd).kindOf (ps.zip us) λ_=>vS) s1):
  Inv (Dy CX P w K mg base N qual scope f cd A outer s H E) [] (start N vs) H s1:=by
 have hpl:ps.length<=N.length:=by have:=congrArg xJ S.pre;rw[qF]at this;lia
 obtain⟨h1,tk,rfl,hk⟩:=x.done
 have noA:∀b:xW,b∉(Dy CX P w K mg base N qual scope f cd A outer s H E).ex:=λb z=>absurd (show b∈([]:List xW)from z) (by simp)
 refine⟨⟨e0.mod,S.kind,rfl,rfl,zK _,λy z c h1 h2=>?_,λy hy=>?_,λy c _ h=>?_,λ_=>hd,Around.frames_deeper e0.frames,.inr ⟨rfl,rfl⟩,λb z=>absurd z (noA b),e0.bs,e0.bsz,λb _ _=>noA b,λb z=>absurd z (noA b),e0.funs,e0.frf⟩,
  rfl,e0.bare,Un.kept hk,⟨_,x.toInCall.ns,λi y v h1 h2 h3=>?_⟩,λy c h=>⟨_,x.cell y c h⟩,e0.hok.fresh (zK _),λy c h=>?_,λp hp=>absurd (show p∈([]:List (xW×Obj))from hp) (by simp),e0.hok.kept hk,?_⟩
 ·exact name_of_addr x.apart (PySem.mem_of_lookup h1) (PySem.mem_of_lookup h2)
 ·have hy:scope.names.lookup y=vR .cell∨scope.names.lookup y=vR .free:=hy;rcases hy with hy|hy
  ·exact ZCH hy
  ·exact absurd rfl (S.nofree _ (PySem.mem_of_lookup hy))
 ·exact j5 (x.above y c (PySem.mem_of_lookup h))
 ·have hi:i<vs.length:=by
   unfold start at h2;by_cases hi:i<vs.length
   ·exact hi
   ·rw[zI (by simpa using hi)]at h2;rw[qw]at h2
    split at h2<;>cases h2
  have ha:vs[i]?=vR v:=by
   unfold start at h2;rw[zG (by simpa using hi),zC]at h2;cases e:vs[i]? with
   |none=>rw[e]at h2;cases h2
   |some a=>rw[e]at h2;cases h2;rfl
  obtain⟨u,hu,rv⟩:=r.get ha;have hp:ps[i]?=vR y:=by rw[<-S.pre,qz (by lia)];exact h1
  have ndP:ps.Nodup:=by rw[<-S.pre];exact S.nd.sublist (List.take_sublist _ _)
  refine⟨u,rv,?_⟩;rcases S.par y (List.mem_of_getElem? hp)with k|k
  ·exact .inl ⟨k,ZA2 ndP hp hu k⟩
  ·obtain⟨c,e⟩:=ZCH (n:=s.heap.objs.size+1) k;refine .inr ⟨.inl k,c,e,?_⟩;have q:=x.cell y c e;rw[ZEa ndP hp hu (by show scope.names.lookup y≠_;rw[k];decide)]at q;exact q
 ·exact e0.hok.fresh (j5 (x.above y c (PySem.mem_of_lookup h)))
 ·unfold start;show _=N.length;rw[qJ,zO,jN];lia
theorem Zu{CX:CXT}{f:xW}{name qual:Str}{params:Arguments}{scope:xk}{dV kV doc pm cdv ct oc:xB}{an od:Option xW}
  {osl:Array (Option xB)} {N ps:List Str} {sp:Sp} (lk:K.lookup f=vR ⟨oc,od,.func (PySem.W.fnOf name qual params body scope dV kV doc pm an cdv ct),osl⟩) (hcd:PySem.W.codeIn K cdv qual=vT) (S:FnScope N ps scope)
  (len:∀vs H Q E,sp vs H Q E->vs.length=ps.length)
  (hbody:∀(A:xK)(outer:List Env)(s:xy)(H:Hp)(vs:List V)(Q:VK)(E:XK),Room k (A.deeper (envOfC qual scope s.heap.objs.size f cdv))->sp vs H Q E->
   ∃t,PSs (Dy CX P w K mg base N qual scope f cdv A outer s H E) body t/\t {nx:=λ_ H'=>Q .non H',rt:=Q} (start N vs) H):
  FnOk P w K mg base CX (k+1) f (PySem.W.fnOf name qual params body scope dV kV doc pm an cdv ct) ps sp:=by
 refine⟨len,λA outer s H args us vs Q E hr e0 hb r hsp=>?_⟩;have hl:=len _ _ _ _ hsp;have KX:K.In s.heap:=e0.mod.kin.keeps λb o e=>(e0.bs b o e).1
 have lim:s.heap.NoLimit:=e0.mod.nolimit.keeps λb o e=>(e0.bs b o e).1
 have hkind:∀y∈ps.zip us,scope.names.lookup y.1=vR .local∨(scope.names.lookup y.1=vR .cell/\((cellsFrom (s.heap.objs.size+1) scope.names []).lookup y.1).isSome=vT):=λ⟨n,v⟩ hy=>by
  rcases S.par n (jT hy).1 with q|q
  ·exact .inl q
  ·exact .inr ⟨q,PySem.W.cellsFrom_some _ _ _ (.inl q)⟩
 refine codeAny_call_function hr.depth (KX _ _ lk) rfl S.co S.gen rfl (PySem.W.codeRec_of KX hcd) (hb _ _ _ _ ?_);refine wpAny_newFunctionEnv_cells S.kind hkind λenv he s1 x=>?_
 subst he;refine⟨lim.keeps x.toInCall.keep,codeAny_func ?_⟩;obtain⟨t,ht,hq⟩:=hbody A outer s H vs Q E (hr.deeper _) hsp;have I:Inv (Dy CX P w K mg base N qual scope f cdv A outer s H E) [] (start N vs) H s1:=ZDI S hr.hd e0 hl r x;refine vG (ht [] s1 (start N vs) H _ I hq) (λfl s' hs=>?_) λe s' hs=>hs
 have fin:∀{σ':St}{H':Hp}{v:V}{u:xB},Inv (Dy CX P w K mg base N qual scope f cdv A outer s H E) [] σ' H' s'->RelV v u->Q v H'->CE outer P w H s Q u s':=
  λ{σ' H' v u}J rv q=>⟨v,H',J.os,J.bare,J.base,J.hok,rv,q⟩
 cases fl with
 |ret u=>
  obtain⟨v,σ',H',J,rv,q⟩:=hs;exact fin J rv q
 |next=>
  obtain⟨σ',H',J,q⟩:=hs;exact fin (v:=V.non) (u:=Value.none) J rfl q
 |brk=>
  obtain⟨_,_,_,q⟩:=hs;exact False.elim q
 |cont=>
  obtain⟨_,_,_,q⟩:=hs;exact False.elim q
section
variable{X:Cx}{x:Str}{p pos:Pos}{e:xY}{es:List xY}{t:TA}{id T:String}{r:List V->Hp->VK->Prop}
noncomputable def tCB(r:List V->Hp->VK->Prop)(t:TA):TE:=λσ H Q=>t σ H λvs H1=>r vs H1 Q
theorem Vq(hc:CallR X (.builtin id) r)(hg:Gl X x)(hm:X.mg x=vS)(hv:xL x=vR (.builtin id))(ha:PA X (e::es) t)(hn:x≠"__name__":=by decide)(hdb:(x==("__debug__":Str))=vU:=by decide)
  (he:vj (e::es) X.env=(vU,eval e X.env)::vj es X.env:=by rfl) (hpl:(xF pos (vj es X.env)).any (·.1)=vU:=by rfl):PE X (.Call (.Name x p) (e::es) [] pos) (tCB r t):=by
 intro pins s σ H Q I h;refine vA (Il I hg hm hv ?_ hn hdb);exact PyProof.Rows.callWith_builtin1 (thn (ha pos pins s σ H _ I h) λus s1 ⟨vs,H1,I1,r1,q1⟩=>hc pins s1 σ H1 vs us Q I1 r1 q1) he hpl
theorem ZJ7(hc:CallR X (.type T) r)(hg:Gl X x)(hm:X.mg x=vS)(hv:xL x=vR (.type T))(ha:PA X (e::es) t)(hn:x≠"__name__":=by decide)(hdb:(x==("__debug__":Str))=vU:=by decide)
  (he:vj (e::es) X.env=(vU,eval e X.env)::vj es X.env:=by rfl) (hpl:(xF pos (vj es X.env)).any (·.1)=vU:=by rfl):PE X (.Call (.Name x p) (e::es) [] pos) (tCB r t):=by
 intro pins s σ H Q I h;refine vA (Il I hg hm hv ?_ hn hdb);exact PyProof.Rows.callWith_type1 (thn (ha pos pins s σ H _ I h) λus s1 ⟨vs,H1,I1,r1,q1⟩=>hc pins s1 σ H1 vs us Q I1 r1 q1) he hpl
end
end _L
namespace HT
open PySem PyProof.Rows
section
open PySem.SeqAt
open PySem.AutoSeq1 (wpAny_loadPart')
open PySem.MeetsSeq PySem.MeetsSeq2 PySem.MeetsSeq3
end
section
variable{prog:xj}{w:xC}{A:xK}{E:xB->xy->Prop}{s:xy}
theorem ZGI{t b:xW}{vs ws:List xB}{Q:xB->xy->Prop}(ht:IsTup s.heap t vs.toArray)(hb:IsTup s.heap b ws.toArray)(hv:vs≠[])
  (h1:ws=[]->Q (.ref t) s) (h2:ws≠[]->Q (.ref s.heap.objs.size) {s with heap:=s.heap.push {cls:=.type "tuple",data:=.seq (vs++ws).toArray}})
  (hsz:vs.length+ws.length<=sizeLine):vk (vK prog w) A (xI .Add (.ref t) (.ref b)) Q E s:=by
 obtain⟨⟨cls,dd,data,sl⟩,ho,hc,n,hd⟩:=id ht;obtain⟨⟨cls2,dd2,data2,sl2⟩,ho2,hc2,n2,hd2⟩:=id hb;simp only at hc hd hc2 hd2;subst hc hd hc2 hd2;have e:vs.toArray++ws.toArray=(vs++ws).toArray:=by simp
 by_cases hw:ws=[]
 ·exact concat_meets ⟨_,ho,rfl⟩ ⟨_,ho2,rfl⟩ noFill_tuple_add seq_tuple_add PySem.F.slot_tuple_add PySem.F.entry_tuple_add (PySem.F.args_tuple_add_2 _ _)
   (tuple_addW1 t b vs.toArray ws.toArray n n2 dd dd2 sl sl2 (by simpa using hv) (by simp[hw])) ⟨ho,ho2,h1 hw⟩
 ·refine concat_meets ⟨_,ho,rfl⟩ ⟨_,ho2,rfl⟩ noFill_tuple_add seq_tuple_add PySem.F.slot_tuple_add PySem.F.entry_tuple_add (PySem.F.args_tuple_add_2 _ _)
   (tuple_addW2 t b vs.toArray ws.toArray n n2 dd dd2 sl sl2 (by simpa using hv) (by simpa using hw) (by rw[zx,zx];exact hsz)) ⟨ho,ho2,?_⟩
  rw[e];exact h2 hw
noncomputable def sIx(n d:Nat):Option Int->Nat
 |none=>d
 |some v=>if v<0 then(v+(n:Int)).toNat else min v.toNat n
theorem ZB1(n d:Nat)(hd:d<=n)(o:Option Int):sIx n d o<=n:=by
 cases o with
 |none=>exact hd
 |some v=>
  show(if v<0 then(v+(n:Int)).toNat else min v.toNat n)<=n;by_cases hv:v<0
  ·rw[if_pos hv];lia
  ·rw[if_neg hv];exact Nat.min_le_right _ _
theorem ZDh(v:Int)(n d:Nat):(if v<0 then max (v+(n:Int)) 0 else min v (n:Int))=((sIx n d (vR v):Nat):Int):=by
 show(if v<0 then max (v+(n:Int)) 0 else min v (n:Int))=(((if v<0 then(v+(n:Int)).toNat else min v.toNat n):Nat):Int);by_cases hv:v<0
 ·simp only[if_pos hv];lia
 ·simp only[if_neg hv];lia
theorem ZJJ(lo hi:Option Int)(n:Nat):Builtin.Slice.sliceAdjust lo hi 1 (n:Int)=(((sIx n 0 lo:Nat):Int),((sIx n n hi:Nat):Int)):=by
 have h1:¬((1:Int)<0):=by lia
 unfold Builtin.Slice.sliceAdjust;simp only[h1,if_false];refine Prod.ext ?_ ?_
 ·cases lo with
  |none=>rfl
  |some v=>exact ZDh v n 0
 ·cases hi with
  |none=>rfl
  |some v=>exact ZDh v n n
theorem ZJc(i j:Nat):Builtin.Slice.slicePlaces (i:Int) (j:Int) 1=j-i:=by
 unfold Builtin.Slice.slicePlaces;have h1:(1:Int)>0:=by lia
 simp only[h1,if_true,Int.ediv_one]
 split <;> lia
theorem ZA6{v:xB}{o:Option Int}{Q:Option Int->xy->Prop}(p:IsPart v o)(h:Q o s):vk (vK prog w) A (Builtin.Slice.slicePartIndex v) Q E s:=by
 cases p with
 |none=>exact slicePart_none h
 |int i t=>exact slicePart_int h
theorem ZAs{sl:xW}{vl vu:xB}{lo hi:Option Int}{n:Nat}{Q:Int×Int×Nat->xy->Prop}(hs:s.heap.IsSliceOf sl vl vu .none)(pl:IsPart vl lo)(pu:IsPart vu hi)
  (h:Q (((sIx n 0 lo:Nat):Int),1,sIx n n hi-sIx n 0 lo) s):vk (vK prog w) A (Builtin.Slice.sliceApplied (.ref sl) (pure (n:Int))) Q E s:=by
 obtain⟨os,hos,hcs,hds⟩:=id hs;unfold Builtin.Slice.sliceApplied Builtin.Slice.sliceFields;refine vB (vB (vE hos hds (x:=vl) rfl (vB (vE hos hds (x:=vu) rfl (vB (vE hos hds (x:=.none) rfl (vL ?_)))))));refine vB (slicePart_none ?_);show vk _ _ (if((1:Int)==0)=vT then _ else _) _ _ s;rw[if_neg (by decide)];refine vB (ZA6 pl (vB (ZA6 pu (vB (vL ?_)))))
 show vk _ _ (match Builtin.Slice.sliceAdjust lo hi 1 (n:Int)with |(lo,hi)=>pure (lo,(1:Int),Builtin.Slice.slicePlaces lo hi 1)) _ _ s
 rw[ZJJ lo hi n];show vk _ _ (pure (((sIx n 0 lo:Nat):Int),(1:Int),Builtin.Slice.slicePlaces ((sIx n 0 lo:Nat):Int) ((sIx n n hi:Nat):Int) 1)) _ _ s;rw[ZJc];exact vL h
theorem ZHm(xs:Array xB)(i k:Nat):((zJ k).filterMap λ(m:Nat)=>xs[((i:Int)+(m:Int)*1).toNat]?).toArray=((xs.toList.drop i).take k).toArray:=by
 have e:(λ(m:Nat)=>xs[((i:Int)+(m:Int)*1).toNat]?)=λm=>xs[i+m]? :=by
  funext m;have:((i:Int)+(m:Int)*1).toNat=i+m:=by lia
  rw[this]
 rw[e];have:=pick_run xs i k;rw[qP]at this;have e2:((λx=>xs[x]?) ∘ λx=>i+x)=λm=>xs[i+m]? :=rfl
 rw[e2]at this;rw[this]
theorem ZKY{t sl:xW}{items:Array xB}{vl vu:xB}{lo hi:Option Int}{Q:xB->xy->Prop}(ht:IsTup s.heap t items)(hs:s.heap.IsSliceOf sl vl vu .none)(pl:IsPart vl lo)(pu:IsPart vu hi)
  (hw:¬(sIx items.size 0 lo=0/\sIx items.size items.size hi=items.size))
  (h:Q (.ref s.heap.objs.size) {s with heap:=s.heap.push {cls:=.type "tuple",data:=.seq ((items.toList.drop (sIx items.size 0 lo)).take (sIx items.size items.size hi-sIx items.size 0 lo)).toArray}})
  (hsz:items.size<=sizeLine):vk (vK prog w) A (getItem (.ref t) (.ref sl)) Q E s:=by
 have htake:sizeOk (.seq ((items.toList.drop (sIx items.size 0 lo)).take (sIx items.size items.size hi-sIx items.size 0 lo)).toArray):=by show((items.toList.drop (sIx items.size 0 lo)).take (sIx items.size items.size hi-sIx items.size 0 lo)).toArray.size<=sizeLine;rw[zx,qF,jO,qC];lia
 have hj:sIx items.size items.size hi<=items.size:=ZB1 _ _ (zK _) hi;obtain⟨os,hos,hcs,hds⟩:=id hs;have hTs:s.TypeIs (.ref sl) "slice":=⟨os,hos,hcs⟩;unfold getItem
 try with_reducible refine vF ?_
 first|refine vB (vL ?_)|skip
 refine vB (wpAny_sequenceKey ht.typeIs (by decide) ?_);refine vB (vC (name:=Str.ofString "__getitem__") ht.typeIs PyProof.Rows.slot_tuple_getitem
  (vD PyProof.Rows.slot_tuple_getitem ht.typeIs entry_tuple_getitem ?_ (args_tuple_getitem _ _)))
 show vk _ _ (Builtin.Tuple.tupleItemsOf (.ref t) >>=_) _ _ s;refine vB (tupleItemsOf_ ht ?_);refine vB (wpAny_typeOf hTs ?_);rw[if_pos (by decide)];refine vB (ZAs hs pl pu ?_);have hno:¬((((sIx items.size 0 lo:Nat):Int)==0&&(1:Int)==1&&(sIx items.size items.size hi-sIx items.size 0 lo)==items.size)=vT):=by intro q;rw[zB,zB]at q;have q1:((sIx items.size 0 lo:Nat):Int)=0:=eq_of_beq q.1.1;have q2:sIx items.size items.size hi-sIx items.size 0 lo=items.size:=eq_of_beq q.2;exact hw ⟨by lia,by lia⟩
 show vk _ _ (if(((sIx items.size 0 lo:Nat):Int)==0&&(1:Int)==1&&(sIx items.size items.size hi-sIx items.size 0 lo)==items.size)=vT then _ else _) _ _ s;rw[if_neg hno,ZHm]
 first
  |exact vB (m:=Builtin.Tuple.tupleExact _) (vH (vL ⟨_,rfl,vL h⟩) htake)
  |exact vB (m:=Builtin.Tuple.tupleExact _) (vH (vB (vL (vL ⟨_,rfl,vL h⟩))) htake)
  |exact vB (vB (m:=Builtin.Tuple.tupleExact _) (vH (vL (vL ⟨_,rfl,vL h⟩)) htake))
  |exact vB (vB (m:=Builtin.Tuple.tupleExact _) (vH (vL ⟨_,rfl,vL h⟩) htake))
end
end HT
namespace _L
open PySem PySem.Spec PyProof.Rows
variable{xs:List V}{n:Nat}{pins:List (xW×Obj)}{σ:St}{H:Hp}{s:xy}{its:List xB}
noncomputable abbrev TO:=St->Hp->(Option Int->Hp->Prop)->Prop
def PO(X:Cx)(e:Option xY)(t:TO):Prop:=
 ∀(pins:List (xW×Obj))(s:xy)(σ:St)(H:Hp)(Q:Option Int->Hp->Prop),Inv X pins σ H s->t σ H Q->
  vk (vK X.prog X.w) X.A (evalPart e X.env) (λu s'=>∃o H',Inv X pins σ H' s'/\IsPart u o/\Q o H') X.xe s
noncomputable def ZLV:TO:=λ_ H Q=>Q vS H
noncomputable def ZH2(t:TE):TO:=λσ H Q=>t σ H λx H1=>∃i,x=.int i/\Q (vR i) H1
section
variable{X:Cx}{e:xY}{te:TE}{lo hi:Option xY}{tl th:TO}{pos p2:Pos}
theorem ZMJ:PO X vS ZLV:=by intro pins s σ H Q I h;rw[evalPart_none];exact vL ⟨vS,H,I,.none,h⟩
theorem ZIS(h:PE X e te):PO X (vR e) (ZH2 te):=by
 intro pins s σ H Q I hw;rw[evalPart_some];refine thn (h pins s σ H _ I hw) λu s1 ⟨x,H1,I1,r1,q1⟩=>?_
 obtain⟨i,rfl,q⟩:=q1;obtain⟨t,rfl⟩:=r1;exact⟨vR i,H1,I1,.int i t,q⟩
def SlR(X:Cx)(r:V->Option Int->Option Int->Hp->VK->Prop):Prop:=
 ∀(pins:List (xW×Obj))(s:xy)(σ:St)(H:Hp)(x:V)(v vl vu:xB)(lo hi:Option Int)(sl:xW)(Q:VK),Inv X pins σ H s->RelV x v->s.heap.IsSliceOf sl vl vu .none->IsPart vl lo->IsPart vu hi->r x lo hi H Q->
  ∃T id,typeLookup (.type T) "__getitem__"=pure (vR (.builtin id))/\s.TypeIs v T/\vk (vK X.prog X.w) X.A (getItem v (.ref sl)) (EP X pins σ Q) X.xe s
theorem SlR.or{r r':V->Option Int->Option Int->Hp->VK->Prop}(h:SlR X r)(h':SlR X r'):SlR X (λx lo hi H Q=>r x lo hi H Q∨r' x lo hi H Q):=by
 intro pins s σ H x v vl vu lo hi sl Q I rx hs pl pu q;rcases q with q|q
 ·exact h pins s σ H x v vl vu lo hi sl Q I rx hs pl pu q
 ·exact h' pins s σ H x v vl vu lo hi sl Q I rx hs pl pu q
noncomputable def tSl(r:V->Option Int->Option Int->Hp->VK->Prop)(te:TE)(tl th:TO):TE:=λσ H Q=>te σ H λx H1=>tl σ H1 λl H2=>th σ H2 λu H3=>r x l u H3 Q
theorem ZE1{r:V->Option Int->Option Int->Hp->VK->Prop}(hr:SlR X r)(he:PE X e te)(hl:PO X lo tl)(hu:PO X hi th):PE X (.Subscript e (.Slice lo hi vS p2) pos) (tSl r te tl th):=by
 intro pins s σ H Q I h;refine Subscript_ (thn (he pins s σ H _ I h) λv s1 ⟨x,H1,I1,r1,q1⟩=>?_);refine wpAny_Slice (thn (hl pins s1 σ H1 _ I1 q1) λvl s2 ⟨l,H2,I2,pl,q2⟩=>thn (hu pins s2 σ H2 _ I2 q2) λvu s3 ⟨u,H3,I3,pu,q3⟩=>?_);rw[evalPart_none];refine vL ?_;have I4:Inv X pins σ H3 {s3 with heap:=s3.heap.push {cls:=.type "slice",data:=.fields #[vl,vu,.none]}}:=I3.kept (t':=s3.toks) λb ob q=>zQ _ q
 obtain⟨T,id,hT,ht,hg⟩:=hr pins {s3 with heap:=s3.heap.push {cls:=.type "slice",data:=.fields #[vl,vu,.none]}} σ H3 x v vl vu l u s3.heap.objs.size Q I4 r1 (Heap.IsSliceOf.new ..) pl pu q3;show vk (vK X.prog X.w) X.A (subscriptTail e (.Slice lo hi vS p2) v (.ref s3.heap.objs.size)) (EP X pins σ Q) X.xe {s3 with heap:=s3.heap.push {cls:=.type "slice",data:=.fields #[vl,vu,.none]}}
 exact tail_any (ops:=[.ref s3.heap.objs.size,v]) ht hT hg (by with_unfolding_all rfl)
def Jz(xs:List V)(lo hi:Option Int):List V:=(xs.drop (HT.sIx xs.length 0 lo)).take (HT.sIx xs.length xs.length hi-HT.sIx xs.length 0 lo)
theorem ZBB(xs:List V)(lo hi:Option Int):(Jz xs lo hi).length<=xs.length:=by unfold Jz;rw[qF,jO];lia
def rSlT(K:PySem.W.Frag):V->Option Int->Option Int->Hp->VK->Prop:=λx lo hi H Q=>∃a xs,x=.ref a/\SqT K H a xs/\
 ¬(HT.sIx xs.length 0 lo=0/\HT.sIx xs.length xs.length hi=xs.length)/\∀p,H p=vS->Q (.ref p) (upd H p (.tup (Jz xs lo hi)))
theorem ZGt:SlR X (rSlT X.K):=by
 intro pins s σ H x v vl vu lo hi sl Q I rx hs pl pu h;obtain⟨a,xs,rfl,hx,hw,q⟩:=h;cases rx;obtain⟨its,r,ht,hz⟩:=I.tuple hx;have hlen:its.toArray.size=xs.length:=by rw[zx];exact r.length.symm
 refine⟨"tuple",_,PyProof.Rows.slot_tuple_getitem.lookup,ht.typeIs,?_⟩;refine HT.ZKY ht hs pl pu (by rw[hlen];exact hw) ?_ (by rw[hlen];exact hz);rw[hlen];refine⟨.ref s.heap.objs.size,_,I.laid (t':=s.toks) (o:=.tup (Jz xs lo hi)) (λb ob q=>zQ _ q) (zK _) ?_,rfl,q _ (I.hok.fresh (zK _))⟩;exact⟨z0 (ZBB xs lo hi) hz,_,(r.drop (HT.sIx xs.length 0 lo)).take (HT.sIx xs.length xs.length hi-HT.sIx xs.length 0 lo),IsTup.new _ _⟩
def ZD9(K:PySem.W.Frag):R2:=λx y H Q=>∃a b xs ys,x=.ref a/\y=.ref b/\SqT K H a xs/\SqT K H b ys/\xs≠[]/\xs.length+ys.length<=sizeLine/\
 (ys=[]->Q (.ref a) H)/\(ys≠[]->∀p,H p=vS->Q (.ref p) (upd H p (.tup (xs++ys))))
theorem Vals.V4{us:List xB}(r:Vals xs us):us=[]↔xs=[]:=by
 cases r with
 |nil=>simp
 |cons _ _=>simp
theorem ZJn:OpR X (xI .Add) (ZD9 X.K):=by
 intro pins s σ H x y v u Q I rx ry h;obtain⟨a,b,xs,ys,rfl,rfl,ha,hb,hx,hz,q1,q2⟩:=h;cases rx;cases ry;obtain⟨its,r1,p1,_⟩:=I.tuple ha;obtain⟨its2,r2,p2,_⟩:=I.tuple hb;refine HT.ZGI p1 p2 (λz=>hx (r1.V4.mp z)) (λz=>⟨.ref a,H,I,rfl,q1 (r2.V4.mp z)⟩) (λz=>?_) (by rw[<-r1.length,<-r2.length];exact hz);refine⟨.ref s.heap.objs.size,_,I.laid (t':=s.toks) (o:=.tup (xs++ys)) (λb ob q=>zQ _ q) (zK _) ?_,rfl,q2 (λw=>z (r2.V4.mpr w)) _ (I.hok.fresh (zK _))⟩
 exact⟨by rw[qJ];exact hz,_,r1.append r2,IsTup.new _ _⟩
end
noncomputable def ixN(n:Nat)(i:Int):Option Nat:=if 0<=i then(if i<n then vR i.toNat else vS)else if -(n:Int)<=i then vR (i+n).toNat else vS
def atI{α:Type}(xs:List α)(i:Int):Option α:=(ixN xs.length i).bind λj=>xs[j]?
theorem ZEm{i:Int}{j:Nat}(h:ixN n i=vR j):seqIndex? i n=vR j/\j<n/\ -(n:Int)<=i/\i<n:=by
 unfold ixN at h;by_cases h0:0<=i
 ·rw[if_pos h0]at h;by_cases h1:i<n
  ·rw[if_pos h1]at h;have e:i.toNat=j:=Option.some.inj h;exact⟨by rw[seqIndex_of h0 h1,e],by lia,by lia,h1⟩
  ·rw[if_neg h1]at h;cases h
 ·rw[if_neg h0]at h;by_cases h1: -(n:Int)<=i
  ·rw[if_pos h1]at h;have e:(i+n).toNat=j:=Option.some.inj h;exact⟨by rw[seqIndex_neg (by lia) h1,e],by lia,h1,by lia⟩
  ·rw[if_neg h1]at h;cases h
theorem Rj{α:Type}{xs:List α}{i:Int}{v:α}(h:atI xs i=vR v):∃j,seqIndex? i xs.length=vR j/\xs[j]?=vR v/\j<xs.length/\ -(xs.length:Int)<=i/\i<xs.length:=by
 unfold atI at h;cases e:ixN xs.length i with
 |none=>rw[e]at h;cases h
 |some j=>
  rw[e]at h;obtain⟨h1,h2,h3,h4⟩:=ZEm e;exact⟨j,h1,h,h2,h3,h4⟩
def PlainIx(b:xY):Prop:=∀o i,subscripted b vU o i=operate [o,i] (getItem o i)
def IxR(X:Cx)(r:R2):Prop:=
 ∀(value slice:xY)(pins:List (xW×Obj))(s:xy)(σ:St)(H:Hp)(x y:V)(v u:xB)(Q:VK),Inv X pins σ H s->RelV x v->RelV y u->r x y H Q->
  subscripted slice vU v u=operate [v,u] (getItem v u)->vk (vK X.prog X.w) X.A (subscriptTail value slice v u) (EP X pins σ Q) X.xe s
def MtR(X:Cx)(id:String)(r:V->List V->Hp->VK->Prop):Prop:=
 ∀(pins:List (xW×Obj))(s:xy)(σ:St)(H:Hp)(x:V)(xs:List V)(v:xB)(us:List xB)(Q:VK),Inv X pins σ H s->RelV x v->Vals xs us->r x xs H Q->
  vk (vK X.prog X.w) X.A (call (.builtin id) (v::us)) (EP X pins σ Q) X.xe s
section
variable{X:Cx}{a b:xY}{ta tb:TE}{pos:Pos}
theorem IxR.or{r r':R2}(h:IxR X r)(h':IxR X r'):IxR X (λx y H Q=>r x y H Q∨r' x y H Q):=by
 intro value slice pins s σ H x y v u Q I rx ry q hs;rcases q with q|q
 ·exact h value slice pins s σ H x y v u Q I rx ry q hs
 ·exact h' value slice pins s σ H x y v u Q I rx ry q hs
theorem ZG8{r:R2}(hr:IxR X r)(ha:PE X a ta)(hb:PE X b tb)(hs:PlainIx b):PE X (.Subscript a b pos) (tOp r ta tb):=by intro pins s σ H Q I h;exact Subscript_ (Z3 ha hb I h λv u s2 x y H2 I2 rx ry q=>hr a b pins s2 σ H2 x y v u Q I2 rx ry q (hs _ _))
def rIxL(K:PySem.W.Frag):R2:=λx y H Q=>∃p xs i v,x=.ref p/\y=.int i/\SqL K H p xs/\atI xs i=vR v/\Q v H
def rIxT(K:PySem.W.Frag):R2:=λx y H Q=>∃p xs i v,x=.ref p/\y=.int i/\SqT K H p xs/\atI xs i=vR v/\Q v H
def rIxS:R2:=λx y H Q=>∃z i c,x=.str z/\y=.int i/\z.length<=sizeLine/\atI z.cps.toList i=vR c/\Q (.str ⟨#[c]⟩) H
theorem ZH3:IxR X (rIxL X.K):=by
 intro value slice pins s σ H x y v u Q I rx ry h hs;obtain⟨p,xs,i,z,rfl,rfl,hq,he,q⟩:=h;cases rx;obtain⟨t,rfl⟩:=ry;obtain⟨its,r,pl,hz⟩:=I.list hq;obtain⟨j,h1,h2,h3,h4,h5⟩:=Rj he;obtain⟨w,ew,rw'⟩:=r.get h2;have hl:=r.length;have hn:=line63;have fin:EP X pins σ Q w s:=⟨z,H,I,rw',q⟩;by_cases h0:0<=i
 ·have hj:i.toNat=j:=by rw[seqIndex_of h0 h5]at h1;exact Option.some.inj h1
  exact item_listR pl.isList h0 (by lia) (by rw[hj];simpa using ew) fin hs
 ·have hj:(i+(its.toArray.size:Int)).toNat=j:=by rw[seqIndex_neg (by lia) h4]at h1;rw[zx,<-hl];exact Option.some.inj h1
  exact subscriptTail_builtinR (x:=w) pl.isList.typeIs slot_list_getitem.lookup
   (wpAny_getItem_list_neg (Q:=λr s'=>r=w/\EP X pins σ Q r s') pl.isList (by lia) (by rw[zx]<;>lia) (by lia) (by rw[hj];simpa using ew) ⟨rfl,fin⟩) hs
theorem ZI4:IxR X (rIxT X.K):=by
 intro value slice pins s σ H x y v u Q I rx ry h hs;obtain⟨p,xs,i,z,rfl,rfl,hq,he,q⟩:=h;cases rx;obtain⟨t,rfl⟩:=ry;obtain⟨its,r,pl,hz⟩:=I.tuple hq;obtain⟨j,h1,h2,h3,h4,h5⟩:=Rj he;obtain⟨w,ew,rw'⟩:=r.get h2;have hl:=r.length;have hn:=line63;have fin:EP X pins σ Q w s:=⟨z,H,I,rw',q⟩;exact subscriptTail_builtinR (x:=w) pl.typeIs slot_tuple_getitem.lookup
  (getItem_tuple (j:=j) (Q:=λr s'=>r=w/\EP X pins σ Q r s') pl (by lia) (by lia) (by rw[zx,<-hl];exact h1) (by simpa using ew) ⟨rfl,fin⟩) hs
theorem ZFu:IxR X rIxS:=by
 intro value slice pins s σ H x y v u Q I rx ry h hs;obtain⟨z,i,c,rfl,rfl,hz,he,q⟩:=h;obtain⟨t,rfl⟩:=rx;obtain⟨t',rfl⟩:=ry;obtain⟨j,h1,h2,h3,h4,h5⟩:=Rj he;have hl:z.cps.toList.length=z.length:=by simp[Str.length]
 rw[hl]at h1 h4 h5;have hn:=line63;exact tail_any (typeIs_str s z t) slot_str_getitem.lookup (getItem_str (c:=c) (by have e1:decide (i < -(2^63:Int))=vU:=decide_eq_false (by lia);have e2:decide (i ≥ 2^63)=vU:=decide_eq_false (by lia);rw[e1,e2,Bool.or_false]) (by rw[h1];simpa using h2) ⟨.str ⟨#[c]⟩,H,I.tok _,⟨_,rfl⟩,q⟩) hs
def rIx(K:PySem.W.Frag):R2:=λx y H Q=>rIxL K x y H Q∨rIxT K x y H Q∨rIxS x y H Q
theorem ZHV:IxR X (rIx X.K):=ZH3.or (ZI4.or ZFu)
theorem ZJO(its:List xB)(n j:Nat)(u:xB):Obj.mapSeq (·.setIfInBounds j u) {cls:=.type "list",data:=.seq its.toArray n}={cls:=.type "list",data:=.seq (its.set j u).toArray n}:=by simp[Obj.mapSeq]
theorem Inv.lst{p:xW}(I:Inv X pins σ H s)(h:H p=vR (.lst xs)):
  ∃(its:List xB)(n:Nat),Vals xs its/\s.heap.get? p=vR {cls:=.type "list",data:=.seq its.toArray n}/\xs.length<=sizeLine:=by
 obtain⟨z,its,n,r,e⟩:=I.hok p _ h;exact⟨its,n,r,e,z⟩
theorem Inv.ZHZ{p:xW}{ys:List V}{its':List xB}{n':Nat}{f:Obj->Obj}(I:Inv X pins σ H s)(h:H p=vR (.lst xs))
  (ho:s.heap.get? p=vR {cls:=.type "list",data:=.seq its.toArray n}) (hf:f {cls:=.type "list",data:=.seq its.toArray n}={cls:=.type "list",data:=.seq its'.toArray n'}) (r:Vals ys its') (hz:ys.length<=sizeLine) (t:Nat):
  Inv X pins σ (upd H p (.lst ys)) {s with heap:=s.heap.update p f,toks:=t}:=by
 have e:(s.heap.update p f).get? p=vR {cls:=.type "list",data:=.seq its'.toArray n'}:=by rw[qV f ho (by rw[hf]<;>rfl),hf]
 refine I.write (x:=p) (e:=p) (by rw[h];trivial) (.inl rfl) (λb u hb q=>(qK _ _ (Ne.symm hb)).trans q) ⟨_,e⟩ ?_;exact⟨hz,its',n',r,e⟩
def ZIz:V->V->V->Hp->(Hp->Prop)->Prop:=λo i v H Q=>∃p xs k j,o=.ref p/\i=.int k/\H p=vR (.lst xs)/\ixN xs.length k=vR j/\Q (upd H p (.lst (xs.set j v)))
theorem set_list:PSet X ZIz:=by
 intro pins s σ H o i v ov iv u Q I ro ri rv h;obtain⟨p,xs,k,j,rfl,rfl,hp,hj,q⟩:=h;cases ro;obtain⟨t,rfl⟩:=ri;obtain⟨its,n,r,ho,hz⟩:=I.lst hp;obtain⟨h1,h2,h3,h4⟩:=ZEm hj;have hl:=r.length;have hn:=line63
 have I':Inv X pins σ (upd H p (.lst (xs.set j v))) {s with heap:=s.heap.update p (Obj.mapSeq (·.setIfInBounds j u))}:=
  I.ZHZ hp ho (ZJO its n j u) (r.set rv j) (by rw[qD];exact hz) s.toks
 by_cases h0:0<=k
 ·have hk:k.toNat=j:=by rw[seqIndex_of h0 h4]at h1;exact Option.some.inj h1
  exact PySem.W.ki_setAt ho h0 (by lia) (by rw[zx,<-hl];exact h4) (by rw[hk];exact⟨_,I',q⟩)
 ·have hk:(k+(its.toArray.size:Int)).toNat=j:=by rw[seqIndex_neg (by lia) h3]at h1;rw[zx,<-hl];exact Option.some.inj h1
  exact PySem.W.ki_setBack ho (by lia) (by rw[zx,<-hl];exact h3) (by lia) (by rw[hk];exact⟨_,I',q⟩)
theorem ZLy(lo hi:Option Int)(n:Nat):(vz lo hi vS n).1=((HT.sIx n 0 lo:Nat):Int)/\(vz lo hi vS n).2.1=((HT.sIx n n hi:Nat):Int)/\(vz lo hi vS n).2.2=1:=by
 refine⟨?_,?_,rfl⟩
 ·cases lo with
  |none=>simp[vz,HT.sIx]
  |some i=>
   simp only[vz,HT.sIx,Option.getD_none,show(1:Int)>0 by decide,if_true];by_cases h:i<0
   ·simp only[h,if_true]<;>lia
   ·simp only[h,if_false]<;>lia
 ·cases hi with
  |none=>simp[vz,HT.sIx]
  |some i=>
   simp only[vz,HT.sIx,Option.getD_none,show(1:Int)>0 by decide,if_true];by_cases h:i<0
   ·simp only[h,if_true]<;>lia
   ·simp only[h,if_false]<;>lia
theorem ZGA(its:List xB)(lo hi:Option Int):slicePick its.toArray lo hi vS=((its.drop (HT.sIx its.length 0 lo)).take (HT.sIx its.length its.length hi-HT.sIx its.length 0 lo)).toArray:=by
 obtain⟨h1,h2,h3⟩:=ZLy lo hi its.toArray.size;unfold slicePick;rw[h1,h2,h3]
 simp only[sliceRange_one,pick_run,zx]<;>rfl
def rSlL(K:PySem.W.Frag):V->Option Int->Option Int->Hp->VK->Prop:=λx lo hi H Q=>∃a xs,x=.ref a/\SqL K H a xs/\∀p,H p=vS->Q (.ref p) (upd H p (.lst (Jz xs lo hi)))
theorem ZKv:SlR X (rSlL X.K):=by
 intro pins s σ H x v vl vu lo hi sl Q I rx hs pl pu h;obtain⟨a,xs,rfl,hx,q⟩:=h;cases rx;obtain⟨its,r,ht,hz⟩:=I.list hx;have hlen:=r.length;refine⟨"list",_,slot_list_getitem.lookup,ht.isList.typeIs,?_⟩
 refine wpAny_getItem_list_slice ht.isList hs pl pu .none (by simp) ?_ (by rw[zx]<;>lia)
 rw[ZGA,<-hlen];refine⟨.ref s.heap.objs.size,_,I.laid (t':=s.toks) (o:=.lst (Jz xs lo hi)) (λb ob q=>zQ _ q) (zK _) ?_,rfl,q _ (I.hok.fresh (zK _))⟩;exact⟨z0 (ZBB xs lo hi) hz,_,0,(r.drop (HT.sIx xs.length 0 lo)).take (HT.sIx xs.length xs.length hi-HT.sIx xs.length 0 lo),zj _ rfl⟩
noncomputable def De:V->Bool
 |.non=>vT
 |.bl _=>vT
 |.int _=>vT
 |.str _=>vT
 |_=>vU
noncomputable def eqV:V->V->Bool
 |.non,.non=>vT
 |.bl a,.bl b=>a==b
 |.bl a,.int b=>(if a then 1 else 0)==b
 |.int a,.bl b=>a==(if b then 1 else 0)
 |.int a,.int b=>a==b
 |.str a,.str b=>a==b
 |_,_=>vU
theorem ZCY{A:xK}{y x:V}{u v:xB}(ry:RelV y u)(rx:RelV x v)(fy:De y=vT)(fx:De x=vT):SeqAt.EqAt A s u v (eqV y x):=by
 cases y with
 |non=>
  cases ry;cases x with
  |non=>cases rx;exact SeqAt.EqAt.same _
  |bl b=>cases rx;exact SeqAt.EqAt.none_bool b
  |int b=>obtain⟨t,rfl⟩:=rx;exact SeqAt.EqAt.none_int b t
  |str b=>obtain⟨t,rfl⟩:=rx;exact SeqAt.EqAt.none_str b t
  |_=>exact absurd (show vU=vT from fx) zy
 |bl a=>
  cases ry;cases x with
  |non=>cases rx;exact SeqAt.EqAt.bool_none a
  |bl b=>cases rx;exact SeqAt.EqAt.bool_bool a b
  |int b=>obtain⟨t,rfl⟩:=rx;exact SeqAt.EqAt.bool_int a b t
  |str b=>obtain⟨t,rfl⟩:=rx;exact SeqAt.EqAt.bool_str a b t
  |_=>exact absurd (show vU=vT from fx) zy
 |int a=>
  obtain⟨t',rfl⟩:=ry;cases x with
  |non=>cases rx;exact SeqAt.EqAt.int_none a t'
  |bl b=>cases rx;exact SeqAt.EqAt.int_bool a t' b
  |int b=>obtain⟨t,rfl⟩:=rx;exact SeqAt.EqAt.int_int a t' b t
  |str b=>obtain⟨t,rfl⟩:=rx;exact SeqAt.EqAt.int_str a t' b t
  |_=>exact absurd (show vU=vT from fx) zy
 |str a=>
  obtain⟨t',rfl⟩:=ry;cases x with
  |non=>cases rx;exact SeqAt.EqAt.str_none a t'
  |bl b=>cases rx;exact SeqAt.EqAt.str_bool a t' b
  |int b=>obtain⟨t,rfl⟩:=rx;exact SeqAt.EqAt.str_int a t' b t
  |str b=>obtain⟨t,rfl⟩:=rx;exact SeqAt.EqAt.str_str a t' b t
  |_=>exact absurd (show vU=vT from fx) zy
 |_=>exact absurd (show vU=vT from fy) zy
def eqU(x:V)(u:xB):Bool:=match u with
 |.none=>eqV .non x
 |.bool b=>eqV (.bl b) x
 |.int i _=>eqV (.int i) x
 |.str z _=>eqV (.str z) x
 |_=>vU
theorem ZCw{x y:V}{u:xB}(r:RelV y u)(f:De y=vT):eqU x u=eqV y x:=by
 cases y with
 |non=>cases r;rfl
 |bl b=>cases r;rfl
 |int i=>obtain⟨t,rfl⟩:=r;rfl
 |str z=>obtain⟨t,rfl⟩:=r;rfl
 |_=>exact absurd (show vU=vT from f) zy
theorem Vs{x:V}:∀{xs:List V}{us:List xB},Vals xs us->xs.all De=vT->us.any (eqU x)=xs.any λy=>eqV y x
 |_,_,.nil,_=>rfl
 |y::xs,u::us,.cons r t,f=>by rw[qU,zB]at f;rw[List.any_cons,List.any_cons,ZCw r f.1,Vs t f.2]
theorem Yb{A:xK}{x:V}{v:xB}(rx:RelV x v)(fx:De x=vT):∀{xs:List V}{us:List xB},Vals xs us->xs.all De=vT->∀u∈us,SeqAt.EqAt A s u v (eqU x u)
 |_,_,.nil,_=>λu hu=>by cases hu
 |y::xs,u::us,.cons r t,f=>λu' hu=>by
  rw[qU,zB]at f;rcases zq.mp hu with rfl|hu
  ·rw[ZCw r f.1];exact ZCY r rx f.1 fx
  ·exact Yb rx fx t f.2 u' hu
def inV(x:V)(xs:List V):Bool:=xs.any λy=>eqV y x
def rIn(K:PySem.W.Frag)(neg:Bool):R2:=λx y H Q=>∃p xs,y=.ref p/\(SqL K H p xs∨SqT K H p xs)/\De x=vT/\xs.all De=vT/\Q (.bl (if neg then !inV x xs else inV x xs)) H
theorem ZJG:OpR X (xP .NotIn) (rIn X.K vT):=by
 intro pins s σ H x y v u Q I rx ry h;obtain⟨p,xs,rfl,hq,fx,fs,q⟩:=h;cases ry;rcases hq with hq|hq
 ·obtain⟨its,r,pl,hz⟩:=I.list hq;refine SeqAt.notIn_listAt (eqU x) pl.isList (λw hw=>Yb rx fx r fs w (by simpa using hw)) ⟨.bl _,H,I,rfl,?_⟩;rw[show its.toArray.any (eqU x)=its.any (eqU x) by simp,Vs r fs];exact q
 ·obtain⟨its,r,pl,hz⟩:=I.tuple hq;refine SeqAt.notIn_tupleAt (eqU x) pl (λw hw=>Yb rx fx r fs w (by simpa using hw)) ⟨.bl _,H,I,rfl,?_⟩;rw[show its.toArray.any (eqU x)=its.any (eqU x) by simp,Vs r fs];exact q
theorem ZFw:CallR X (.builtin "len") (λxs H Q=>∃p ys,xs=[.ref p]/\(SqL X.K H p ys∨SqT X.K H p ys)/\Q (.int ys.length) H):=by
 intro pins s σ H xs us Q I r h;obtain⟨p,ys,rfl,hq,q⟩:=h;obtain⟨u,rfl,rx⟩:=vals1 r;cases rx;have hn:=line63;rcases hq with hq|hq
 ·obtain⟨its,r',pl,hz⟩:=I.list hq;have hlen:=r'.length
  exact Calls.call_len_list pl.isList (by simp only[zx]<;>lia) ⟨.int ys.length,H,I.tok _,⟨s.toks+1,by rw[zx,hlen]⟩,q⟩
 ·obtain⟨its,r',pl,hz⟩:=I.tuple hq;have hlen:=r'.length
  exact len_tuple pl (by simp only[zx]<;>lia) ⟨.int ys.length,H,I.tok _,⟨s.toks+1,by rw[zx,hlen]⟩,q⟩
theorem ZLh:CallR X (.builtin "len") (λxs H Q=>∃z,xs=[.str z]/\z.length<=sizeLine/\Q (.int z.length) H):=by intro pins s σ H xs us Q I r h;obtain⟨z,rfl,hz,q⟩:=h;obtain⟨u,rfl,t,rfl⟩:=vals1 r;have hn:=line63;exact len_str (by lia) ⟨.int z.length,H,I.tok _,⟨_,rfl⟩,q⟩
theorem CallR.or{f:xB}{r r':List V->Hp->VK->Prop}(h:CallR X f r)(h':CallR X f r'):CallR X f (λxs H Q=>r xs H Q∨r' xs H Q):=by
 intro pins s σ H xs us Q I rs q;rcases q with q|q
 ·exact h pins s σ H xs us Q I rs q
 ·exact h' pins s σ H xs us Q I rs q
theorem ZIj:CallR X (.type "list") (λxs H Q=>∃p ys,xs=[.ref p]/\(SqL X.K H p ys∨SqT X.K H p ys)/\∀l,H l=vS->Q (.ref l) (upd H l (.lst ys))):=by
 intro pins s σ H xs us Q I r h;obtain⟨p,ys,rfl,hq,q⟩:=h;obtain⟨u,rfl,rx⟩:=vals1 r;cases rx;have fin:∀(its:List xB),Vals ys its->ys.length<=sizeLine->∀(h':Heap)(c':Nat),(∀b o',s.heap.get? b=vR o'->h'.get? b=vR o')->
   h'.get? s.heap.objs.size=vR {cls:=.type "list",dict:=vS,data:=.seq its.toArray c',slots:= #[]}->EP X pins σ Q (.ref s.heap.objs.size) {s with heap:=h'}:=λits r' hz h' c' kp e=>
  ⟨.ref s.heap.objs.size,_,I.laid (t':=s.toks) kp (zK _) (show ObjOk X.prog X.w _ h' _ (.lst ys)from⟨hz,its,c',r',e⟩),rfl,q _ (I.hok.fresh (zK _))⟩
 rcases hq with hq|hq
 ·obtain⟨its,r',pl,hz⟩:=I.list hq;have hlen:=r'.length;obtain⟨o,ho,hc,n,hd⟩:=pl.isList
  exact call_list_seq p (.inl rfl) ho hc hd (λh' c' kp e=>fin its r' hz h' c' kp e) (by simp only[zx]<;>lia)
 ·obtain⟨its,r',pl,hz⟩:=I.tuple hq;have hlen:=r'.length;obtain⟨o,ho,hc,n,hd⟩:=pl
  exact call_list_seq p (.inr rfl) ho hc hd (λh' c' kp e=>fin its r' hz h' c' kp e) (by simp only[zx]<;>lia)
def tyV(K:PySem.W.Frag)(T:String)(x:V)(H:Hp):Prop:=match x with
 |.str _=>T="str"
 |.int _=>T="int"
 | .ref p=>(T="list"/\∃xs,SqL K H p xs)∨(T="tuple"/\∃o,K.lookup p=vR o/\o.cls=.type "tuple"/\o.dict=vS)∨
   (T="dict"/\((∃kvs,H p=vR (.dK kvs))∨∃kvs,H p=vR (.dT kvs)))∨(T="set"/\∃S n,H p=vR (.set S n))
 |_=>False
theorem ZIK{T:String}{x:V}{v:xB}(I:Inv X pins σ H s)(r:RelV x v)(ty:tyV X.K T x H):
  s.TypeIs v T/\∀a,v=.ref a->∃ob,s.heap.get? a=vR ob/\ob.dict=vS:=by
 cases x with
 |str z=>
  obtain⟨t,rfl⟩:=r
  cases(show T="str" from ty)
  exact⟨typeIs_str s z t,λ_ e=>nomatch e⟩
 |int i=>
  obtain⟨t,rfl⟩:=r
  cases(show T="int" from ty)
  exact⟨typeIs_int s i t,λ_ e=>nomatch e⟩
 | ref p=>
  cases r;rcases ty with⟨rfl,xs,hq⟩|⟨rfl,o,hk,hc,hd⟩|⟨rfl,hk⟩|⟨rfl,S,n,hk⟩
  ·obtain⟨its,_,pl,_⟩:=I.list hq;refine⟨pl.isList.typeIs,λa e=>?_⟩;cases e;obtain⟨o,n,e,c,hd,_⟩:=pl;exact⟨o,e,hd⟩
  ·refine⟨⟨o,I.kIn p o hk,hc⟩,λa e=>?_⟩;cases e;exact⟨o,I.kIn _ o hk,hd⟩
  ·have z:∃o,s.heap.get? p=vR o/\o.ExactDict:=by
    rcases hk with⟨kvs,hk⟩|⟨kvs,hk⟩
    ·obtain⟨_,_,_,_,o,_,_,e,ex,_⟩:=I.hok p _ hk;exact⟨o,e,ex⟩
    ·obtain⟨_,_,_,_,o,_,_,e,ex,_⟩:=I.hok p _ hk;exact⟨o,e,ex⟩
   obtain⟨o,e,ex⟩:=z;refine⟨⟨o,e,ex.1⟩,λa e2=>?_⟩;cases e2;exact⟨o,e,ex.2.1⟩
  ·obtain⟨o,_,_,_,e,ex,_⟩:=I.hok p _ hk;refine⟨⟨o,e,ex.1⟩,λa e2=>?_⟩;cases e2;exact⟨o,e,ex.2.1⟩
 |_=>exact False.elim ty
noncomputable def tBM(K:PySem.W.Frag)(T:String)(r:V->List V->Hp->VK->Prop)(to:TE)(t:TA):TE:=λσ H Q=>to σ H λx H1=>tyV K T x H1/\t σ H1 λxs H2=>r x xs H2 Q
variable{o e:xY}{es:List xY}{to:TE}{t:TA}{name:Str}{apos cpos:Pos}{T id:String}{r:V->List V->Hp->VK->Prop}
theorem ZJM(pa:PlainAttrs T)(slot:Slot T name id)(hty:typeOf (.builtin id)=pure (.type "method_descriptor"))(hm:MtR X id r)(ho:PE X o to)(ha:PA X (e::es) t)
  (hbase:xE o name X.env (eval o X.env)=eval o X.env:=by rfl)
  (hfew:((xF cpos (vj (e::es) X.env)).all (λx=> !x.1)&&(xG cpos (vX [] X.env)).all (λx=>x.1.isSome)
   && decide ((e::es).length+([]:List Keyword).length+(if([]:List Keyword).isEmpty then 0 else 1)<30))=vT:=by rfl)
  (hline:(apos.endLine==cpos.line)=vT:=by rfl) (hs:vj (e::es) X.env=(vU,eval e X.env)::vj es X.env:=by rfl) (hplain:(xF cpos (vj es X.env)).any (·.1)=vU:=by rfl):
  PE X (.Call (.Attribute o name apos) (e::es) [] cpos) (tBM X.K T r to t):=by
 intro pins s σ H Q I h;refine wpAny_Call_method_late hbase hfew hline rfl (thn (ho pins s σ H _ I h) λv s1 ⟨x,H1,I1,r1,ty,q1⟩=>?_);obtain⟨h1,h2⟩:=ZIK I1 r1 ty;refine⟨T,id,pa,slot,hty,h1,h2,?_⟩;have hA:=ha cpos pins s1 σ H1 _ I1 q1;rw[hs]at hA⊢
 refine Calls.callWith_builtin (by show(vU||(xF cpos (vj es X.env)).any (·.1))=vU;rw[hplain]<;>rfl) (Calls.evalArgs_plain ?_)
 exact thn hA λus s2 ⟨vs,H2,I2,r2,q2⟩=>hm pins s2 σ H2 x vs v us Q I2 r1 r2 q2
end
def MtM(X:Cx)(id:String)(r:V->List V->Hp->VK->Prop):Prop:=
 ∀(pins:List (xW×Obj))(s:xy)(σ:St)(H:Hp)(x:V)(xs:List V)(v:xB)(us:List xB)(Q:VK),Inv X pins σ H s->RelV x v->Vals xs us->r x xs H Q->
  vk (vK X.prog X.w) X.A (call (.builtin id) (v::us)) (EP X pins σ Q) X.xe s
theorem Vals.one:∀{x:V}{us:List xB},Vals [x] us->∃u,us=[u]/\RelV x u
 |_,_,.cons r .nil=>⟨_,rfl,r⟩
section
variable{X:Cx}{pins:List (xW×Obj)}{σ:St}{H:Hp}{s:xy}{l b:xW}{xs ys zs:List V}
theorem Inv.lset{its':List xB}{f:Array xB->Array xB}{t':Nat}(I:Inv X pins σ H s)(hH:H l=vR (.lst xs))
  (e:s.heap.get? l=vR {cls:=.type "list",data:=.seq its.toArray n}) (hf:f its.toArray=its'.toArray) (hv:Vals ys its') (hz:ys.length<=sizeLine):
  Inv X pins σ (upd H l (.lst ys)) {s with heap:=s.heap.update l (Obj.mapSeq f),toks:=t'}:=by
 have q:=PySem.IsL.update e f;rw[hf]at q;refine I.write (x:=l) (e:=l) (by rw[hH];exact trivial) (.inl rfl) (λb' u hb hu=>(qK s.heap (Obj.mapSeq f) (Ne.symm hb)).trans hu) ⟨_,q⟩ ?_;exact⟨hz,its',_,hv,q⟩
theorem Inv.lnew{t':Nat}(I:Inv X pins σ H s)(hv:Vals ys its)(hz:ys.length<=sizeLine):
  Inv X pins σ (upd H s.heap.objs.size (.lst ys)) {s with heap:=s.heap.push {cls:=.type "list",data:=.seq its.toArray},toks:=t'}:=
 I.laid (λ_ _ q=>zQ _ q) (zK _) ⟨hz,its,0,hv,zj _ rfl⟩
theorem Inv.fresh(I:Inv X pins σ H s):H s.heap.objs.size=vS:=I.hok.fresh (zK _)
theorem Inv.lstM(I:Inv X pins σ H s)(hH:H l=vR (.lst xs)):xs.length<=sizeLine/\∃(its:List xB)(n:Nat),Vals xs its/\xs.length=its.length/\s.heap.get? l=vR {cls:=.type "list",data:=.seq its.toArray n}:=by obtain⟨z,its,n,r,e⟩:=I.hok l _ hH;exact⟨z,its,n,r,r.length,e⟩
end
section
variable{X:Cx}
def ZKy:V->List V->Hp->VK->Prop:=λx vs H Q=>∃l xs y,x=.ref l/\vs=[y]/\H l=vR (.lst xs)/\xs.length<sizeLine/\Q .non (upd H l (.lst (xs++[y])))
theorem ZId:MtM X "list.append" ZKy:=by
 intro pins s σ H x vs v us Q I rx rv h;obtain⟨l,xs,y,rfl,rfl,hH,hz,q⟩:=h;cases rx;obtain⟨u,rfl,ru⟩:=rv.one;obtain⟨z,its,n,r,hl,e⟩:=I.lstM hH;refine call_meets F.slot_list_append ⟨_,e,rfl⟩ F.entry_list_append (F.args_list_append_2 _ _) (PySem.list_append l its.toArray n u (by rw[zx];lia)) ⟨e,?_⟩;refine⟨.non,_,I.lset (its':=its++[u]) hH e (by simp) (r.append (.cons ru .nil)) ?_,rfl,q⟩
 rw[qJ,jw];lia
end
section
variable{prog:xj}{w:xC}{A:xK}{E:xB->xy->Prop}{s:xy}
end
section
variable{X:Cx}
end
end _L
namespace Att
open PySem PySem.W PySem.Calls PyProof.Rows
variable{h:Heap}
theorem ZJT{P:Params}:∀(ns:List Int)(vs:List xB),WellAll P h vs (ns.map WData.int)->IntsAre vs ns:=by
 intro ns
 induction ns with
 |nil=>
  intro vs w;rw[jW]at w;cases w;exact .nil
 | cons n ns ih=>
  intro vs w;rw[zA]at w;cases w with
  |cons a b=>
   cases a;exact .cons _ _ (ih _ b)
theorem ZLd{l:OpenLaw}{n:Nat}(hn:l.most=vR n){P:Params}{args:List WData}{vals:List xB}
  (hpre:l.row.toRowW.claim.pre args=vT) (hwl:WellAll P h vals args):
  ∃a vs ns,vals=[Value.ref a]/\args=[WData.list (ns.map WData.int)]/\h.get? a=vR {cls:=.type "list",data:=.seq vs.toArray}/\IntsAre vs ns/\ns.length<=n:=by
 have hsh:WShape.hasAll [] args [.list .int]=vT:=(pre_splitW hpre).1;have hc:l.pre.holds [] {args:=args}=vT:=(pre_splitW hpre).2;obtain⟨d,r,rfl,h1,h2⟩:=hasAllW_cons hsh;obtain rfl:=hasAllW_nil h2;obtain⟨xs,rfl,h3⟩:=hasW_list h1;obtain⟨ns,rfl⟩:=items_int h3;have hlen:ns.length<=n:=by
  unfold OpenLaw.pre at hc;have h4:(WTm.not (.lt (.lit (.int (n:Int))) (.len (.arg 0)))).holds [] {args:=[.list (ns.map .int)]}=vT:=by have h4:=(holds_andW hc).1;rw[hn]at h4;exact h4
  have h5:=condW_of h4 (w_not (w_lt w_lit (w_len_list (w_arg rfl))));rw[zO]at h5;refine Nat.le_of_not_lt λq=>?_
  have q':(n:Int)<((ns.length:Nat):Int):=by lia
  first
   |(rw[decide_eq_true q']at h5;exact absurd h5 (by decide))
   |(simp at h5;lia)
 cases hwl with
 |cons w1 w2=>
  cases w2;cases w1 with
  |list ho hall=>exact⟨_,_,ns,rfl,rfl,ho,ZJT ns _ hall,hlen⟩
theorem ZG9(l:OpenLaw)(args:List WData):l.row.toRowW.claim.post args (.bool vT) args=vT:=
 postW_of (r:=l.row.toRowW) (X:=(vT==vT))
  (show WShape.has [] (.bool vT) .bool=vT by first|rfl|decide|simp[WShape.has,WShape.arms,WShape.armsAll])
  (show(WTm.eq .res (.lit (.bool vT))).value [] {args:=args,res:=vR (.bool vT),after:=args}=vR (.bool (vT==vT))from w_eq_bool (w_res rfl) w_lit) rfl
theorem ZLj{l:OpenLaw}{n:Nat}{q:xj}{loose:List Str}{XP:(Str->Option xB)->Heap->Prop}{YP:xC->Heap->Prop}{d:DefRec}
  (hn:l.most=vR n) (hdf:d.params.defaults=[])
  (call:∀(w:xC)(s₀ s₁:xy)(mg mb:Str->Option xB)(fa:xW)(o:Obj)(pm cd doc:xB)(a:xW)(vs:List xB)(ns:List Int),
   Ground q loose [] XP w s₀ mg mb s₁.heap->YP w s₁.heap->
   s₁.heap.get? fa=vR o->o.data=.func (docDef d.name d.params d.body d.scope pm cd doc)->s₁.heap.CodeRec cd d.name->mg d.name=vR (.ref fa)->
   s₁.heap.get? a=vR {cls:=.type "list",data:=.seq vs.toArray}->IntsAre vs ns->ns.length<=n->s₁.gens= #[]->
   codeAny (vK l.prog w) callerA (.call (.ref fa) ⟨[.ref a],[]⟩) (λr s'=>r=.ok (.ret (.bool vT))/\OldK s₁.heap s'.heap/\s'.os=s₁.os/\AllBare s'.gens) s₁):
  WalkO q loose XP YP l.row.toRowW d [] (λf vs=>PySem.call f vs):=by
 intro w s₀ s₁ mg mb G Y fa o pm cd doc dV kV ho hd hcd hD hmg hg args vals as hpre hlay hrd hwl hlo;obtain rfl:dV=.none:=Dflts.none hD hdf;obtain rfl:kV=.none:=Dflts.noKw hD;obtain⟨a,vs,ns,rfl,rfl,hobj,hints,hlen⟩:=ZLd hn hpre hwl;refine enter_call (xO (call w s₀ s₁ mg mb fa o pm cd doc a vs ns G Y ho (fd_plain hd) hcd hmg hobj hints hlen hg) λr s' hq=>?_);obtain⟨rfl,h2,h3,h4⟩:=hq
 exact⟨.inl ⟨.bool vT,.bool vT,[],rfl,λ_=>rfl,.bool vT,ZG9 l _,λ_=>⟨List.Pairwise.nil,λ_ hm=>(nomatch hm)⟩⟩,h2,h3,h4⟩
section
variable{prog:xj}{w:xC}{A:xK}{E:xB->xy->Prop}{s:xy}{K:vO}
noncomputable def Js(h:Heap):Heap:={h with objs:= #[]}
theorem M3(h:Heap)(b:xW):(Js h).get? b=vS:=by
 cases e:(Js h).get? b with
 |none=>rfl
 |some o=>exact absurd (zW e) (jU _)
noncomputable def ledger(h:Heap)(L d:xW):List (xW×Obj):=(zJ h.objs.size).filterMap λa=>if a=L∨a=d then vS else(h.get? a).map λo=>(a,o)
theorem Gf{L d a:xW}{o:Obj}:(a,o)∈ledger h L d↔a≠L/\a≠d/\h.get? a=vR o:=by
 unfold ledger;rw[jY];constructor
 ·rintro⟨b,_,e⟩;split at e
  ·cases e
  ·rename_i hb;obtain⟨o',ho,e'⟩:=zM.mp e;cases e';exact⟨λq=>hb (.inl q),λq=>hb (.inr q),ho⟩
 ·rintro⟨n1,n2,ho⟩;refine⟨a,qX.mpr (zW ho),?_⟩
  rw[if_neg (show¬(a=L∨a=d)from λq=>q.elim n1 n2),ho]<;>rfl
theorem ZLO{L:xW}{m:Str->Option xB}(n:h.Ns L m):Fr (Js h) L h m:=
 ⟨n,λb o e=>(by rw[M3]at e;cases e),qR _⟩
end
end Att
namespace _L
open PySem PySem.Spec PyProof.Rows
variable{x:Str}
theorem R5:∀{vs:List xB}{ns:List Int},IntsAre vs ns->Vals (ns.map V.int) vs
 |_,_,.nil=>.nil
 |_,_,.cons n t h=>.cons ⟨t,rfl⟩ (R5 h)
noncomputable def Ht(s:xA):Arguments:=match s with
 |.FunctionDef _ a _ _ _ _ _ _ _ _=>a
 |_=>{posonlyargs:=[],args:=[],vararg:=vS,kwonlyargs:=[],kw_defaults:=[],kwarg:=vS,defaults:=[]}
noncomputable def Dv(s:xA):List xA:=match s with
 |.FunctionDef _ _ b _ _ _ _ _ _ _=>b
 |_=>[]
noncomputable def Ao(s:xA):xk:=match s with
 |.FunctionDef _ _ _ _ _ _ sc _ _ _=>sc
 |_=>{kind:=.function,names:=[],isGenerator:=vU,isCoroutine:=vU}
noncomputable abbrev CX0:CXT:=λ_ _ _ _ _ _=>False
noncomputable abbrev E0:XK:=λ_ _ _=>False
theorem pass0{X:Cx}:Passes CX0 X E0:=λ_ _ _ _ _ _ _ h=>h.elim
structure Fun (K:PySem.W.Frag) (x qual:Str) (st:xA) (f:xW) (fd:xq):Prop where
 ex:∃(oc:xB)(od:Option xW)(kV doc pm:xB)(an:Option xW)(cdv ct:xB)(osl:Array (Option xB)),
  fd=PySem.W.fnOf x qual (Ht st) (Dv st) (Ao st) .none kV doc pm an cdv ct/\K.lookup f=vR ⟨oc,od,.func fd,osl⟩/\PySem.W.codeIn K cdv qual=vT
 kp:PySem.W.keepIn K (.ref f)=vT
section
variable{P:xj}{w:xC}{K:PySem.W.Frag}{mg:Str->Option xB}{base:Heap}
theorem Fun.ok{qual:Str}{st:xA}{f:xW}{fd:xq}{N ps:List Str}{k:Nat}{sp:Sp}(F:Fun K x qual st f fd)(S:FnScope N ps (Ao st))(len:∀vs H Q E,sp vs H Q E->vs.length=ps.length)
  (hbody:∀(cdv:xB)(A:xK)(outer:List Env)(s:xy)(H:Hp)(vs:List V)(Q:VK)(E:XK),Room k (A.deeper (envOfC qual (Ao st) s.heap.objs.size f cdv))->sp vs H Q E->
   ∃t,PSs (Dy CX0 P w K mg base N qual (Ao st) f cdv A outer s H E).nox (Dv st) t/\t {nx:=λ_ H'=>Q .non H',rt:=Q} (start N vs) H):FnOk P w K mg base CX0 (k+1) f fd ps sp:=by
 obtain⟨oc,od,kV,doc,pm,an,cdv,ct,osl,rfl,lk,hcd⟩:=F.ex;refine Zu lk hcd S len λA outer s H vs Q E hr hsp=>?_
 obtain⟨t,h,q⟩:=hbody cdv A outer s H vs Q E hr hsp;exact⟨t,h.nox,q⟩
theorem Fun.binds{qual:Str}{st:xA}{f:xW}{fd:xq}{ps:List Str}(F:Fun K x qual st f fd)
  (h:∀(kV doc pm:xB)(an:Option xW)(cdv ct:xB)(us:List xB),us.length=ps.length->bindArgs (PySem.W.fnOf x qual (Ht st) (Dv st) (Ao st) .none kV doc pm an cdv ct) ⟨us,[]⟩=pure (ps.zip us)):Binds K fd ps []:=by
 obtain⟨oc,od,kV,doc,pm,an,cdv,ct,osl,rfl,lk,hcd⟩:=F.ex;exact .all (h kV doc pm an cdv ct)
end
section
variable{X:Cx}
theorem pv(i:Nat){pos:Pos}(hN:X.N[i]?=vR x:=by rfl)(hv:Vis X.env.scope x:=by first|exact Or.inl rfl|exact Or.inr (Or.inl rfl)|exact Or.inr (Or.inr rfl))(hd:(x==("__debug__":Str))=vU:=by decide)
  (hcd:(x==("__classdict__":Str))=vU:=by decide):PE X (.Name x pos) (Lk i):=Oh hN hv hd hcd
end
section
variable{κ:Type}[DecidableEq κ]
end
section
variable{P:xj}{w:xC}{H:Hp}{h:Heap}{a:xW}
end
section
variable{X:Cx}{pins:List (xW×Obj)}{σ:St}{H:Hp}{s:xy}{a:xW}{y v:V}{u r:xB}{o:Option V}{A:xK}{E:xB->xy->Prop}
end
section
variable{X:Cx}{pins:List (xW×Obj)}{σ:St}{H:Hp}{s:xy}{a:xW}{kvs:List (Key×V)}{k:Key}{u:xB}{A:xK}{E:xB->xy->Prop}
end
section
variable{X:Cx}{o i e value:xY}{pos pos' tpos:Pos}{td ty tv:TE}
end
section
variable{X:Cx}{pos:Pos}
end
section
variable{X:Cx}{pins:List (xW×Obj)}{σ:St}{H:Hp}{s:xy}{a:xW}{y d:V}{u r:xB}{o:Option V}{A:xK}{E:xB->xy->Prop}
end
section
variable{X:Cx}{o e f:xY}{apos cpos:Pos}{td ty tx:TE}
end
section
variable{X:Cx}{pins:List (xW×Obj)}{σ:St}{H:Hp}{s:xy}{a:xW}{kvs:List (Key×V)}{A:xK}{E:xB->xy->Prop}
end
section
variable{X:Cx}{pins:List (xW×Obj)}{σ:St}{H:Hp}{s:xy}{a:xW}{y:V}{u:xB}{A:xK}{E:xB->xy->Prop}
end
section
variable{X:Cx}
end
end _L
namespace _L
section
variable{κ:Type}[DecidableEq κ]
end
end _L
namespace _D
open PySem PySem.Spec _L
open PyProof.Rows hiding St
variable{α:Type}{K:PySem.W.Frag}{H:Hp}{p:xW}{v y:V}{vs:List V}{σ:St}{E:XK}{Q:VK}{W:Ends}{e tg:xY}{ho:HO}{i n j k nt:Nat}{x:Str}{op:CmpOp}{A:xK}{s:xy}{P:xj}{w:xC}{scope:xk}{env:Env}{X:Cx}
inductive D where
 |non|bl (b:Bool)|int (i:Int)|str (x:Str)|ty (n:String)
 |tup (xs:List D)
 |fl (xs:List D)
 |ref (i:Nat)
variable{d:D}{ds xs:List D}
inductive DO where
 |lst (xs:List D)
 |dct (kvs:List (Key×D))
 |ins (c:Str) (fs:List (Str×D))
 |tab (c m:Str)
 |exc (c:Str) (fs:List (Str×D))
 |gone
variable{o:DO}
noncomputable abbrev DH:=List DO
variable{G G' L:DH}
noncomputable abbrev DSt:=List (Option D)
variable{S:DSt}
structure Xn where
 cls:Str
 fs:List (Str×D)
inductive R (α:Type) where
 |ok (a:α) (G:DH)
 |err (x:Xn) (G:DH)
 |bad
variable{r:R D}
noncomputable def R.bind{α β:Type}(r:R α)(f:α->DH->R β):R β:=match r with
 |.ok a G=>f a G
 |.err x G=>.err x G
 |.bad=>.bad
@[simp]theorem R.Jf{β:Type}(a:α)(G:DH)(f:α->DH->R β):(R.ok a G).bind f=f a G:=id rfl
inductive SR where
 |nx (S:DSt) (G:DH)
 |rt (d:D) (G:DH)
 |bk (S:DSt) (G:DH)
 |ct (S:DSt) (G:DH)
 |err (x:Xn) (G:DH)
 |bad
noncomputable abbrev DE:=DSt->DH->R D
variable{t te:DE}
noncomputable abbrev DB:=DSt->DH->R Bool
variable{c:DB}
noncomputable abbrev DA:=DSt->DH->R (List D)
noncomputable abbrev DS:=DSt->DH->SR
variable{u:DS}
def FzL(K:PySem.W.Frag)(H:Hp)(a:xW)(xs:List V):Prop:=
 (∃o,H a=vR (.frz o (.lst xs)))∨
  ∃(o:Obj)(its:Array xB)(n:Nat),K.lookup a=vR o/\o.cls=.type "list"/\o.dict=vS/\o.data=.seq its n/\its.size<=sizeLine/\Vals xs its.toList
theorem FzL.sq{a:xW}{xs:List V}(h:FzL K H a xs):SqL K H a xs:=by
 rcases h with⟨o,h⟩|h
 ·exact .inl (.inr ⟨o,h⟩)
 ·exact .inr h
structure Wd where
 K:PySem.W.Frag
 n:Nat
 m:Nat->xW
 H:Hp
variable{a b:Wd}
mutual
def Rep(a:Wd):D->V->Prop
 |.non,v=>v=.non
 |.bl b,v=>v=.bl b
 |.int i,v=>v=.int i
 |.str x,v=>v=.str x
 |.ty n,v=>v=.ty n
 |.tup ds,v=>∃p vs,v=.ref p/\SqT a.K a.H p vs/\Reps a ds vs
 |.fl ds,v=>∃p vs,v=.ref p/\FzL a.K a.H p vs/\Reps a ds vs
 |.ref i,v=>i<a.n/\v=.ref (a.m i)
def Reps(a:Wd):List D->List V->Prop
 |[],vs=>vs=[]
 |d::ds,vs=>∃v r,vs=v::r/\Rep a d v/\Reps a ds r
end
noncomputable def Cy:Str:="Sending.send_by.<locals>.<lambda>"
def TabOk(H:Hp)(P:xW):Prop:=
 ∃ps:Array xB,H P=vR (.tbl ps)/\TriplesOk ps.toList/\∀pos cv,codeAmong pos ps.toList=vR cv->∃(c:xW)(oc:Obj)(vs:Array xB)(t:Tok),cv=.ref c/\H c=vR (.frz oc (.own 0))/\oc.data=.fields vs/\vs[1]?=vR (.str Cy t)
theorem TabOk.mono{H':Hp}{P:xW}(h:TabOk H P)(ht:∀p ps,H p=vR (.tbl ps)->H' p=vR (.tbl ps))(hf:∀p o u,H p=vR (.frz o u)->H' p=vR (.frz o u)):TabOk H' P:=by obtain⟨ps,e,t,k⟩:=h;refine⟨ps,ht _ _ e,t,λpos cv hc=>?_⟩;obtain⟨c,oc,vs,tk,e1,e2,e3,e4⟩:=k pos cv hc;exact⟨c,oc,vs,tk,e1,hf _ _ _ e2,e3,e4⟩
def TabAt(K:PySem.W.Frag)(C m:Str)(c P:xW):Prop:=
 ∃(Ca f:xW)(oc:xB)(od:Option xW)(fd:xq)(sl:Array (Option xB)),PySem.W.nsIn K vW C=vR (vR (.ref Ca))/\PySem.W.findIn K (.ref Ca) m=vR (vR (.ref f))/\K.lookup f=vR ⟨oc,od,.func fd,sl⟩/\fd.code=.ref c/\PySem.W.codeHdIn K c P=vT
structure Ext (a b:Wd):Prop where
 k:b.K=a.K
 n:a.n<=b.n
 m:∀i,i<a.n->b.m i=a.m i
 tup:∀p xs,a.H p=vR (.tup xs)->b.H p=vR (.tup xs)
 frz:∀p o u,a.H p=vR (.frz o u)->b.H p=vR (.frz o u)
 tab:∀p,TabOk a.H p->TabOk b.H p
theorem Ext.refl(a:Wd):Ext a a:=⟨rfl,zK _,λ_ _=>rfl,λ_ _ h=>h,λ_ _ _ h=>h,λ_ h=>h⟩
theorem Ext.trans{c:Wd}(x:Ext a b)(y:Ext b c):Ext a c:=
 ⟨y.k.trans x.k,z0 x.n y.n,λi h=>(y.m i (zX h x.n)).trans (x.m i h),λp xs h=>y.tup p xs (x.tup p xs h),λp o u h=>y.frz p o u (x.frz p o u h),λp h=>y.tab p (x.tab p h)⟩
theorem Ext.sqT(x:Ext a b){xs:List V}(h:SqT a.K a.H p xs):SqT b.K b.H p xs:=by
 rcases h with(h|⟨o,h⟩)|h
 ·exact .inl (.inl (x.tup _ _ h))
 ·exact .inl (.inr ⟨o,x.frz _ _ _ h⟩)
 ·exact .inr (by rw[x.k];exact h)
theorem Ext.fzL(x:Ext a b){xs:List V}(h:FzL a.K a.H p xs):FzL b.K b.H p xs:=by
 rcases h with⟨o,h⟩|h
 ·exact .inl ⟨o,x.frz _ _ _ h⟩
 ·exact .inr (by rw[x.k];exact h)
mutual
theorem Rep.mono(x:Ext a b):∀{d:D}{v:V},Rep a d v->Rep b d v
 |.non,_,h=>h
 |.bl _,_,h=>h
 |.int _,_,h=>h
 |.str _,_,h=>h
 |.ty _,_,h=>h
 |.tup ds,v,h=>by obtain⟨p,vs,e,q,r⟩:=h;exact⟨p,vs,e,x.sqT q,Reps.mono x r⟩
 |.fl ds,v,h=>by obtain⟨p,vs,e,q,r⟩:=h;exact⟨p,vs,e,x.fzL q,Reps.mono x r⟩
 |.ref i,v,h=>by obtain⟨l,e⟩:=h;exact⟨zX l x.n,by rw[x.m i l];exact e⟩
theorem Reps.mono(x:Ext a b):∀{ds:List D}{vs:List V},Reps a ds vs->Reps b ds vs
 |[],_,h=>h
 |d::ds,vs,h=>by obtain⟨v,r,e,h1,h2⟩:=h;exact⟨v,r,e,Rep.mono x h1,Reps.mono x h2⟩
end
theorem Reps.length:∀{ds:List D}{vs:List V},Reps a ds vs->ds.length=vs.length
 |[],vs,h=>by cases(show vs=[]from h);rfl
 |d::ds,vs,h=>by obtain⟨v,r,e,h1,h2⟩:=h;subst e;show ds.length+1=r.length+1;rw[Reps.length h2]
theorem Reps.get:∀{ds:List D}{vs:List V}{i:Nat}{d:D},Reps a ds vs->ds[i]?=vR d->∃v,vs[i]?=vR v/\Rep a d v
 |[],vs,_,_,h,e=>by simp at e
 |d::ds,vs,0,d',h,e=>by obtain⟨v,r,e1,h1,h2⟩:=h;subst e1;simp at e;subst e;exact⟨v,rfl,h1⟩
 |d::ds,vs,i+1,d',h,e=>by obtain⟨v,r,e1,h1,h2⟩:=h;subst e1;obtain⟨w,e2,h3⟩:=Reps.get (i:=i) (d:=d') h2 (by simpa using e);exact⟨w,by simpa using e2,h3⟩
theorem Reps.get':∀{ds:List D}{vs:List V}{i:Nat}{v:V},Reps a ds vs->vs[i]?=vR v->∃d,ds[i]?=vR d/\Rep a d v
 |[],vs,_,_,h,e=>by cases(show vs=[]from h);simp at e
 |d::ds,vs,0,v',h,e=>by obtain⟨v,r,e1,h1,h2⟩:=h;subst e1;simp at e;subst e;exact⟨d,rfl,h1⟩
 |d::ds,vs,i+1,v',h,e=>by obtain⟨v,r,e1,h1,h2⟩:=h;subst e1;obtain⟨w,e2,h3⟩:=Reps.get' (i:=i) (v:=v') h2 (by simpa using e);exact⟨w,by simpa using e2,h3⟩
theorem Reps.append:∀{ds es:List D}{vs us:List V},Reps a ds vs->Reps a es us->Reps a (ds++es) (vs++us)
 |[],_,vs,_,h,h'=>by cases(show vs=[]from h);exact h'
 |d::ds,es,vs,us,h,h'=>by obtain⟨v,r,e1,h1,h2⟩:=h;subst e1;exact⟨v,r++us,rfl,h1,Reps.append h2 h'⟩
theorem Reps.cons(h:Rep a d v)(r:Reps a ds vs):Reps a (d::ds) (v::vs):=⟨v,vs,rfl,h,r⟩
theorem Reps.nil:Reps a [] []:=rfl
theorem Reps.set(h:Rep a d v):∀{ds:List D}{vs:List V}(i:Nat),Reps a ds vs->Reps a (ds.set i d) (vs.set i v)
 |[],vs,_,r=>by cases(show vs=[]from r);exact rfl
 |d'::ds,vs,0,r=>by obtain⟨v',r',e1,h1,h2⟩:=r;subst e1;exact⟨v,r',rfl,h,h2⟩
 |d'::ds,vs,i+1,r=>by obtain⟨v',r',e1,h1,h2⟩:=r;subst e1;exact⟨v',r'.set i v,rfl,h1,Reps.set h i h2⟩
theorem Reps.take:∀{ds:List D}{vs:List V}(i:Nat),Reps a ds vs->Reps a (ds.take i) (vs.take i)
 |_,_,0,_=>rfl
 |[],vs,_+1,r=>by cases(show vs=[]from r);exact rfl
 |d'::ds,vs,i+1,r=>by obtain⟨v',r',e1,h1,h2⟩:=r;subst e1;exact⟨v',r'.take i,rfl,h1,Reps.take i h2⟩
theorem Reps.drop:∀{ds:List D}{vs:List V}(i:Nat),Reps a ds vs->Reps a (ds.drop i) (vs.drop i)
 |_,_,0,r=>r
 |[],vs,_+1,r=>by cases(show vs=[]from r);exact rfl
 |d'::ds,vs,i+1,r=>by obtain⟨v',r',e1,h1,h2⟩:=r;subst e1;exact Reps.drop i h2
theorem Reps.ints:∀(ns:List Int),Reps a (ns.map D.int) (ns.map V.int)
 |[]=>rfl
 |n::ns=>⟨.int n,ns.map V.int,rfl,rfl,Reps.ints ns⟩
def RepKV(a:Wd)(kvs:List (Key×D))(us:List (Key×V)):Prop:=kvs.map (·.1)=us.map (·.1)/\Reps a (kvs.map (·.2)) (us.map (·.2))
def RepF(a:Wd)(fs:List (Str×D))(us:List (Str×V)):Prop:=fs.map (·.1)=us.map (·.1)/\Reps a (fs.map (·.2)) (us.map (·.2))
def XD(a:Wd)(od:Option xW)(fs:List (Str×D)):Prop:=(fs=[]/\od=vS)∨∃dx o us,od=vR dx/\a.H dx=vR (.frz o (.xd us))/\RepF a fs us
def ORep(a:Wd):DO->Option HO->Prop
 |.lst ds,o=>∃vs,o=vR (.lst vs)/\Reps a ds vs
 |.dct kvs,o=>∃us,o=vR (.dK us)/\RepKV a kvs us
 |.ins c fs,o=>∃C dx us,PySem.W.nsIn a.K vW c=vR (vR (.ref C))/\o=vR (.ins C dx us)/\RepF a fs us
 |.tab C m,_=>∃c P,TabAt a.K C m c P/\TabOk a.H P
 |.exc c fs,o=>∃C oe u vs,PySem.W.nsIn a.K vW c=vR (vR (.ref C))/\o=vR (.frz oe u)/\oe.cls=.ref C/\oe.data=.fields vs/\XD a oe.dict fs
 |.gone,_=>True
structure Sim (a:Wd) (G:DH):Prop where
 len:G.length=a.n
 inj:∀i j,i<a.n->j<a.n->a.m i=a.m j->i=j
 obj:∀(i:Nat)(o:DO),G[i]?=vR o->ORep a o (a.H (a.m i))
 tr:∀i,i<a.n->a.H (a.m i)≠vS
structure RepS (a:Wd) (S:DSt) (σ:St):Prop where
 len:S.length=σ.length
 get:∀(i:Nat)(d:D),S[i]?=vR (vR d)->∃v,σ[i]?=vR (vR v)/\Rep a d v
theorem RepS.mono(x:Ext a b)(r:RepS a S σ):RepS b S σ:=⟨r.len,λi d h=>let⟨v,e,q⟩:=r.get i d h;⟨v,e,q.mono x⟩⟩
theorem RepS.set(r:RepS a S σ)(i:Nat)(h:Rep a d v):RepS a (S.set i (vR d)) (σ.set i (vR v)):=by
 refine⟨by simpa using r.len,λj e he=>?_⟩;rw[qA]at he⊢;by_cases hij:i=j
 ·subst hij;rw[if_pos rfl]at he⊢;by_cases hl:i<S.length
  ·rw[if_pos hl]at he;have e1:d=e:=by simpa using he
   subst e1;rw[if_pos (by rw[<-r.len];exact hl)];exact⟨v,rfl,h⟩
  ·rw[if_neg hl]at he;cases he
 ·rw[if_neg hij]at he⊢;exact r.get j e he
def XOk(E:XK)(a:Wd)(x:Xn)(G:DH):Prop:=E≠E0/\∀(b:Wd)(C:xW)(od:Option xW),Ext a b->Sim b G->PySem.W.nsIn b.K vW x.cls=vR (vR (.ref C))->XD b od x.fs->E (.ref C) od b.H
def out(E:XK)(a:Wd)(r:R D)(Q:VK):Prop:=match r with
 |.ok d G=>∀(b:Wd)(v:V),Ext a b->Sim b G->Rep b d v->Q v b.H
 |.err x G=>XOk E a x G
 |.bad=>False
def El(E:XK)(a:Wd)(r:R Bool)(Q:Bool->Hp->Prop):Prop:=match r with
 |.ok k G=>∀(b:Wd),Ext a b->Sim b G->Q k b.H
 |.err x G=>XOk E a x G
 |.bad=>False
def Cu(E:XK)(a:Wd)(r:R (List D))(Q:List V->Hp->Prop):Prop:=match r with
 |.ok ds G=>∀(b:Wd)(vs:List V),Ext a b->Sim b G->Reps b ds vs->Q vs b.H
 |.err x G=>XOk E a x G
 |.bad=>False
def Bm(E:XK)(a:Wd)(r:SR)(W:Ends):Prop:=match r with
 |.nx S G=>∀(b:Wd)(σ:St),Ext a b->Sim b G->RepS b S σ->W.nx σ b.H
 |.bk S G=>∀(b:Wd)(σ:St),Ext a b->Sim b G->RepS b S σ->W.bk σ b.H
 |.ct S G=>∀(b:Wd)(σ:St),Ext a b->Sim b G->RepS b S σ->W.ct σ b.H
 |.rt d G=>∀(b:Wd)(v:V),Ext a b->Sim b G->Rep b d v->W.rt v b.H
 |.err x G=>XOk E a x G
 |.bad=>False
theorem XOk.mono(x:Ext a b){e:Xn}(h:XOk E a e G):XOk E b e G:=⟨h.1,λc C od y s n q=>h.2 c C od (x.trans y) s n q⟩
theorem out.mono(x:Ext a b)(h:out E a r Q):out E b r Q:=by
 cases r with
 |ok d G=>exact λc v y s q=>h c v (x.trans y) s q
 |err e G=>exact XOk.mono (E:=E) (e:=e) (G:=G) x h
 |bad=>exact h
theorem El.mono(x:Ext a b){r:R Bool}{Q:Bool->Hp->Prop}(h:El E a r Q):El E b r Q:=by
 cases r with
 |ok d G=>exact λc y s=>h c (x.trans y) s
 |err e G=>exact XOk.mono (E:=E) (e:=e) (G:=G) x h
 |bad=>exact h
theorem Cu.mono(x:Ext a b){r:R (List D)}{Q:List V->Hp->Prop}(h:Cu E a r Q):Cu E b r Q:=by
 cases r with
 |ok d G=>exact λc vs y s q=>h c vs (x.trans y) s q
 |err e G=>exact XOk.mono (E:=E) (e:=e) (G:=G) x h
 |bad=>exact h
theorem Bm.mono(x:Ext a b){r:SR}(h:Bm E a r W):Bm E b r W:=by
 cases r with
 |nx d G=>exact λc vs y s q=>h c vs (x.trans y) s q
 |bk d G=>exact λc vs y s q=>h c vs (x.trans y) s q
 |ct d G=>exact λc vs y s q=>h c vs (x.trans y) s q
 |rt d G=>exact λc vs y s q=>h c vs (x.trans y) s q
 |err e G=>exact XOk.mono (E:=E) (e:=e) (G:=G) x h
 |bad=>exact h
def lE(K:PySem.W.Frag)(E:XK)(t:DE):TE:=λσ H Q=>∃(a:Wd)(S:DSt)(G:DH),a.K=K/\a.H=H/\Sim a G/\RepS a S σ/\out E a (t S G) Q
def lB(K:PySem.W.Frag)(E:XK)(t:DB):TT:=λσ H Q=>∃(a:Wd)(S:DSt)(G:DH),a.K=K/\a.H=H/\Sim a G/\RepS a S σ/\El E a (t S G) Q
def lA(K:PySem.W.Frag)(E:XK)(t:DA):TA:=λσ H Q=>∃(a:Wd)(S:DSt)(G:DH),a.K=K/\a.H=H/\Sim a G/\RepS a S σ/\Cu E a (t S G) Q
def lS(K:PySem.W.Frag)(E:XK)(t:DS):TS:=λW σ H=>∃(a:Wd)(S:DSt)(G:DH),a.K=K/\a.H=H/\Sim a G/\RepS a S σ/\Bm E a (t S G) W
def lR2(K:PySem.W.Frag)(E:XK)(f:D->D->DH->R D):R2:=λx y H Q=>∃(a:Wd)(G:DH)(d e:D),a.K=K/\a.H=H/\Sim a G/\Rep a d x/\Rep a e y/\out E a (f d e G) Q
def lR1(K:PySem.W.Frag)(E:XK)(f:D->DH->R D):V->Hp->VK->Prop:=λx H Q=>∃(a:Wd)(G:DH)(d:D),a.K=K/\a.H=H/\Sim a G/\Rep a d x/\out E a (f d G) Q
def lRn(K:PySem.W.Frag)(E:XK)(f:List D->DH->R D):List V->Hp->VK->Prop:=λxs H Q=>∃(a:Wd)(G:DH)(ds:List D),a.K=K/\a.H=H/\Sim a G/\Reps a ds xs/\out E a (f ds G) Q
def lF(K:PySem.W.Frag)(f:List D->DH->R D):Sp:=λxs H Q _=>∃(a:Wd)(G:DH)(ds:List D),a.K=K/\a.H=H/\Sim a G/\Reps a ds xs/\out E0 a (f ds G) Q
def lFx(K:PySem.W.Frag)(f:List D->DH->R D):Sp:=λxs H Q E=>∃(a:Wd)(G:DH)(ds:List D),a.K=K/\a.H=H/\Sim a G/\Reps a ds xs/\out E a (f ds G) Q
section
variable{X:Cx}{E:XK}
def QE(X:Cx)(E:XK)(e:xY)(t:DE):Prop:=PE X e (lE X.K E t)
def QT(X:Cx)(E:XK)(e:xY)(t:DB):Prop:=PT X e (lB X.K E t)
def QA(X:Cx)(E:XK)(es:List xY)(t:DA):Prop:=PA X es (lA X.K E t)
def QS(X:Cx)(E:XK)(st:xA)(t:DS):Prop:=PS X st (lS X.K E t)
def QSs(X:Cx)(E:XK)(st:List xA)(t:DS):Prop:=PSs X st (lS X.K E t)
theorem _root_._L.PE.mono{t t':TE}(h:PE X e t)(w:∀σ H Q,t' σ H Q->t σ H Q):PE X e t':=λpins s σ H Q I q=>h pins s σ H Q I (w σ H Q q)
theorem _root_._L.PT.mono{t t':TT}(h:PT X e t)(w:∀σ H Q,t' σ H Q->t σ H Q):PT X e t':=λpins s σ H Q I q=>h pins s σ H Q I (w σ H Q q)
theorem _root_._L.PA.mono{e:List xY}{t t':TA}(h:PA X e t)(w:∀σ H Q,t' σ H Q->t σ H Q):PA X e t':=λpos pins s σ H Q I q=>h pos pins s σ H Q I (w σ H Q q)
theorem _root_._L.PS.mono{e:xA}{t t':TS}(h:PS X e t)(w:∀W σ H,t' W σ H->t W σ H):PS X e t':=λpins s σ H W I q=>h pins s σ H W I (w W σ H q)
theorem _root_._L.PSs.mono{e:List xA}{t t':TS}(h:PSs X e t)(w:∀W σ H,t' W σ H->t W σ H):PSs X e t':=λpins s σ H W I q=>h pins s σ H W I (w W σ H q)
theorem _root_._L.OpR.mono{f:xB->xB->Sem xB}{r r':R2}(h:OpR X f r)(w:∀x y H Q,r' x y H Q->r x y H Q):OpR X f r':=λpins s σ H x y v u Q I rx ry q=>h pins s σ H x y v u Q I rx ry (w _ _ _ _ q)
end
theorem Dj{f:D->DH->R D}(h:out E a (r.bind f) Q):
  out E a r (λv H=>∃(b:Wd)(d:D)(G:DH),b.H=H/\Ext a b/\Sim b G/\Rep b d v/\r=.ok d G/\out E b (f d G) Q):=by
 cases r with
 |ok d G=>exact λb v x s q=>⟨b,d,G,rfl,x,s,q,rfl,out.mono x h⟩
 |err e G=>exact h
 |bad=>exact h
theorem Kh{r:R (List D)}{f:List D->DH->R D}(h:out E a (r.bind f) Q):
  Cu E a r (λvs H=>∃(b:Wd)(ds:List D)(G:DH),b.H=H/\Ext a b/\Sim b G/\Reps b ds vs/\r=.ok ds G/\out E b (f ds G) Q):=by
 cases r with
 |ok d G=>exact λb v x s q=>⟨b,d,G,rfl,x,s,q,rfl,out.mono x h⟩
 |err e G=>exact h
 |bad=>exact h
theorem ZB4{r:R Bool}{f:Bool->DH->R D}(h:out E a (r.bind f) Q):
  El E a r (λk H=>∃(b:Wd)(G:DH),b.H=H/\Ext a b/\Sim b G/\r=.ok k G/\out E b (f k G) Q):=by
 cases r with
 |ok d G=>exact λb x s=>⟨b,G,rfl,x,s,rfl,out.mono x h⟩
 |err e G=>exact h
 |bad=>exact h
theorem ZKV{f:D->DH->R Bool}{Q:Bool->Hp->Prop}(h:El E a (r.bind f) Q):
  out E a r (λv H=>∃(b:Wd)(d:D)(G:DH),b.H=H/\Ext a b/\Sim b G/\Rep b d v/\r=.ok d G/\El E b (f d G) Q):=by
 cases r with
 |ok d G=>exact λb v x s q=>⟨b,d,G,rfl,x,s,q,rfl,El.mono x h⟩
 |err e G=>exact h
 |bad=>exact h
theorem Yt{r:R Bool}{f:Bool->DH->R Bool}{Q:Bool->Hp->Prop}(h:El E a (r.bind f) Q):
  El E a r (λk H=>∃(b:Wd)(G:DH),b.H=H/\Ext a b/\Sim b G/\r=.ok k G/\El E b (f k G) Q):=by
 cases r with
 |ok d G=>exact λb x s=>⟨b,G,rfl,x,s,rfl,El.mono x h⟩
 |err e G=>exact h
 |bad=>exact h
theorem ZFG{f:D->DH->R (List D)}{Q:List V->Hp->Prop}(h:Cu E a (r.bind f) Q):
  out E a r (λv H=>∃(b:Wd)(d:D)(G:DH),b.H=H/\Ext a b/\Sim b G/\Rep b d v/\r=.ok d G/\Cu E b (f d G) Q):=by
 cases r with
 |ok d G=>exact λb v x s q=>⟨b,d,G,rfl,x,s,q,rfl,Cu.mono x h⟩
 |err e G=>exact h
 |bad=>exact h
theorem ZK3{r:R (List D)}{f:List D->DH->R (List D)}{Q:List V->Hp->Prop}(h:Cu E a (r.bind f) Q):
  Cu E a r (λvs H=>∃(b:Wd)(ds:List D)(G:DH),b.H=H/\Ext a b/\Sim b G/\Reps b ds vs/\r=.ok ds G/\Cu E b (f ds G) Q):=by
 cases r with
 |ok d G=>exact λb v x s q=>⟨b,d,G,rfl,x,s,q,rfl,Cu.mono x h⟩
 |err e G=>exact h
 |bad=>exact h
noncomputable def R.toS{α:Type}(r:R α)(f:α->DH->SR):SR:=match r with
 |.ok a G=>f a G
 |.err x G=>.err x G
 |.bad=>.bad
@[simp]theorem R.Dn(a:α)(G:DH)(f:α->DH->SR):(R.ok a G).toS f=f a G:=id rfl
@[simp]theorem R.ZM0(x:Xn)(G:DH)(f:α->DH->SR):(R.err x G:R α).toS f=.err x G:=id rfl
theorem Gz{f:D->DH->SR}(h:Bm E a (r.toS f) W):
  out E a r (λv H=>∃(b:Wd)(d:D)(G:DH),b.H=H/\Ext a b/\Sim b G/\Rep b d v/\r=.ok d G/\Bm E b (f d G) W):=by
 cases r with
 |ok d G=>exact λb v x s q=>⟨b,d,G,rfl,x,s,q,rfl,Bm.mono x h⟩
 |err e G=>exact h
 |bad=>exact h
theorem ZA5{r:R Bool}{f:Bool->DH->SR}(h:Bm E a (r.toS f) W):
  El E a r (λk H=>∃(b:Wd)(G:DH),b.H=H/\Ext a b/\Sim b G/\r=.ok k G/\Bm E b (f k G) W):=by
 cases r with
 |ok d G=>exact λb x s=>⟨b,G,rfl,x,s,rfl,Bm.mono x h⟩
 |err e G=>exact h
 |bad=>exact h
section
theorem out.imp{Q':VK}(h:out E a r Q)(w:∀v H,Q v H->Q' v H):out E a r Q':=by
 cases r with
 |ok d G=>exact λb v x s q=>w _ _ (h b v x s q)
 |err e G=>exact h
 |bad=>exact h
theorem Cu.imp{r:R (List D)}{Q Q':List V->Hp->Prop}(h:Cu E a r Q)(w:∀v H,Q v H->Q' v H):Cu E a r Q':=by
 cases r with
 |ok d G=>exact λb v x s q=>w _ _ (h b v x s q)
 |err e G=>exact h
 |bad=>exact h
theorem El.imp{r:R Bool}{Q Q':Bool->Hp->Prop}(h:El E a r Q)(w:∀v H,Q v H->Q' v H):El E a r Q':=by
 cases r with
 |ok d G=>exact λb x s=>w _ _ (h b x s)
 |err e G=>exact h
 |bad=>exact h
def Wd.push(a:Wd)(p:xW)(ho:HO):Wd:=⟨a.K,a.n+1,λk=>if k=a.n then p else a.m k,upd a.H p ho⟩
def Wd.put(a:Wd)(p:xW)(ho:HO):Wd:={a with H:=upd a.H p ho}
theorem Ext.put(h:a.H p=vS):Ext a (a.put p ho):=
 ⟨rfl,zK _,λ_ _=>rfl,λq xs e=>by show upd a.H p ho q=_;rw[Aq (G7 e h)];exact e,λq o u e=>by show upd a.H p ho q=_;rw[Aq (G7 e h)];exact e,λ_ t=>t.mono (λq ps e=>by show upd a.H p ho q=_;rw[Aq (G7 e h)];exact e) (λq o u e=>by show upd a.H p ho q=_;rw[Aq (G7 e h)];exact e)⟩
theorem Ext.push(h:a.H p=vS):Ext a (a.push p ho):=
 ⟨rfl,qS _,λi hi=>by show(if i=a.n then p else a.m i)=a.m i;rw[if_neg (zF hi)],λq xs e=>by show upd a.H p ho q=_;rw[Aq (G7 e h)];exact e,λq o u e=>by show upd a.H p ho q=_;rw[Aq (G7 e h)];exact e,λ_ t=>t.mono (λq ps e=>by show upd a.H p ho q=_;rw[Aq (G7 e h)];exact e) (λq o u e=>by show upd a.H p ho q=_;rw[Aq (G7 e h)];exact e)⟩
theorem XD.mono(x:Ext a b){od:Option xW}{fs:List (Str×D)}(h:XD a od fs):XD b od fs:=by
 rcases h with h|⟨dx,o,us,e,f,k,r⟩
 ·exact .inl h
 ·exact .inr ⟨dx,o,us,e,x.frz _ _ _ f,k,r.mono x⟩
theorem ORep.mono(x:Ext a b){q:Option HO}(h:ORep a o q):ORep b o q:=by
 cases o with
 |lst ds=>obtain⟨vs,e,r⟩:=h;exact⟨vs,e,r.mono x⟩
 |dct kvs=>obtain⟨us,e,k,r⟩:=h;exact⟨us,e,k,r.mono x⟩
 |ins c fs=>obtain⟨C,dx,us,n,e,k,r⟩:=h;exact⟨C,dx,us,by rw[x.k];exact n,e,k,r.mono x⟩
 |tab C m=>obtain⟨c,P,e,t⟩:=h;exact⟨c,P,by rw[x.k];exact e,x.tab _ t⟩
 |exc c fs=>obtain⟨C,oe,u,vs,n,e,k1,k2,z⟩:=h;exact⟨C,oe,u,vs,by rw[x.k];exact n,e,k1,k2,z.mono x⟩
 |gone=>trivial
theorem Sim.lt(s:Sim a G)(h:G[i]?=vR o):i<a.n:=by rw[<-s.len];exact(zk.mp h).1
theorem Sim.put(s:Sim a G)(h:a.H p=vS):Sim (a.put p ho) G:=by
 refine⟨s.len,s.inj,λi o e=>?_,λi hi=>?_⟩
 ·have z:a.H (a.m i)≠vS:=s.tr i (s.lt e);have ne:a.m i≠p:=λq=>z (by rw[q];exact h)
  show ORep _ o (upd a.H p ho (a.m i));rw[Aq ne];exact(s.obj i o e).mono (Ext.put h)
 ·have z:a.H (a.m i)≠vS:=s.tr i hi;have ne:a.m i≠p:=λq=>z (by rw[q];exact h)
  show upd a.H p ho (a.m i)≠vS;rw[Aq ne];exact z
theorem Sim.push(s:Sim a G)(h:a.H p=vS)(r:ORep (a.push p ho) o (vR ho)):Sim (a.push p ho) (G++[o]):=by
 have nep:∀i,i<a.n->a.m i≠p:=λi hi q=>s.tr i hi (by rw[q];exact h)
 have old:∀i,i<a.n->(a.push p ho).m i=a.m i:=λi hi=>by show(if i=a.n then p else a.m i)=_;rw[if_neg (zF hi)]
 have new:(a.push p ho).m a.n=p:=by show(if a.n=a.n then p else a.m a.n)=_;rw[if_pos rfl]
 refine⟨by simp[s.len,Wd.push],λi j hi hj e=>?_,λi u e=>?_,λi hi=>?_⟩
 ·have hi':i<a.n+1:=hi;have hj':j<a.n+1:=hj;by_cases h1:i<a.n
  ·by_cases h2:j<a.n
   ·rw[old i h1,old j h2]at e;exact s.inj i j h1 h2 e
   ·have:j=a.n:=by lia
    subst this;rw[old i h1,new]at e;exact absurd e (nep i h1)
  ·have:i=a.n:=by lia
   subst this;by_cases h2:j<a.n
   ·rw[old j h2,new]at e;exact absurd e.symm (nep j h2)
   ·lia
 ·by_cases h1:i<a.n
  ·rw[zG (by rw[s.len];exact h1)]at e;rw[old i h1];show ORep _ u (upd a.H p ho (a.m i));rw[Aq (nep i h1)];exact(s.obj i u e).mono (Ext.push h)
  ·have hl:i<(G++[o]).length:=(zk.mp e).1;have:i=a.n:=by rw[qJ,s.len]at hl;simp at hl;lia
   subst this;rw[zI (by rw[s.len];exact zK _),s.len]at e;simp at e;subst e;rw[new];show ORep _ o (upd a.H p ho p);rw[Do];exact r
 ·have hi':i<a.n+1:=hi;by_cases h1:i<a.n
  ·rw[old i h1];show upd a.H p ho (a.m i)≠vS;rw[Aq (nep i h1)];exact s.tr i h1
  ·have:i=a.n:=by lia
   subst this;rw[new];show upd a.H p ho p≠vS;rw[Do];simp
theorem Ext.wr(h:a.H p=vR (.lst vs)):Ext a (a.put p ho):=
 ⟨rfl,zK _,λ_ _=>rfl,λq xs e=>by
  show upd a.H p ho q=_;rw[Aq (λz=>by subst z;rw[h]at e;cases e)];exact e,λq o u e=>by
  show upd a.H p ho q=_;rw[Aq (λz=>by subst z;rw[h]at e;cases e)];exact e,λ_ t=>t.mono (λq ps e=>by show upd a.H p ho q=_;rw[Aq (λz=>by subst z;rw[h]at e;cases e)];exact e) (λq o u e=>by show upd a.H p ho q=_;rw[Aq (λz=>by subst z;rw[h]at e;cases e)];exact e)⟩
theorem Sim.wr(s:Sim a G)(hi:i<a.n){vs':List V}{ds':List D}(h:a.H (a.m i)=vR (.lst vs))(r:Reps (a.put (a.m i) (.lst vs')) ds' vs'):Sim (a.put (a.m i) (.lst vs')) (G.set i (.lst ds')):=by
 refine⟨by rw[qD];exact s.len,s.inj,λj o e=>?_,λj hj=>?_⟩
 ·rw[qA]at e;show ORep _ o (upd a.H (a.m i) (.lst vs') (a.m j));by_cases hij:i=j
  ·subst hij;rw[if_pos rfl,if_pos (by rw[s.len];exact hi)]at e;cases e;rw[Do];exact⟨vs',rfl,r⟩
  ·rw[if_neg hij]at e;rw[Aq λz=>hij (s.inj _ _ (s.lt e) hi z).symm];exact(s.obj j o e).mono (Ext.wr h)
 ·show upd a.H (a.m i) (.lst vs') (a.m j)≠vS;by_cases hij:a.m j=a.m i
  ·rw[hij,Do];simp
  ·rw[Aq hij];exact s.tr j hj
mutual
noncomputable def bel(n:Nat):D->Bool
 |.ref i=>decide (i<n)
 |.tup ds=>bels n ds
 |.fl ds=>bels n ds
 |_=>vT
noncomputable def bels(n:Nat):List D->Bool
 |[]=>vT
 |d::ds=>bel n d&&bels n ds
end
def Le(n:Nat):DO->Bool
 |.lst ds=>bels n ds
 |.dct kvs=>bels n (kvs.map (·.2))
 |.ins _ fs=>bels n (fs.map (·.2))
 |.tab _ _=>vT
 |.exc _ fs=>bels n (fs.map (·.2))
 |.gone=>vT
mutual
theorem Rep.bel:∀{d:D}{v:V},Rep a d v->bel a.n d=vT
 |.non,_,_=>by simp[_D.bel]
 |.bl _,_,_=>by simp[_D.bel]
 |.int _,_,_=>by simp[_D.bel]
 |.str _,_,_=>by simp[_D.bel]
 |.ty _,_,_=>by simp[_D.bel]
 |.tup ds,v,h=>by obtain⟨p,vs,e,q,r⟩:=h;simp only[_D.bel];exact Reps.bels r
 |.fl ds,v,h=>by obtain⟨p,vs,e,q,r⟩:=h;simp only[_D.bel];exact Reps.bels r
 |.ref i,v,h=>by obtain⟨l,e⟩:=h;simp only[_D.bel];exact decide_eq_true l
theorem Reps.bels:∀{ds:List D}{vs:List V},Reps a ds vs->bels a.n ds=vT
 |[],_,_=>by simp[_D.bels]
 |d::ds,vs,h=>by
  obtain⟨v,r,e,h1,h2⟩:=h;simp only[_D.bels];rw[Rep.bel h1,Reps.bels h2]
  rfl
end
structure Cut (b c:Wd):Prop where
 k:c.K=b.K
 h:c.H=b.H
mutual
theorem Rep.cut{c:Wd}(x:Cut b c)(hn:n<=c.n)(hm:∀i,i<n->c.m i=b.m i):∀{d:D}{v:V},Rep b d v->bel n d=vT->Rep c d v
 |.non,_,h,_=>h
 |.bl _,_,h,_=>h
 |.int _,_,h,_=>h
 |.str _,_,h,_=>h
 |.ty _,_,h,_=>h
 |.tup ds,v,h,q=>by obtain⟨p,vs,e,t,r⟩:=h;simp only[_D.bel]at q;exact⟨p,vs,e,by rw[x.k,x.h];exact t,Reps.cut x hn hm r q⟩
 |.fl ds,v,h,q=>by obtain⟨p,vs,e,t,r⟩:=h;simp only[_D.bel]at q;exact⟨p,vs,e,by rw[x.k,x.h];exact t,Reps.cut x hn hm r q⟩
 |.ref i,v,h,q=>by obtain⟨l,e⟩:=h;simp only[_D.bel]at q;have q':=of_decide_eq_true q;exact⟨zX q' hn,by rw[hm i q'];exact e⟩
theorem Reps.cut{c:Wd}(x:Cut b c)(hn:n<=c.n)(hm:∀i,i<n->c.m i=b.m i):∀{ds:List D}{vs:List V},Reps b ds vs->bels n ds=vT->Reps c ds vs
 |[],_,h,_=>h
 |d::ds,vs,h,q=>by obtain⟨v,r,e,h1,h2⟩:=h;simp only[_D.bels,zB]at q;exact⟨v,r,e,Rep.cut x hn hm h1 q.1,Reps.cut x hn hm h2 q.2⟩
end
theorem ORep.cut{c:Wd}(x:Cut b c)(hn:n<=c.n)(hm:∀i,i<n->c.m i=b.m i){q:Option HO}(h:ORep b o q)(l:Le n o=vT):ORep c o q:=by
 cases o with
 |lst ds=>obtain⟨vs,e,r⟩:=h;exact⟨vs,e,Reps.cut x hn hm r l⟩
 |dct kvs=>obtain⟨us,e,k,r⟩:=h;exact⟨us,e,k,Reps.cut x hn hm r l⟩
 |ins c fs=>obtain⟨C,dx,us,n,e,k,r⟩:=h;exact⟨C,dx,us,by rw[x.k];exact n,e,k,Reps.cut x hn hm r l⟩
 |tab C m=>obtain⟨c,P,e,t⟩:=h;exact⟨c,P,by rw[x.k];exact e,by rw[x.h];exact t⟩
 |exc c fs=>
  obtain⟨C,oe,u,vs,n,e,k1,k2,z⟩:=h;refine⟨C,oe,u,vs,by rw[x.k];exact n,e,k1,k2,?_⟩;rcases z with z|⟨dx,o,us,e,f,k,r⟩
  ·exact .inl z
  ·exact .inr ⟨dx,o,us,e,by rw[x.h];exact f,k,Reps.cut x hn hm r l⟩
 |gone=>trivial
theorem ORep.Le{q:Option HO}(h:ORep a o q):Le a.n o=vT:=by
 cases o with
 |lst ds=>obtain⟨vs,e,r⟩:=h;exact r.bels
 |dct kvs=>obtain⟨us,e,k,r⟩:=h;exact r.bels
 |ins c fs=>obtain⟨C,dx,us,n,e,k,r⟩:=h;exact r.bels
 |tab C m=>rfl
 |exc c fs=>
  obtain⟨C,oe,u,vs,n,e,k1,k2,z⟩:=h;rcases z with⟨z,_⟩|⟨dx,o,us,e,f,k,r⟩
  ·rw[z];rfl
  ·exact r.bels
 |gone=>rfl
open Classical in
def tidy (G:DH) (r:R D):R D:=match r with
 | .ok d G'=>if G'.take G.length=G then
   (if bel G.length d=vT then .ok d G else match d with
    |.ref i=>match G'[i]? with
     |some o=>if Le G.length o=vT then .ok (.ref G.length) (G++[o])else .ok d G'
     |none=>.ok d G'
    |_=>.ok d G')else .ok d G'
 |r=>r
theorem Ph (s:Sim a G) (h:out E a (tidy G r) Q):out E a r Q:=by
 cases r with
 |err e G'=>exact h
 |bad=>exact h
 | ok d G'=>
  intro b v x sb rb;unfold tidy at h;dsimp only at h;split at h
  ·rename_i hG;have hlen:∀i o,G[i]?=vR o->G'[i]?=vR o:=λi o e=>by have hi:i<G.length:=(zk.mp e).1;rw[<-hG,qz hi]at e;exact e
   have base:∀(c:Wd),Cut b c->a.n<=c.n->(∀i,i<a.n->c.m i=b.m i)->∀i o,G[i]?=vR o->ORep c o (c.H (c.m i)):=λc cc hn hm i o e=>by have q:=sb.obj i o (hlen i o e);rw[cc.h,hm i (s.lt e)];exact q.cut cc hn hm (s.obj i o e).Le
   split at h
   ·rename_i hb;rw[s.len]at hb;let c:Wd:=⟨b.K,a.n,b.m,b.H⟩;have cc:Cut b c:=⟨rfl,rfl⟩;refine h c v ⟨x.k,zK _,x.m,x.tup,x.frz,x.tab⟩ ⟨s.len,λi j hi hj=>sb.inj i j (zX hi x.n) (zX hj x.n),base c cc (zK _) (λ_ _=>rfl),λi hi=>sb.tr i (zX hi x.n)⟩ ?_;exact rb.cut cc (zK _) (λ_ _=>rfl) hb
   ·rename_i hb;split at h
    ·rename_i i;obtain⟨il,iv⟩:=rb;split at h
     ·rename_i o ho;split at h
      ·rename_i hbo;rw[s.len]at hbo hb h;simp only[_D.bel,decide_eq_true_eq]at hb;let c:Wd:=⟨b.K,a.n+1,λk=>if k=a.n then b.m i else b.m k,b.H⟩;have cc:Cut b c:=⟨rfl,rfl⟩;have cm:∀j,j<a.n->c.m j=b.m j:=λj hj=>by show(if j=a.n then b.m i else b.m j)=_;rw[if_neg (zF hj)]
       have cn:c.m a.n=b.m i:=by show(if a.n=a.n then b.m i else b.m a.n)=_;rw[if_pos rfl]
       have lt':∀j,j<a.n->j<b.n:=λj hj=>zX hj x.n
       refine h c v ⟨x.k,qS _,λj hj=>(cm j hj).trans (x.m j hj),x.tup,x.frz,x.tab⟩ ⟨by simp[s.len,c],λj k hj hk e=>?_,λj u e=>?_,λj hj=>?_⟩ ⟨zU _,by rw[cn];exact iv⟩
       ·have hj':j<a.n+1:=hj;have hk':k<a.n+1:=hk;by_cases h1:j<a.n
        ·by_cases h2:k<a.n
         ·rw[cm j h1,cm k h2]at e;exact sb.inj j k (lt' j h1) (lt' k h2) e
         ·have:k=a.n:=by lia
          subst this;rw[cm j h1,cn]at e;have:=sb.inj j i (lt' j h1) il e;lia
        ·have:j=a.n:=by lia
         subst this;by_cases h2:k<a.n
         ·rw[cm k h2,cn]at e;have:=sb.inj i k il (lt' k h2) e;lia
         ·lia
       ·by_cases h1:j<a.n
        ·rw[zG (by rw[s.len];exact h1)]at e;exact base c cc (qS _) cm j u e
        ·have hl:j<(G++[o]).length:=(zk.mp e).1;have:j=a.n:=by rw[qJ,s.len]at hl;simp at hl;lia
         subst this;rw[zI (by rw[s.len];exact zK _),s.len]at e;simp at e;subst e;rw[cn];exact(sb.obj i o ho).cut cc (qS _) cm hbo
       ·have hj':j<a.n+1:=hj;by_cases h1:j<a.n
        ·rw[cm j h1];exact sb.tr j (lt' j h1)
        ·have:j=a.n:=by lia
         subst this;rw[cn];exact sb.tr i il
      ·exact h b v x sb ⟨il,iv⟩
     ·exact h b v x sb ⟨il,iv⟩
    ·exact h b v x sb rb
  ·exact h b v x sb rb
end
noncomputable def dV(i:Nat):DE:=λS G=>match S[i]? with
 |some (vR d)=>.ok d G
 |_=>.bad
noncomputable def dC(d:D):DE:=λ_ G=>.ok d G
def dOp(f:D->D->DH->R D)(a b:DE):DE:=λS G=>(a S G).bind λx G1=>(b S G1).bind λy G2=>f x y G2
def dUn(f:D->DH->R D)(a:DE):DE:=λS G=>(a S G).bind f
noncomputable def Ag:DA:=λ_ G=>.ok [] G
def Ab(a:DE)(r:DA):DA:=λS G=>(a S G).bind λx G1=>(r S G1).bind λxs G2=>.ok (x::xs) G2
def dFn(f:List D->DH->R D)(t:DA):DE:=λS G=>(t S G).bind f
def Cp(t:DE):DE:=λS G=>tidy G (t S G)
def asB:D->DH->R Bool
 |.bl k,G=>.ok k G
 |_,_=>.bad
def Bc(t:DE):DB:=λS G=>(t S G).bind asB
def Qd(t u:DB):DB:=λS G=>(t S G).bind λk G1=>if k=vT then u S G1 else .ok vU G1
def dOr(t u:DB):DB:=λS G=>(t S G).bind λk G1=>if k=vT then .ok vT G1 else u S G1
def Lh(t:DB):DB:=λS G=>(t S G).bind λk G1=>.ok (!k) G1
def M5(t u:DE):DE:=λS G=>(t S G).bind λx G1=>(asB x G1).bind λk G2=>if k=vT then u S G2 else .ok (.bl vU) G2
def Wb(t:DE):DE:=λS G=>(t S G).bind λx G1=>(asB x G1).bind λk G2=>.ok (.bl (!k)) G2
def dIf(c:DB)(t u:DE):DE:=λS G=>(c S G).bind λk G1=>if k=vT then t S G1 else u S G1
def Ro(f g:D->D->DH->R D)(a b c:DE):DE:=λS G=>(a S G).bind λx G1=>(b S G1).bind λy G2=>(f x y G2).bind λz G3=>(asB z G3).bind λk G4=>
 if k=vT then(c S G4).bind λw G5=>g y w G5 else .ok (.bl vU) G4
noncomputable def Df(ds:List D)(G:DH):R D:=if ds.length<=1000000 then .ok (.tup ds) G else .bad
noncomputable def Ar(ds:List D)(G:DH):R D:=if ds.length<=1000000 then .ok (.ref G.length) (G++[.lst ds])else .bad
noncomputable def Bp(d:D)(G:DH):Option (List D):=match d with
 |.tup xs=>vR xs
 |.fl xs=>vR xs
 |.ref i=>match G[i]? with
  |some (.lst xs)=>vR xs
  |_=>vS
 |_=>vS
theorem size6:(1000000:Nat)<=sizeLine:=by decide
section
variable{X:Cx}{E:XK}{a b c:xY}{ta tb tc:DE}{pos:Pos}
theorem two{f:D->D->DH->R D}(h:lE K E (dOp f ta tb) σ H Q):tOp (lR2 K E f) (lE K E ta) (lE K E tb) σ H Q:=by obtain⟨a,S,G,hk,rfl,s,r,h⟩:=h;refine⟨a,S,G,hk,rfl,s,r,(Dj h).imp ?_⟩;rintro v _ ⟨b,d,G1,rfl,x,s1,q,_,h1⟩;refine⟨b,S,G1,x.k.trans hk,rfl,s1,r.mono x,(Dj h1).imp ?_⟩;rintro w _ ⟨c,e,G2,rfl,y,s2,q2,_,h2⟩;exact⟨c,G2,d,e,y.k.trans (x.k.trans hk),rfl,s2,q.mono y,q2,h2⟩
theorem Aa(i:Nat){pos:Pos}(hN:X.N[i]?=vR x:=by rfl)(hv:Vis X.env.scope x:=by first|exact Or.inl rfl|exact Or.inr (Or.inl rfl)|exact Or.inr (Or.inr rfl))(hd:(x==("__debug__":Str))=vU:=by decide)
  (hcd:(x==("__classdict__":Str))=vU:=by decide):QE X E (.Name x pos) (dV i):=by
 refine(Oh hN hv hd hcd).mono λσ H Q h=>?_
 obtain⟨a,S,G,hk,rfl,s,r,h⟩:=h;unfold dV at h;split at h
 ·rename_i d e;obtain⟨v,e',q⟩:=r.get i d e;exact⟨v,e',h a v (Ext.refl a) s q⟩
 ·exact h.elim
theorem Ni(h:lE K E (dC d) σ H Q)(r:∀a:Wd,a.K=K->Rep a d v):Q v H:=by obtain⟨a,S,G,hk,rfl,s,_,h⟩:=h;exact h a v (Ext.refl a) s (r a hk)
theorem Ah{i:Int}:QE X E (.Constant (.int i) j pos) (dC (.int i)):=ZMS.mono λσ H Q h=>Ni h λ_ _=>rfl
theorem Ma{i:Bool}:QE X E (.Constant (.bool i) j pos) (dC (.bl i)):=ZIm.mono λσ H Q h=>Ni h λ_ _=>rfl
theorem Eb:QE X E (.Constant .none j pos) (dC .non):=ZLZ.mono λσ H Q h=>Ni h λ_ _=>rfl
theorem Ut{i:Str}:QE X E (.Constant (.str i) j pos) (dC (.str i)):=W8.mono λσ H Q h=>Ni h λ_ _=>rfl
theorem Hg{u:xB}(hg:Gl X x)(hm:X.mg x=vR u)(r:RelV v u)(rd:∀a:Wd,a.K=X.K->Rep a d v)(hd:(x==("__debug__":Str))=vU:=by decide):QE X E (.Name x pos) (dC d):=
 (ZAE hg hm r hd).mono λσ H Q h=>Ni h rd
theorem An{op:Operator}{f:D->D->DH->R D}(ho:OpR X (xI op) (lR2 X.K E f))(ha:QE X E a ta)(hb:QE X E b tb):QE X E (.BinOp a op b pos) (dOp f ta tb):=
 (ZGO ho ha hb).mono λ_ _ _ h=>two h
theorem Mp{f:D->D->DH->R D}(ho:OpR X (xP op) (lR2 X.K E f))(ha:QE X E a ta)(hb:QE X E b tb)(hm:xH op b=vU):QE X E (.Compare a [op] [b] pos) (dOp f ta tb):=
 (ZFZ ho ha hb hm).mono λ_ _ _ h=>two h
theorem ZAc{Q:Bool->Hp->Prop}(h:lB K E (Bc t) σ H Q):Ou (lE K E t) σ H Q:=by
 obtain⟨a,S,G,hk,rfl,s,r,h⟩:=h;refine⟨a,S,G,hk,rfl,s,r,(ZKV h).imp ?_⟩;rintro v _ ⟨b,d,G1,rfl,x,s1,q,_,h1⟩;cases d with
 |bl k=>exact⟨k,q,h1 b (Ext.refl b) s1⟩
 |_=>exact h1.elim
theorem ZEr{t t':TE}(w:∀σ H Q,t' σ H Q->t σ H Q)(σ:St)(H:Hp)(Q:Bool->Hp->Prop)(h:Ou t' σ H Q):Ou t σ H Q:=w _ _ _ h
theorem Cm{f:D->D->DH->R D}(ho:OpR X (xP op) (lR2 X.K E f))(ha:QE X E a ta)(hb:QE X E b tb)(hm:xH op b=vU):QT X E (.Compare a [op] [b] pos) (Bc (dOp f ta tb)):=
 (ZGK ho ha hb hm).mono λσ H Q h=>ZEr (λ_ _ _ z=>two z) σ H Q (ZAc h)
theorem chain{f g:D->D->DH->R D}(h:lE K E (Ro f g ta tb tc) σ H Q):ZEW (lR2 K E f) (lR2 K E g) (lE K E ta) (lE K E tb) (lE K E tc) σ H Q:=by
 obtain⟨a,S,G,hk,rfl,s,r,h⟩:=h;refine⟨a,S,G,hk,rfl,s,r,(Dj h).imp ?_⟩;rintro v _ ⟨b,d,G1,rfl,x,s1,q,_,h1⟩;refine⟨b,S,G1,x.k.trans hk,rfl,s1,r.mono x,(Dj h1).imp ?_⟩;rintro w _ ⟨c,e,G2,rfl,y,s2,q2,_,h2⟩;refine⟨c,G2,d,e,y.k.trans (x.k.trans hk),rfl,s2,q.mono y,q2,(Dj h2).imp ?_⟩;rintro z _ ⟨c3,e3,G3,rfl,y3,s3,q3,_,h3⟩;cases e3 with
 | bl k=>
  refine⟨k,q3,?_⟩;cases k with
  |false=>exact h3 c3 (.bl vU) (Ext.refl _) s3 rfl
  |true=>
   refine⟨c3,S,G3,(y3.k.trans (y.k.trans (x.k.trans hk))),rfl,s3,((r.mono x).mono y).mono y3,(Dj h3).imp ?_⟩;rintro z4 _ ⟨c4,e4,G4,rfl,y4,s4,q4,_,h4⟩;exact⟨c4,G4,e,e4,y4.k.trans (y3.k.trans (y.k.trans (x.k.trans hk))),rfl,s4,(q2.mono y3).mono y4,q4,h4⟩
 |_=>exact h3.elim
theorem ZFB{op':CmpOp}{f g:D->D->DH->R D}(ho:OpR X (xP op) (lR2 X.K E f))(ho':OpR X (xP op') (lR2 X.K E g))(ha:QE X E a ta)(hb:QE X E b tb)(hc:QE X E c tc)
  (hm:lastMarks [op,op'] [b,c]=vU:=by with_unfolding_all rfl):QT X E (.Compare a [op,op'] [b,c] pos) (Bc (Ro f g ta tb tc)):=
 (ZK8 ho ho' ha hb hc hm).mono λσ H Q h=>ZEr (λ_ _ _ z=>chain z) σ H Q (ZAc h)
theorem J6(ha:QE X E a ta)(he:∀whole,isTrue a X.env whole=(do let v<-whole;standAt a.pos;holding [v] (truthy v)):=by intro _;rfl):QT X E a (Bc ta):=
 (ZKn ha he).mono λσ H Q h=>ZAc h
theorem Ez(ha:QE X E a ta):QE X E a (Cp ta):=_L.PE.mono ha λσ H Q h=>by obtain⟨w,S,G,hk,rfl,s,r,h⟩:=h;exact⟨w,S,G,hk,rfl,s,r,Ph s h⟩
def QW(X:Cx)(E:XK)(e:xY)(t:DB):Prop:=PW X e (lB X.K E t)
theorem _root_._L.PW.mono{t t':TT}(h:PW X e t)(w:∀σ H Q,t' σ H Q->t σ H Q):PW X e t':=λwh pins s σ H Q I q=>h wh pins s σ H Q I (w σ H Q q)
variable{u t:DB}{rest:List xY}
theorem ZJx{Q:Bool->Hp->Prop}(h:lB K E (Qd t u) σ H Q):tAnd (lB K E t) (lB K E u) σ H Q:=by
 obtain⟨a,S,G,hk,rfl,s,r,h⟩:=h;refine⟨a,S,G,hk,rfl,s,r,(Yt h).imp ?_⟩;rintro k _ ⟨b,G1,rfl,x,s1,_,h1⟩;cases k with
 |true=>exact⟨b,S,G1,x.k.trans hk,rfl,s1,r.mono x,h1⟩
 |false=>exact h1 b (Ext.refl b) s1
theorem ZIH{Q:Bool->Hp->Prop}(h:lB K E (dOr t u) σ H Q):tOr (lB K E t) (lB K E u) σ H Q:=by
 obtain⟨a,S,G,hk,rfl,s,r,h⟩:=h;refine⟨a,S,G,hk,rfl,s,r,(Yt h).imp ?_⟩;rintro k _ ⟨b,G1,rfl,x,s1,_,h1⟩;cases k with
 |true=>exact h1 b (Ext.refl b) s1
 |false=>exact⟨b,S,G1,x.k.trans hk,rfl,s1,r.mono x,h1⟩
theorem ZDM(ha:QT X E a t):QW X E (.BoolOp .And [a] pos) t:=pw_and1 ha
theorem Ve(ha:QT X E a t):QW X E (.BoolOp .Or [a] pos) t:=pw_or1 ha
theorem ZCz(ha:QT X E a t)(hb:QW X E (.BoolOp .And (b::rest) pos) u):QW X E (.BoolOp .And (a::b::rest) pos) (Qd t u):=(pw_and ha hb).mono λ_ _ _ h=>ZJx h
theorem ZAN(ha:QT X E a t)(hb:QW X E (.BoolOp .Or (b::rest) pos) u):QW X E (.BoolOp .Or (a::b::rest) pos) (dOr t u):=(pw_or ha hb).mono λ_ _ _ h=>ZIH h
theorem Qk(h:QW X E a t):QT X E a t:=_L.PW.pt h
theorem Nt(ha:QT X E a t):QT X E (.UnaryOp .Not a pos) (Lh t):=(ZJQ ha).mono λσ H Q h=>by obtain⟨a,S,G,hk,rfl,s,r,h⟩:=h;refine⟨a,S,G,hk,rfl,s,r,(Yt h).imp ?_⟩;rintro k _ ⟨b,G1,rfl,x,s1,_,h1⟩;exact h1 b (Ext.refl b) s1
theorem Tz{op}(h:QE X E a ta):QE X E (.BoolOp op [a] pos) ta:=ZFd h
theorem Rt(ha:QE X E a ta)(hb:QE X E (.BoolOp .And (b::rest) pos) tb):QE X E (.BoolOp .And (a::b::rest) pos) (M5 ta tb):=(ZKZ ha hb).mono λσ H Q h=>by
 obtain⟨a,S,G,hk,rfl,s,r,h⟩:=h;refine⟨a,S,G,hk,rfl,s,r,(Dj h).imp ?_⟩;rintro v _ ⟨b,d,G1,rfl,x,s1,q,_,h1⟩;cases d with
 |bl k=>
  refine⟨k,q,?_⟩;cases k with
  |true=>exact⟨b,S,G1,x.k.trans hk,rfl,s1,r.mono x,h1⟩
  |false=>exact h1 b _ (Ext.refl b) s1 rfl
 |_=>exact h1.elim
theorem ZKI(ha:QE X E a ta):QE X E (.UnaryOp .Not a pos) (Wb ta):=(ZJk ha).mono λσ H Q h=>by
 obtain⟨a,S,G,hk,rfl,s,r,h⟩:=h;refine⟨a,S,G,hk,rfl,s,r,(Dj h).imp ?_⟩;rintro v _ ⟨b,d,G1,rfl,x,s1,q,_,h1⟩;cases d with
 |bl k=>exact⟨k,q,h1 b _ (Ext.refl b) s1 rfl⟩
 |_=>exact h1.elim
theorem ZDH(hc:QT X E c t)(ha:QE X E a ta)(hb:QE X E b tb):QE X E (.IfExp c a b pos) (dIf t ta tb):=(ZJD hc ha hb).mono λσ H Q h=>by
 obtain⟨a,S,G,hk,rfl,s,r,h⟩:=h;refine⟨a,S,G,hk,rfl,s,r,(ZB4 h).imp ?_⟩;rintro k _ ⟨b,G1,rfl,x,s1,_,h1⟩;cases k with
 |true=>exact⟨b,S,G1,x.k.trans hk,rfl,s1,r.mono x,h1⟩
 |false=>exact⟨b,S,G1,x.k.trans hk,rfl,s1,r.mono x,h1⟩
variable{es:List xY}{tr:DA}
theorem Ai:QA X E [] Ag:=Pg.mono λσ H Q h=>by obtain⟨a,S,G,hk,rfl,s,r,h⟩:=h;exact h a [] (Ext.refl a) s rfl
noncomputable def notStar:xY->Bool
 |.Starred _ _=>vU
 |_=>vT
theorem Dz(a:xY)(es:List xY)(env:Env)(h:notStar a=vT):vj (a::es) env=(vU,eval a env)::vj es env:=by
 cases a<;>first
  |exact absurd h zy
  |rfl
theorem Hr(pos:Pos)(env:Env):∀es:List xY,es.all notStar=vT->(xF pos (vj es env)).any (·.1)=vU
 |[],_=>rfl
 |a::es,h=>by
  rw[qU,zB]at h;rw[Dz a es env h.1];have ih:=Hr pos env es h.2;unfold xF at ih⊢;rw[zA,List.any_cons,ih]
  rfl
theorem Ae(ha:QE X E a ta)(hr:QA X E es tr)(hs:notStar a=vT:=by rfl):QA X E (a::es) (Ab ta tr):=(Jd ha hr (Dz a es X.env hs)).mono λσ H Q h=>by obtain⟨a,S,G,hk,rfl,s,r,h⟩:=h;refine⟨a,S,G,hk,rfl,s,r,(ZFG h).imp ?_⟩;rintro v _ ⟨b,d,G1,rfl,x,s1,q,_,h1⟩;refine⟨b,S,G1,x.k.trans hk,rfl,s1,r.mono x,(ZK3 h1).imp ?_⟩;rintro vs _ ⟨c,ds,G2,rfl,y,s2,q2,_,h2⟩;exact h2 c _ (Ext.refl c) s2 (Reps.cons (q.mono y) q2)
theorem Ew{x1}(h:QA X E es tr):QE X E (.Tuple es x1 pos) (dFn Df tr):=(ZCy h).mono λσ H Q h=>by
 obtain⟨a,S,G,hk,rfl,s,r,h⟩:=h;refine⟨a,S,G,hk,rfl,s,r,(Kh h).imp ?_⟩;rintro vs _ ⟨b,ds,G1,rfl,x,s1,q,_,h1⟩;unfold Df at h1;split at h1
 ·rename_i hl;refine⟨by rw[<-q.length];exact z0 hl size6,λp hp=>?_⟩;exact h1 (b.put p (.tup vs)) (.ref p) (Ext.put hp) (s1.put hp) ⟨p,vs,rfl,.of Do,q.mono (Ext.put hp)⟩
 ·exact h1.elim
theorem Eo(h:QA X E es tr):QE X E (.List es pos) (dFn Ar tr):=(ZL8 h).mono λσ H Q h=>by
 obtain⟨a,S,G,hk,rfl,s,r,h⟩:=h;refine⟨a,S,G,hk,rfl,s,r,(Kh h).imp ?_⟩;rintro vs _ ⟨b,ds,G1,rfl,x,s1,q,_,h1⟩;unfold Ar at h1;split at h1
 ·rename_i hl;refine⟨by rw[<-q.length];exact z0 hl size6,λp hp=>?_⟩;refine h1 (b.push p (.lst vs)) (.ref p) (Ext.push hp) (s1.push hp ⟨vs,rfl,q.mono (Ext.push hp)⟩) ⟨?_,?_⟩
  ·rw[s1.len];exact zU _
  ·rw[s1.len];show V.ref p=.ref (if b.n=b.n then p else b.m b.n);rw[if_pos rfl]
 ·exact h1.elim
variable{e:xY}{x:Str}{p:Pos}
theorem Oz{f:List D->DH->R D}(h:lE K E (dFn f tr) σ H Q):lA K E tr σ H (λvs H1=>lRn K E f vs H1 Q):=by obtain⟨a,S,G,hk,rfl,s,r,h⟩:=h;refine⟨a,S,G,hk,rfl,s,r,(Kh h).imp ?_⟩;rintro vs _ ⟨b,ds,G1,rfl,x,s1,q,_,h1⟩;exact⟨b,G1,ds,x.k.trans hk,rfl,s1,q,h1⟩
theorem Ek{id:String}{f:List D->DH->R D}(hc:CallR X (.builtin id) (lRn X.K E f))(hg:Gl X x)(hm:X.mg x=vS)(hv:xL x=vR (.builtin id))(ha:QA X E (e::es) tr)(hn:x≠"__name__":=by decide)(hdb:(x==("__debug__":Str))=vU:=by decide)
  (he:notStar e=vT:=by rfl) (hpl:es.all notStar=vT:=by rfl):QE X E (.Call (.Name x p) (e::es) [] pos) (dFn f tr):=
 (Vq hc hg hm hv ha hn hdb (Dz e es X.env he) (Hr pos X.env es hpl)).mono λσ H Q h=>Oz h
theorem Jl{id:String}{f:List D->DH->R D}(hc:CallR X (.type id) (lRn X.K E f))(hg:Gl X x)(hm:X.mg x=vS)(hv:xL x=vR (.type id))(ha:QA X E (e::es) tr)(hn:x≠"__name__":=by decide)(hdb:(x==("__debug__":Str))=vU:=by decide)
  (he:notStar e=vT:=by rfl) (hpl:es.all notStar=vT:=by rfl):QE X E (.Call (.Name x p) (e::es) [] pos) (dFn f tr):=
 (ZJ7 hc hg hm hv ha hn hdb (Dz e es X.env he) (Hr pos X.env es hpl)).mono λσ H Q h=>Oz h
theorem ZLR{CX:CXT}{f:xW}{fd:xq}{ps:List Str}{F:List D->DH->R D}(FF:FnOk X.prog X.w X.K X.mg X.base CX k f fd ps (lF X.K F))(hr:Room k X.A)(hg:Gl X x)(hm:X.mg x=vR (.ref f))(hk:PySem.W.keepIn X.K (.ref f)=vT)(hb:Binds X.K fd ps [])
  (hx:Passes CX X E0) (ha:QA X E0 (e::es) tr) (hdb:(x==("__debug__":Str))=vU:=by decide) (he:notStar e=vT:=by rfl) (hpl:es.all notStar=vT:=by rfl):
  QE X E0 (.Call (.Name x p) (e::es) [] pos) (dFn F tr):=
 (ZDq FF hr hg hm hk hb .nil hx ha hdb (Dz e es X.env he) (Hr pos X.env es hpl)).mono λσ H Q h=>by obtain⟨a,S,G,hk,rfl,s,r,h⟩:=Oz h;refine⟨a,S,G,hk,rfl,s,r,h.imp ?_⟩;rintro vs _ ⟨b,G1,ds,hk,rfl,s1,q,h1⟩;exact⟨b,G1,ds,hk,rfl,s1,by rw[zP];exact q,h1⟩
theorem Bh{f:D->D->DH->R D}(hr:IxR X (lR2 X.K E f))(ha:QE X E a ta)(hb:QE X E b tb)(hs:PlainIx b:=by intro _ _;rfl):QE X E (.Subscript a b pos) (dOp f ta tb):=
 (ZG8 hr ha hb hs).mono λ_ _ _ h=>two h
end
noncomputable instance (i j:Int):Decidable (CMul i j):=by unfold CMul;infer_instance
noncomputable instance (i j:Int):Decidable (CPow i j):=by unfold CPow;infer_instance
def CDivL(j:Int):Prop:=0<j/\j.natAbs.log2<9000
noncomputable instance (j:Int):Decidable (CDivL j):=by unfold CDivL;infer_instance
def Dq:D->D->DH->R D
 |.int i,.int j,G=>.ok (.int (i-j)) G
 |_,_,_=>.bad
def Cg:D->D->DH->R D
 |.int i,.int j,G=>if CMul i j then .ok (.int (i*j)) G else .bad
 |_,_,_=>.bad
def Fl:D->D->DH->R D
 |.int i,.int j,G=>if CDivL j then .ok (.int (i/j)) G else .bad
 |_,_,_=>.bad
def Ef:D->D->DH->R D
 |.int i,.int j,G=>if 0<j then .ok (.int (i%j)) G else .bad
 |_,_,_=>.bad
def J7:D->D->DH->R D
 |.int i,.int j,G=>if CPow i j then .ok (.int (i^j.toNat)) G else .bad
 |_,_,_=>.bad
def Jj:D->D->DH->R D
 |.int i,.int j,G=>.ok (.bl (decide (i<j))) G
 |.str i,.str j,G=>.ok (.bl (decide (i.cps.toList<j.cps.toList))) G
 |_,_,_=>.bad
def V7:D->D->DH->R D
 |.int i,.int j,G=>.ok (.bl (decide (i<=j))) G
 |.str i,.str j,G=>.ok (.bl (!decide (j.cps.toList<i.cps.toList))) G
 |_,_,_=>.bad
def Sg:D->D->DH->R D
 |.int i,.int j,G=>.ok (.bl (decide (j<i))) G
 |.str i,.str j,G=>.ok (.bl (decide (j.cps.toList<i.cps.toList))) G
 |_,_,_=>.bad
noncomputable def Gp(d:D)(G:DH):Option (List D):=match d with
 |.fl xs=>vR xs
 |.ref i=>match G[i]? with
  |some (.lst xs)=>vR xs
  |_=>vS
 |_=>vS
def Bb:D->D->DH->R D
 |.int i,.int j,G=>.ok (.int (i+j)) G
 |.str i,.str j,G=>if i.length+j.length<=1000000 then .ok (.str (i++j)) G else .bad
 |.tup xs,.tup ys,G=>if xs≠[]/\xs.length+ys.length<=1000000 then .ok (.tup (xs++ys)) G else .bad
 |d,e,G=>match Gp d G,Gp e G with
  |some xs,vR ys=>if xs.length+ys.length<=1000000 then .ok (.ref G.length) (G++[.lst (xs++ys)])else .bad
  |_,_=>.bad
section
variable{X:Cx}{E:XK}
theorem Fe{f:xB->xB->Sem xB}{r:R2}{F:D->D->DH->R D}(ho:OpR X f r)
  (h:∀(a:Wd)(G:DH)(d e:D)(x y:V)(Q:VK),a.K=X.K->Sim a G->Rep a d x->Rep a e y->out E a (F d e G) Q->r x y a.H Q):OpR X f (lR2 X.K E F):=
 ho.mono λx y H Q ⟨a,G,d,e,hk,hH,s,rd,re,q⟩=>by subst hH;exact h a G d e x y Q hk s rd re q
theorem Gw:OpR X (xI .Sub) (lR2 X.K E Dq):=Fe ZIt λa G d e x y Q hk s rd re q=>by
 cases d<;>cases e<;>first
  |exact q.elim
  |exact⟨_,_,rd,re,q a _ (Ext.refl a) s rfl⟩
theorem Gq:OpR X (xI .Mult) (lR2 X.K E Cg):=Fe ZGs λa G d e x y Q hk s rd re q=>by
 cases d<;>cases e<;>first
  |exact q.elim
  | (
    rename_i i j;unfold Cg at q;dsimp only at q;split at q
    ·exact⟨_,_,rd,re,by assumption,q a _ (Ext.refl a) s rfl⟩
    ·exact q.elim)
theorem ZJ4:OpR X (xI .FloorDiv) (rI (λ_ j=>CDivL j) λi j=>.int (i/j)):=opI λi j _ _ _ _ _ hc q=>by have e:i.fdiv j=i/j:=Int.fdiv_eq_ediv_of_nonneg _ (xZ hc.1);refine floordiv_int (by have:=hc.1;lia) (by rw[e];exact q) (.inl (PyProof.noPylong_of_log2 hc.2))
theorem Lf:OpR X (xI .FloorDiv) (lR2 X.K E Fl):=Fe ZJ4 λa G d e x y Q hk s rd re q=>by
 cases d<;>cases e<;>first
  |exact q.elim
  | (
    rename_i i j;unfold Fl at q;dsimp only at q;split at q
    ·exact⟨_,_,rd,re,by assumption,q a _ (Ext.refl a) s rfl⟩
    ·exact q.elim)
theorem Fp:OpR X (xI .Mod) (lR2 X.K E Ef):=Fe ZLU λa G d e x y Q hk s rd re q=>by
 cases d<;>cases e<;>first
  |exact q.elim
  | (
    rename_i i j;unfold Ef at q;dsimp only at q;split at q
    ·exact⟨_,_,rd,re,by assumption,q a _ (Ext.refl a) s rfl⟩
    ·exact q.elim)
theorem Nh:OpR X (xI .Pow) (lR2 X.K E J7):=Fe ZLN λa G d e x y Q hk s rd re q=>by
 cases d<;>cases e<;>first
  |exact q.elim
  | (
    rename_i i j;unfold J7 at q;dsimp only at q;split at q
    ·exact⟨_,_,rd,re,by assumption,q a _ (Ext.refl a) s rfl⟩
    ·exact q.elim)
theorem Uq:OpR X (xP .Lt) (lR2 X.K E Jj):=Fe (ZKM.or ZIN) λa G d e x y Q hk s rd re q=>by
 cases d<;>cases e<;>first
  |exact q.elim
  |exact .inl ⟨_,_,rd,re,q a _ (Ext.refl a) s rfl⟩
  |exact .inr ⟨_,_,rd,re,q a _ (Ext.refl a) s rfl⟩
theorem ZGZ:OpR X (xP .LtE) (λx y H Q=>∃i j,x=.str i/\y=.str j/\Q (.bl (!decide (j.cps.toList<i.cps.toList))) H):=by intro pins s σ H x y v u Q I rx ry h;obtain⟨i,j,rfl,rfl,q⟩:=h;obtain⟨t,rfl⟩:=rx;obtain⟨t',rfl⟩:=ry;exact PySem.P.le_str ⟨.bl _,H,I,rfl,q⟩
theorem ZHu:OpR X (xP .Gt) (λx y H Q=>∃i j,x=.str i/\y=.str j/\Q (.bl (decide (j.cps.toList<i.cps.toList))) H):=by intro pins s σ H x y v u Q I rx ry h;obtain⟨i,j,rfl,rfl,q⟩:=h;obtain⟨t,rfl⟩:=rx;obtain⟨t',rfl⟩:=ry;exact PySem.P.gt_str ⟨.bl _,H,I,rfl,q⟩
theorem o_le:OpR X (xP .LtE) (lR2 X.K E V7):=Fe (ZL9.or ZGZ) λa G d e x y Q hk s rd re q=>by
 cases d<;>cases e<;>first
  |exact q.elim
  |exact .inl ⟨_,_,rd,re,q a _ (Ext.refl a) s rfl⟩
  |exact .inr ⟨_,_,rd,re,q a _ (Ext.refl a) s rfl⟩
theorem o_gt:OpR X (xP .Gt) (lR2 X.K E Sg):=Fe (ZFI.or ZHu) λa G d e x y Q hk s rd re q=>by
 cases d<;>cases e<;>first
  |exact q.elim
  |exact .inl ⟨_,_,rd,re,q a _ (Ext.refl a) s rfl⟩
  |exact .inr ⟨_,_,rd,re,q a _ (Ext.refl a) s rfl⟩
theorem Sim.lst(s:Sim a G)(h:G[i]?=vR (.lst xs)):∃vs,a.H (a.m i)=vR (.lst vs)/\Reps a xs vs:=s.obj i _ h
theorem Nf(s:Sim a G)(r:Reps a ds vs)(h:out E a (.ok (.ref G.length) (G++[.lst ds])) Q)(p:xW)(hp:a.H p=vS):Q (.ref p) (upd a.H p (.lst vs)):=by
 refine h (a.push p (.lst vs)) (.ref p) (Ext.push hp) (s.push hp ⟨vs,rfl,r.mono (Ext.push hp)⟩) ⟨?_,?_⟩
 ·rw[s.len];exact zU _
 ·rw[s.len];show V.ref p=.ref (if a.n=a.n then p else a.m a.n);rw[if_pos rfl]
theorem ZCT(s:Sim a G)(r:Reps a ds vs)(h:out E a (.ok (.tup ds) G) Q)(p:xW)(hp:a.H p=vS):Q (.ref p) (upd a.H p (.tup vs)):=
 h (a.put p (.tup vs)) (.ref p) (Ext.put hp) (s.put hp) ⟨p,vs,rfl,.of Do,r.mono (Ext.put hp)⟩
theorem Wx{x:V}(s:Sim a G)(r:Rep a d x)(h:Gp d G=vR xs):∃p vs,x=.ref p/\SqL a.K a.H p vs/\Reps a xs vs:=by
 cases d with
 |fl ys=>
  have e:ys=xs:=Option.some.inj h;subst e;obtain⟨p,vs,e,q,rr⟩:=r;exact⟨p,vs,e,q.sq,rr⟩
 |ref i=>
  unfold Gp at h;dsimp only at h;split at h
  ·rename_i ys hi;have e:ys=xs:=Option.some.inj h;subst e;obtain⟨vs,e1,r1⟩:=s.lst hi;exact⟨a.m i,vs,r.2,.of e1,r1⟩
  ·cases h
 |_=>cases h
def ZBt(K:PySem.W.Frag):R2:=λx y H Q=>∃l b xs zs,x=.ref l/\y=.ref b/\SqL K H l xs/\SqL K H b zs/\xs.length+zs.length<=sizeLine/\∀p,H p=vS->Q (.ref p) (upd H p (.lst (xs++zs)))
theorem ZLM:OpR X (xI .Add) (ZBt X.K):=by
 intro pins s σ H x y v u Q I rx ry h;obtain⟨l,b,xs,zs,rfl,rfl,hH,hB,hz,q⟩:=h;cases rx;cases ry;obtain⟨its,r,p1,_⟩:=I.list hH;obtain⟨its2,r2,p2,_⟩:=I.list hB;obtain⟨⟨cls,dd,data,sl⟩,n,ho,hc,_,hd⟩:=p1;obtain⟨⟨cls2,dd2,data2,sl2⟩,n2,ho2,hc2,_,hd2⟩:=p2;cases hc;cases hd;cases hc2;cases hd2;have hl:=r.length;have hl2:=r2.length;refine concat_meets ⟨_,ho,rfl⟩ ⟨_,ho2,rfl⟩ noFill_list_add seq_list_add PySem.F.slot_list_add PySem.F.entry_list_add (PySem.F.args_list_add_2 _ _) (list_addW l b its.toArray its2.toArray n n2 dd dd2 sl sl2 (by rw[zx,zx];lia)) ⟨ho,ho2,?_⟩
 have ea:its.toArray++its2.toArray=(its++its2).toArray:=by simp
 rw[ea];exact⟨.ref _,_,I.lnew (t':=s.toks) (r.append r2) (by rw[qJ];lia),rfl,q _ I.fresh⟩
theorem Bq:OpR X (xI .Add) (lR2 X.K E Bb):=Fe (ZMK.or (ZJ2.or (ZLM.or ZJn))) λa G d e x y Q hk s rd re q=>by
 have lst:out E a (match Gp d G,Gp e G with
  |some xs,vR ys=>if xs.length+ys.length<=1000000 then .ok (.ref G.length) (G++[.lst (xs++ys)])else .bad
  |_,_=>.bad) Q->ZBt X.K x y a.H Q:=λq=>by
  split at q
  ·rename_i xs ys h1 h2;split at q
   ·rename_i hl;obtain⟨p,vs,e1,q1,r1⟩:=Wx s rd h1;obtain⟨p',vs',e2,q2,r2⟩:=Wx s re h2;rw[hk]at q1 q2;exact⟨p,p',vs,vs',e1,e2,q1,q2,by rw[<-r1.length,<-r2.length];exact z0 hl size6,λp hp=>Nf s (r1.append r2) q p hp⟩
   ·exact q.elim
  ·exact q.elim
 have L:=λq=>Or.inr (a:=rI0 (λi j=>V.int (i+j)) x y a.H Q) (Or.inr (a:=∃i j,x=.str i/\y=.str j/\i.length+j.length<=sizeLine/\Q (.str (i++j)) a.H) (Or.inl (b:=ZD9 X.K x y a.H Q) (lst q)))
 cases d<;>cases e<;>first
  |exact .inl ⟨_,_,rd,re,q a _ (Ext.refl a) s rfl⟩
  |exact L q
  |skip
 ·rename_i i j;unfold Bb at q;dsimp only at q;split at q
  ·rename_i hl;exact .inr (.inl ⟨_,_,rd,re,z0 hl size6,q a _ (Ext.refl a) s rfl⟩)
  ·exact q.elim
 ·rename_i xs ys;unfold Bb at q;dsimp only at q;split at q
  ·rename_i hl;obtain⟨p,vs,e1,h1,r1⟩:=rd;obtain⟨p',vs',e2,h2,r2⟩:=re;rw[hk]at h1 h2;refine .inr (.inr (.inr ⟨p,p',vs,vs',e1,e2,h1,h2,λz=>hl.1 (jx (by rw[r1.length,z];rfl)),by rw[<-r1.length,<-r2.length];exact z0 hl.2 size6,λz=>?_,λ_ p0 hp=>?_⟩))
   ·refine q a (.ref p) (Ext.refl a) s ⟨p,vs,rfl,by rw[hk];exact h1,?_⟩;have e3:ys=[]:=jx (by rw[r2.length,z];rfl);rw[e3,zP];exact r1
   ·exact ZCT s (r1.append r2) q p0 hp
  ·exact q.elim
inductive VD where
 |flat (v:V)
 |lst (xs:List D)
 |tup (xs:List D)
 |bad
def view(G:DH):D->VD
 |.non=>.flat .non
 |.bl b=>.flat (.bl b)
 |.int i=>.flat (.int i)
 |.str x=>.flat (.str x)
 |.ty _=>.bad
 |.tup xs=>.tup xs
 |.fl xs=>.lst xs
 |.ref i=>match G[i]? with
  |some (.lst xs)=>.lst xs
  |_=>.bad
noncomputable def eqZ(f:D->D->Option Bool):List D->List D->Option Bool
 |x::xs,y::ys=>match f x y,eqZ f xs ys with
  |some a,vR b=>vR (a&&b)
  |_,_=>vS
 |_,_=>vR vT
def eqD:Nat->DH->D->D->Option Bool
 |0=>λ_ _ _=>vS
 | n+1=>λG d e=>match view G d,view G e with
  |.flat a,.flat b=>vR (eqV a b)
  |.lst xs,.lst ys=>if xs.length=ys.length then eqZ (eqD n G) xs ys else vR vU
  |.tup xs,.tup ys=>match eqZ (eqD n G) xs ys with
   |some b=>vR (b&&xs.length==ys.length)
   |none=>vS
  |.bad,_=>vS
  |_,.bad=>vS
  |_,_=>vR vU
theorem U7{f:D->D->Option Bool}:∀{xs ys:List D}{k:Bool},eqZ f xs ys=vR k->∃e:Nat->Bool,(∀(j:Nat)(x y:D),xs[j]?=vR x->ys[j]?=vR y->f x y=vR (e j))/\k=(zJ (min xs.length ys.length)).all e
 | [],ys,k,h=>⟨λ_=>vT,λj x y e1 _=>by simp at e1,by
   have h':vR vT=vR k:=by cases ys<;>exact h
   cases h';simp⟩
 |x::xs,[],k,h=>⟨λ_=>vT,λj x y _ e1=>by simp at e1,by have h':vR vT=vR k:=h;cases h';simp⟩
 | x::xs,y::ys,k,h=>by
  unfold eqZ at h;split at h
  ·rename_i a b h1 h2;obtain⟨e,he,hk⟩:=U7 h2;have h':(a&&b)=k:=Option.some.inj h
   refine⟨λj=>match j with |0=>a|j+1=>e j,λj x' y' e1 e2=>?_,?_⟩
   ·cases j with
    |zero=>simp at e1 e2;subst e1;subst e2;exact h1
    |succ j=>exact he j x' y' (by simpa using e1) (by simpa using e2)
   ·rw[<-h',hk];have:min (x::xs).length (y::ys).length=min xs.length ys.length+1:=by simp only[zR];lia
    rw[this,qE,qU,List.all_map]
    rfl
  ·cases h
theorem Qw(s:Sim a G){x:V}(r:Rep a d x):match view G d with
  |.flat v=>x=v/\De v=vT
  |.lst xs=>∃p vs,x=.ref p/\SqL a.K a.H p vs/\Reps a xs vs
  |.tup xs=>∃p vs,x=.ref p/\SqT a.K a.H p vs/\Reps a xs vs
  |.bad=>True:=by
 cases d with
 |non=>exact⟨r,rfl⟩
 |bl b=>exact⟨r,rfl⟩
 |int b=>exact⟨r,rfl⟩
 |str b=>exact⟨r,rfl⟩
 |ty n=>trivial
 |tup xs=>
  obtain⟨p,vs,e,h,q⟩:=r;exact⟨p,vs,e,h,q⟩
 |fl xs=>
  obtain⟨p,vs,e,h,q⟩:=r;exact⟨p,vs,e,h.sq,q⟩
 | ref i=>
  unfold view;dsimp only;split
  ·rename_i v hv
   split at hv<;>cases hv
  ·rename_i xs hv;split at hv
   ·rename_i ys hi;cases hv;obtain⟨vs,e1,r1⟩:=s.lst hi;exact⟨a.m i,vs,r.2,.of e1,r1⟩
   ·cases hv
  ·rename_i xs hv
   split at hv<;>cases hv
  ·trivial
theorem ZLq{x:V}{u v:xB}(ry:RelV y u)(rx:RelV x v)(fy:De y=vT)(fx:De x=vT):SeqAt.RcAt A s u v (eqV y x):=by
 cases y with
 |non=>
  cases ry;cases x with
  |non=>cases rx;exact SeqAt.RcAt.none_none
  |bl b=>cases rx;exact SeqAt.RcAt.none_bool b
  |int b=>obtain⟨t,rfl⟩:=rx;exact SeqAt.RcAt.none_int b t
  |str b=>obtain⟨t,rfl⟩:=rx;exact SeqAt.RcAt.none_str b t
  |_=>exact absurd (show vU=vT from fx) zy
 |bl a=>
  cases ry;cases x with
  |non=>cases rx;exact SeqAt.RcAt.bool_none a
  |bl b=>cases rx;exact SeqAt.RcAt.bool_bool a b
  |int b=>obtain⟨t,rfl⟩:=rx;exact SeqAt.RcAt.bool_int a b t
  |str b=>obtain⟨t,rfl⟩:=rx;exact SeqAt.RcAt.bool_str a b t
  |_=>exact absurd (show vU=vT from fx) zy
 |int a=>
  obtain⟨t',rfl⟩:=ry;cases x with
  |non=>cases rx;exact SeqAt.RcAt.int_none a t'
  |bl b=>cases rx;exact SeqAt.RcAt.int_bool a t' b
  |int b=>obtain⟨t,rfl⟩:=rx;exact SeqAt.RcAt.int_int a t' b t
  |str b=>obtain⟨t,rfl⟩:=rx;exact SeqAt.RcAt.int_str a t' b t
  |_=>exact absurd (show vU=vT from fx) zy
 |str a=>
  obtain⟨t',rfl⟩:=ry;cases x with
  |non=>cases rx;exact SeqAt.RcAt.str_none a t'
  |bl b=>cases rx;exact SeqAt.RcAt.str_bool a t' b
  |int b=>obtain⟨t,rfl⟩:=rx;exact SeqAt.RcAt.str_int a t' b t
  |str b=>obtain⟨t,rfl⟩:=rx;exact SeqAt.RcAt.str_str a t' b t
  |_=>exact absurd (show vU=vT from fx) zy
 |_=>exact absurd (show vU=vT from fy) zy
theorem ZHt{x:V}{u v:xB}(ry:RelV y u)(rx:RelV x v)(fy:De y=vT)(fx:De x=vT):SeqAt.RcNeAt A s u v (!eqV y x):=by
 cases y with
 |non=>
  cases ry;cases x with
  |non=>cases rx;exact SeqAt.RcNeAt.none_none
  |bl b=>cases rx;exact SeqAt.RcNeAt.none_bool b
  |int b=>obtain⟨t,rfl⟩:=rx;exact SeqAt.RcNeAt.none_int b t
  |str b=>obtain⟨t,rfl⟩:=rx;exact SeqAt.RcNeAt.none_str b t
  |_=>exact absurd (show vU=vT from fx) zy
 |bl a=>
  cases ry;cases x with
  |non=>cases rx;exact SeqAt.RcNeAt.bool_none a
  |bl b=>cases rx;exact SeqAt.RcNeAt.bool_bool a b
  |int b=>obtain⟨t,rfl⟩:=rx;exact SeqAt.RcNeAt.bool_int a b t
  |str b=>obtain⟨t,rfl⟩:=rx;exact SeqAt.RcNeAt.bool_str a b t
  |_=>exact absurd (show vU=vT from fx) zy
 |int a=>
  obtain⟨t',rfl⟩:=ry;cases x with
  |non=>cases rx;exact SeqAt.RcNeAt.int_none a t'
  |bl b=>cases rx;exact SeqAt.RcNeAt.int_bool a t' b
  |int b=>obtain⟨t,rfl⟩:=rx;exact SeqAt.RcNeAt.int_int a t' b t
  |str b=>obtain⟨t,rfl⟩:=rx;exact SeqAt.RcNeAt.int_str a t' b t
  |_=>exact absurd (show vU=vT from fx) zy
 |str a=>
  obtain⟨t',rfl⟩:=ry;cases x with
  |non=>cases rx;exact SeqAt.RcNeAt.str_none a t'
  |bl b=>cases rx;exact SeqAt.RcNeAt.str_bool a t' b
  |int b=>obtain⟨t,rfl⟩:=rx;exact SeqAt.RcNeAt.str_int a t' b t
  |str b=>obtain⟨t,rfl⟩:=rx;exact SeqAt.RcNeAt.str_str a t' b t
  |_=>exact absurd (show vU=vT from fx) zy
 |_=>exact absurd (show vU=vT from fy) zy
end
section
variable{X:Cx}{E:XK}{pins:List (xW×Obj)}{σ:St}{s:xy}
theorem ZIg(v:V)(h:De v=vT):eqV v v=vT:=by cases v<;>first|rfl|exact absurd (show vU=vT from h) zy|(simp[eqV])
theorem ZBr(I:Inv X pins σ a.H s)(hk:a.K=X.K)(sm:Sim a G):∀(n:Nat){d e:D}{x:V}{k:Bool},Rep a d x->Rep a e x->eqD n G d e=vR k->k=vT
 |0,_,_,_,_,_,_,h=>by cases h
 | n+1,d,e,x,k,rd,re,h=>by
  have vd:=Qw sm rd;have ve:=Qw sm re;have items:∀{xs ys:List D}{vs:List V}{b:Bool},Reps a xs vs->Reps a ys vs->eqZ (eqD n G) xs ys=vR b->b=vT:=λ{xs ys vs b}r1 r2 hz=>by obtain⟨f,hf,hb⟩:=U7 hz;rw[hb,j6];intro j hj;have hj':j<min xs.length ys.length:=qX.mp hj;have h1:xs[j]?=vR (xs[j]'(by lia)):=zY (by lia);have h2:ys[j]?=vR (ys[j]'(by lia)):=zY (by lia);obtain⟨v1,e1,q1⟩:=r1.get h1;obtain⟨v2,e2,q2⟩:=r2.get h2;rw[e1]at e2;cases e2;exact ZBr I hk sm n q1 q2 (hf j _ _ h1 h2)
  unfold eqD at h
  try dsimp only at h
  revert h vd ve
  cases view G d<;>cases view G e<;>intro vd ve h<;>dsimp only at h vd ve<;>first
   |cases h
   |skip
  ·
   rename_i v w;obtain⟨rfl,f1⟩:=vd;obtain⟨rfl,f2⟩:=ve;exact ZIg _ f1
  ·obtain⟨rfl,f1⟩:=vd;obtain⟨p,vs,e1,_⟩:=ve;subst e1;cases f1
  ·obtain⟨rfl,f1⟩:=vd;obtain⟨p,vs,e1,_⟩:=ve;subst e1;cases f1
  ·obtain⟨rfl,f1⟩:=ve;obtain⟨p,vs,e1,_⟩:=vd;subst e1;cases f1
  ·obtain⟨p,vs,e1,h1,r1⟩:=vd;obtain⟨p',vs',e2,h2,r2⟩:=ve;rw[e1]at e2;cases e2;rw[hk]at h1 h2;cases I.Xd h1 h2;split at h
   ·exact items r1 r2 h
   ·rename_i hl;exact absurd (r1.length.trans r2.length.symm) hl
  ·obtain⟨p,vs,e1,h1,r1⟩:=vd;obtain⟨p',vs',e2,h2,r2⟩:=ve;rw[e1]at e2;cases e2;rw[hk]at h1 h2;obtain⟨_,_,pl,_⟩:=I.list h1;obtain⟨_,_,pt,_⟩:=I.tuple h2;exact absurd rfl (SeqAt.ne_of_list_tuple pl.isList pt)
  ·obtain⟨rfl,f1⟩:=ve;obtain⟨p,vs,e1,_⟩:=vd;subst e1;cases f1
  ·obtain⟨p,vs,e1,h1,r1⟩:=vd;obtain⟨p',vs',e2,h2,r2⟩:=ve;rw[e1]at e2;cases e2;rw[hk]at h1 h2;obtain⟨_,_,pl,_⟩:=I.list h2;obtain⟨_,_,pt,_⟩:=I.tuple h1;exact absurd rfl (SeqAt.ne_of_list_tuple pl.isList pt)
  ·obtain⟨p,vs,e1,h1,r1⟩:=vd;obtain⟨p',vs',e2,h2,r2⟩:=ve;rw[e1]at e2;cases e2;rw[hk]at h1 h2;cases I.Uy h1 h2;split at h
   ·rename_i b hz;have h':(b&&_)=k:=Option.some.inj h;rw[<-h',items r1 r2 hz,r1.length,r2.length];simp
   ·cases h
theorem Tv{its:List xB}(r:Reps a xs vs)(q:Vals vs its)(h:j<its.toArray.size):∃d v,xs[j]?=vR d/\Rep a d v/\RelV v its.toArray[j]:=by
 have hl:j<its.length:=by simpa using h
 have h2:j<vs.length:=by rw[q.length];exact hl
 obtain⟨v,e1⟩:∃v,vs[j]?=vR v:=⟨vs[j],zY h2⟩;obtain⟨d,e2,rd⟩:=r.get' e1;obtain⟨u,e3,ru⟩:=q.get e1;have e4:u=its.toArray[j]:=by have:its[j]?=vR its[j]:=zY hl;rw[this]at e3;simpa using(Option.some.inj e3).symm
 exact⟨d,v,e2,rd,by rw[<-e4];exact ru⟩
theorem U8(I:Inv X pins σ a.H s)(hk:a.K=X.K)(sm:Sim a G):∀(n:Nat){A:xK}{d e:D}{x y:V}{u w:xB}{k:Bool},A.units+n<cLine->Rep a d x->Rep a e y->RelV x u->RelV y w->eqD n G d e=vR k->
  SeqAt.EqAt A s u w k/\SeqAt.RcAt A s u w k/\SeqAt.RcNeAt A s u w (!k)
 |0,_,_,_,_,_,_,_,_,_,_,_,_,_,h=>by cases h
 | n + 1,A,d,e,x,y,u,w,k,hu,rd,re,ru,rw',h=>by
  have vd:=Qw sm rd;have ve:=Qw sm re;have hu1:A.units<cLine:=by lia
  have hu2:A.in1.units+n<cLine:=by show A.units+1+n<cLine;lia
  have same:∀{z:V},Rep a d z->Rep a e z->eqD (n+1) G d e=vR k->k=vT:=λr1 r2 r3=>ZBr I hk sm (n+1) r1 r2 r3
  have h0:=h;unfold eqD at h
  try dsimp only at h
  have refs:∀{p q:xW}{k:Bool},(p=q->k=vT)->SeqAt.RcAt A s (.ref p) (.ref q) k->SeqAt.EqAt A s (.ref p) (.ref q) k:=λ{p q k}hs hr=>by
   by_cases e:p=q
   ·rw[hs e,e];exact SeqAt.EqAt.same _
   ·exact SeqAt.EqAt.of_refs e hr
  revert h vd ve
  cases hvd:view G d<;>cases hve:view G e<;>intro vd ve h<;>dsimp only at h vd ve<;>first
   |cases h
   |skip
  ·
   obtain⟨rfl,f1⟩:=vd;obtain⟨rfl,f2⟩:=ve;exact⟨ZCY ru rw' f1 f2,ZLq ru rw' f1 f2,ZHt ru rw' f1 f2⟩
  ·
   obtain⟨rfl,f1⟩:=vd;obtain⟨q,vs,rfl,h2,r2⟩:=ve;cases rw';rw[hk]at h2;obtain⟨its,qv,pl,_⟩:=I.list h2;cases x with
   |non=>cases ru;exact⟨SeqAt.EqAt.none_list pl.isList hu1,SeqAt.RcAt.none_list pl.isList hu1,SeqAt.RcNeAt.none_list pl.isList hu1⟩
   |bl b=>cases ru;exact⟨SeqAt.EqAt.bool_list b pl.isList hu1,SeqAt.RcAt.bool_list b pl.isList hu1,SeqAt.RcNeAt.bool_list b pl.isList hu1⟩
   |int b=>obtain⟨t,rfl⟩:=ru;exact⟨SeqAt.EqAt.int_list b t pl.isList hu1,SeqAt.RcAt.int_list b t pl.isList hu1,SeqAt.RcNeAt.int_list b t pl.isList hu1⟩
   |str b=>obtain⟨t,rfl⟩:=ru;exact⟨SeqAt.EqAt.str_list b t pl.isList hu1,SeqAt.RcAt.str_list b t pl.isList hu1,SeqAt.RcNeAt.str_list b t pl.isList hu1⟩
   |_=>exact absurd (show vU=vT from f1) zy
  ·
   obtain⟨rfl,f1⟩:=vd;obtain⟨q,vs,rfl,h2,r2⟩:=ve;cases rw';rw[hk]at h2;obtain⟨its,qv,pl,_⟩:=I.tuple h2;cases x with
   |non=>cases ru;exact⟨SeqAt.EqAt.none_tuple pl hu1,SeqAt.RcAt.none_tuple pl hu1,SeqAt.RcNeAt.none_tuple pl hu1⟩
   |bl b=>cases ru;exact⟨SeqAt.EqAt.bool_tuple b pl hu1,SeqAt.RcAt.bool_tuple b pl hu1,SeqAt.RcNeAt.bool_tuple b pl hu1⟩
   |int b=>obtain⟨t,rfl⟩:=ru;exact⟨SeqAt.EqAt.int_tuple b t pl hu1,SeqAt.RcAt.int_tuple b t pl hu1,SeqAt.RcNeAt.int_tuple b t pl hu1⟩
   |str b=>obtain⟨t,rfl⟩:=ru;exact⟨SeqAt.EqAt.str_tuple b t pl hu1,SeqAt.RcAt.str_tuple b t pl hu1,SeqAt.RcNeAt.str_tuple b t pl hu1⟩
   |_=>exact absurd (show vU=vT from f1) zy
  ·
   obtain⟨rfl,f1⟩:=ve;obtain⟨q,vs,rfl,h2,r2⟩:=vd;cases ru;rw[hk]at h2;obtain⟨its,qv,pl,_⟩:=I.list h2;cases y with
   |non=>cases rw';exact⟨SeqAt.EqAt.list_none pl.isList hu1,SeqAt.RcAt.list_none pl.isList hu1,SeqAt.RcNeAt.list_none pl.isList hu1⟩
   |bl b=>cases rw';exact⟨SeqAt.EqAt.list_bool b pl.isList hu1,SeqAt.RcAt.list_bool b pl.isList hu1,SeqAt.RcNeAt.list_bool b pl.isList hu1⟩
   |int b=>obtain⟨t,rfl⟩:=rw';exact⟨SeqAt.EqAt.list_int b t pl.isList hu1,SeqAt.RcAt.list_int b t pl.isList hu1,SeqAt.RcNeAt.list_int b t pl.isList hu1⟩
   |str b=>obtain⟨t,rfl⟩:=rw';exact⟨SeqAt.EqAt.list_str b t pl.isList hu1,SeqAt.RcAt.list_str b t pl.isList hu1,SeqAt.RcNeAt.list_str b t pl.isList hu1⟩
   |_=>exact absurd (show vU=vT from f1) zy
  ·
   obtain⟨p,vs,rfl,h1,r1⟩:=vd;obtain⟨q,vs',rfl,h2,r2⟩:=ve;cases ru;cases rw';rw[hk]at h1 h2;obtain⟨its,q1,p1,_⟩:=I.list h1;obtain⟨its',q2,p2,_⟩:=I.list h2;have sz1:its.toArray.size=vs.length:=by rw[zx];exact q1.length.symm
   have sz2:its'.toArray.size=vs'.length:=by rw[zx];exact q2.length.symm
   split at h
   ·rename_i hl;obtain⟨f,hf,hb⟩:=U7 h;have hsz:its.toArray.size=its'.toArray.size:=by rw[sz1,sz2,<-r1.length,<-r2.length];exact hl
    have he:∀j(g1:j<its.toArray.size)(g2:j<its'.toArray.size),SeqAt.EqAt A.in1 s its.toArray[j] its'.toArray[j] (f j):=λj g1 g2=>by obtain⟨d1,v1,e1,rd1,rv1⟩:=Tv r1 q1 g1;obtain⟨d2,v2,e2,rd2,rv2⟩:=Tv r2 q2 g2;exact(U8 I hk sm n hu2 rd1 rd2 rv1 rv2 (hf j d1 d2 e1 e2)).1
    have hk':k=(zJ its.toArray.size).all f:=by
     rw[hb]
     congr 2
     rw[sz1,<-r1.length,hl];lia
    have rc:SeqAt.RcAt A s (.ref p) (.ref q) k:=by rw[hk'];exact SeqAt.RcAt.lists p1.isList p2.isList hsz hu1 he
    refine⟨refs (λe=>?_) rc,rc,by rw[hk'];exact SeqAt.RcNeAt.lists p1.isList p2.isList hsz hu1 he⟩;subst e;exact same rd re h0
   ·rename_i hl;have h':vU=k:=Option.some.inj h;subst h';have hsz:(its.toArray.size != its'.toArray.size)=vT:=by rw[bne_iff_ne,sz1,sz2,<-r1.length,<-r2.length];exact hl
    refine⟨refs (λe=>?_) (SeqAt.RcAt.lists_lengths p1.isList p2.isList hsz hu1),SeqAt.RcAt.lists_lengths p1.isList p2.isList hsz hu1,SeqAt.RcNeAt.lists_lengths p1.isList p2.isList hsz hu1⟩;subst e;exact same rd re h0
  ·
   obtain⟨p,vs,rfl,h1,r1⟩:=vd;obtain⟨q,vs',rfl,h2,r2⟩:=ve;cases ru;cases rw';rw[hk]at h1 h2;obtain⟨its,q1,p1,_⟩:=I.list h1;obtain⟨its',q2,p2,_⟩:=I.tuple h2;exact⟨SeqAt.EqAt.list_tuple p1.isList p2 hu1,SeqAt.RcAt.list_tuple p1.isList p2 hu1,SeqAt.RcNeAt.list_tuple p1.isList p2 hu1⟩
  ·
   obtain⟨rfl,f1⟩:=ve;obtain⟨q,vs,rfl,h2,r2⟩:=vd;cases ru;rw[hk]at h2;obtain⟨its,qv,pl,_⟩:=I.tuple h2;cases y with
   |non=>cases rw';exact⟨SeqAt.EqAt.tuple_none pl hu1,SeqAt.RcAt.tuple_none pl hu1,SeqAt.RcNeAt.tuple_none pl hu1⟩
   |bl b=>cases rw';exact⟨SeqAt.EqAt.tuple_bool b pl hu1,SeqAt.RcAt.tuple_bool b pl hu1,SeqAt.RcNeAt.tuple_bool b pl hu1⟩
   |int b=>obtain⟨t,rfl⟩:=rw';exact⟨SeqAt.EqAt.tuple_int b t pl hu1,SeqAt.RcAt.tuple_int b t pl hu1,SeqAt.RcNeAt.tuple_int b t pl hu1⟩
   |str b=>obtain⟨t,rfl⟩:=rw';exact⟨SeqAt.EqAt.tuple_str b t pl hu1,SeqAt.RcAt.tuple_str b t pl hu1,SeqAt.RcNeAt.tuple_str b t pl hu1⟩
   |_=>exact absurd (show vU=vT from f1) zy
  ·
   obtain⟨p,vs,rfl,h1,r1⟩:=vd;obtain⟨q,vs',rfl,h2,r2⟩:=ve;cases ru;cases rw';rw[hk]at h1 h2;obtain⟨its,q1,p1,_⟩:=I.tuple h1;obtain⟨its',q2,p2,_⟩:=I.list h2;exact⟨SeqAt.EqAt.tuple_list p1 p2.isList hu1,SeqAt.RcAt.tuple_list p1 p2.isList hu1,SeqAt.RcNeAt.tuple_list p1 p2.isList hu1⟩
  ·
   rename_i xs ys;obtain⟨p,vs,rfl,h1,r1⟩:=vd;obtain⟨q,vs',rfl,h2,r2⟩:=ve;cases ru;cases rw';rw[hk]at h1 h2;obtain⟨its,q1,p1,_⟩:=I.tuple h1;obtain⟨its',q2,p2,_⟩:=I.tuple h2;have sz1:its.toArray.size=xs.length:=by rw[zx,r1.length];exact q1.length.symm
   have sz2:its'.toArray.size=ys.length:=by rw[zx,r2.length];exact q2.length.symm
   split at h
   ·rename_i b hz;have h':(b&&xs.length==ys.length)=k:=Option.some.inj h;obtain⟨f,hf,hb⟩:=U7 hz;have he:∀j(g1:j<its.toArray.size)(g2:j<its'.toArray.size),SeqAt.EqAt A.in1 s its.toArray[j] its'.toArray[j] (f j):=λj g1 g2=>by obtain⟨d1,v1,e1,rd1,rv1⟩:=Tv r1 q1 g1;obtain⟨d2,v2,e2,rd2,rv2⟩:=Tv r2 q2 g2;exact(U8 I hk sm n hu2 rd1 rd2 rv1 rv2 (hf j d1 d2 e1 e2)).1
    have hk':k=((zJ (min its.toArray.size its'.toArray.size)).all f&&its.toArray.size==its'.toArray.size):=by rw[<-h',hb,sz1,sz2]
    have rc:SeqAt.RcAt A s (.ref p) (.ref q) k:=by rw[hk'];exact SeqAt.RcAt.tuples p1 p2 hu1 he
    refine⟨refs (λe=>?_) rc,rc,by rw[hk'];exact SeqAt.RcNeAt.tuples p1 p2 hu1 he⟩;subst e;exact same rd re h0
   ·cases h
def Ed(d e:D)(G:DH):R D:=match eqD 30 G d e with
 |some k=>.ok (.bl k) G
 |none=>.bad
def Hn(d e:D)(G:DH):R D:=match eqD 30 G d e with
 |some k=>.ok (.bl (!k)) G
 |none=>.bad
theorem Ft(hu:X.A.units+64<cLine):OpR X (xP .Eq) (lR2 X.K E Ed):=by
 intro pins s σ H x y v u Q I rx ry ⟨a,G,d,e,hk,hH,sm,rd,re,q⟩;subst hH;unfold Ed at q;split at q
 ·rename_i k hd;exact(U8 I hk sm 30 (by lia) rd re rx ry hd).2.1 _ _ _ _ ⟨.bl k,a.H,I,rfl,q a _ (Ext.refl a) sm rfl⟩
 ·exact q.elim
theorem o_ne(hu:X.A.units+64<cLine):OpR X (xP .NotEq) (lR2 X.K E Hn):=by
 intro pins s σ H x y v u Q I rx ry ⟨a,G,d,e,hk,hH,sm,rd,re,q⟩;subst hH;unfold Hn at q;split at q
 ·rename_i k hd;exact(U8 I hk sm 30 (by lia) rd re rx ry hd).2.2 _ _ _ _ ⟨.bl (!k),a.H,I,rfl,q a _ (Ext.refl a) sm rfl⟩
 ·exact q.elim
end
noncomputable abbrev DG:=D->DSt->DH->R DSt
variable{g:DG}
def Ds(E:XK)(a:Wd)(r:R DSt)(Q:St->Hp->Prop):Prop:=match r with
 |.ok S G=>∀(b:Wd)(σ:St),Ext a b->Sim b G->RepS b S σ->Q σ b.H
 |.err x G=>XOk E a x G
 |.bad=>False
def lG(K:PySem.W.Frag)(E:XK)(t:DG):TG:=λv σ H Q=>∃(a:Wd)(S:DSt)(G:DH)(d:D),a.K=K/\a.H=H/\Sim a G/\RepS a S σ/\Rep a d v/\Ds E a (t d S G) Q
def QG(X:Cx)(E:XK)(tg:xY)(t:DG):Prop:=PG X tg (lG X.K E t)
noncomputable abbrev DGs:=List D->DSt->DH->R DSt
def lGs(K:PySem.W.Frag)(E:XK)(t:DGs):TGs:=λvs σ H Q=>∃(a:Wd)(S:DSt)(G:DH)(ds:List D),a.K=K/\a.H=H/\Sim a G/\RepS a S σ/\Reps a ds vs/\Ds E a (t ds S G) Q
def QGs(X:Cx)(E:XK)(tg:List xY)(t:DGs):Prop:=PGs X tg (lGs X.K E t)
noncomputable def gV(i:Nat):DG:=λd S G=>.ok (S.set i (vR d)) G
noncomputable def Gg:DGs:=λds S G=>match ds with
 |[]=>.ok S G
 |_=>.bad
def Bu(t:DG)(u:DGs):DGs:=λds S G=>match ds with
 |d::r=>(t d S G).bind λS1 G1=>u r S1 G1
 |[]=>.bad
noncomputable def Fg(n:Nat)(t:DGs):DG:=λd S G=>match d with
 |.tup ds=>if ds.length=n then t ds S G else .bad
 |_=>.bad
theorem Ds.imp{r:R DSt}{Q Q':St->Hp->Prop}(h:Ds E a r Q)(w:∀v H,Q v H->Q' v H):Ds E a r Q':=by
 cases r with
 |ok d G=>exact λb v x s q=>w _ _ (h b v x s q)
 |err e G=>exact h
 |bad=>exact h
theorem Ds.mono(x:Ext a b){r:R DSt}{Q:St->Hp->Prop}(h:Ds E a r Q):Ds E b r Q:=by
 cases r with
 |ok d G=>exact λc v y s q=>h c v (x.trans y) s q
 |err e G=>exact XOk.mono (E:=E) (e:=e) (G:=G) x h
 |bad=>exact h
theorem ZF1{r:R DSt}{f:DSt->DH->R DSt}{Q:St->Hp->Prop}(h:Ds E a (r.bind f) Q):
  Ds E a r (λσ H=>∃(b:Wd)(S:DSt)(G:DH),b.H=H/\Ext a b/\Sim b G/\RepS b S σ/\r=.ok S G/\Ds E b (f S G) Q):=by
 cases r with
 |ok d G=>exact λb v x s q=>⟨b,d,G,rfl,x,s,q,rfl,Ds.mono x h⟩
 |err e G=>exact h
 |bad=>exact h
theorem ZCG{f:D->DH->R DSt}{Q:St->Hp->Prop}(h:Ds E a (r.bind f) Q):
  out E a r (λv H=>∃(b:Wd)(d:D)(G:DH),b.H=H/\Ext a b/\Sim b G/\Rep b d v/\r=.ok d G/\Ds E b (f d G) Q):=by
 cases r with
 |ok d G=>exact λb v x s q=>⟨b,d,G,rfl,x,s,q,rfl,Ds.mono x h⟩
 |err e G=>exact h
 |bad=>exact h
theorem ZBE{r:R DSt}{f:DSt->DH->SR}(h:Bm E a (r.toS f) W):
  Ds E a r (λσ H=>∃(b:Wd)(S:DSt)(G:DH),b.H=H/\Ext a b/\Sim b G/\RepS b S σ/\r=.ok S G/\Bm E b (f S G) W):=by
 cases r with
 |ok d G=>exact λb v x s q=>⟨b,d,G,rfl,x,s,q,rfl,Bm.mono x h⟩
 |err e G=>exact h
 |bad=>exact h
section
variable{X:Cx}{E:XK}
theorem _root_._L.PG.mono{t t':TG}(h:PG X e t)(w:∀v σ H Q,t' v σ H Q->t v σ H Q):PG X e t':=λpins s σ H v u Q I r q=>h pins s σ H v u Q I r (w v σ H Q q)
theorem _root_._L.PGs.mono{e:List xY}{t t':TGs}(h:PGs X e t)(w:∀v σ H Q,t' v σ H Q->t v σ H Q):PGs X e t':=λpins s σ H v u Q I r q=>h pins s σ H v u Q I r (w v σ H Q q)
theorem Bs(i:Nat){pos:Pos}(hN:X.N.Nodup)(hi:X.N[i]?=vR x:=by rfl)(hx:Loc X.env.scope x:=by first|exact Or.inl rfl|exact Or.inr rfl)
  (hf:X.fn x=vT∨X.env.scope.names.lookup x=vR .local:=by first|exact .inl rfl|exact .inr rfl|assumption):QG X E (.Name x pos) (gV i):=
 (ZLp hN hi hx hf).mono λv σ H Q h=>by obtain⟨a,S,G,d,hk,rfl,s,r,q,h⟩:=h;exact h a _ (Ext.refl a) s (r.set i q)
theorem Ug:QGs X E [] Gg:=ZG7.mono λvs σ H Q h=>by
 obtain⟨a,S,G,ds,hk,rfl,s,r,q,h⟩:=h;cases ds with
 |nil=>exact⟨q,h a σ (Ext.refl a) s r⟩
 |cons d ds=>exact h.elim
theorem H8{es:List xY}{t:DG}{u:DGs}(h1:QG X E e t)(h2:QGs X E es u)
  (hs:(xD (e::es) X.env).map (·.2)=assign e X.env::(xD es X.env).map (·.2):=by rfl):QGs X E (e::es) (Bu t u):=(ZGz h1 h2 hs).mono λvs σ H Q h=>by
 obtain⟨a,S,G,ds,hk,rfl,s,r,q,h⟩:=h;cases ds with
 |nil=>exact h.elim
 |cons d ds=>
  obtain⟨v,rest,e1,q1,q2⟩:=q;refine⟨v,rest,e1,a,S,G,d,hk,rfl,s,r,q1,(ZF1 h).imp ?_⟩;rintro σ' _ ⟨b,S1,G1,rfl,x,s1,r1,_,h1⟩;exact⟨b,S1,G1,ds,x.k.trans hk,rfl,s1,r1,q2.mono x,h1⟩
theorem Um{es:List xY}{k:Nat}{t:DGs}{pos:Pos}(hc:X.calm=vT)(h:QGs X E es t)
  (hn:(xD es X.env).length=n:=by rfl) (hst:(xD es X.env).findIdx? (·.1)=vS:=by rfl):QG X E (.Tuple es k pos) (Fg n t):=(ZI9 hc h hn hst).mono λv σ H Q h=>by
 obtain⟨a,S,G,d,hk,rfl,s,r,q,h⟩:=h;cases d with
 |tup ds=>
  obtain⟨p,vs,e,h1,r1⟩:=q;unfold Fg at h;dsimp only at h;split at h
  ·rename_i hl;exact⟨p,vs,e,by rw[<-hk];exact h1,by rw[<-r1.length];exact hl,a,S,G,ds,hk,rfl,s,r,r1,h⟩
  ·exact h.elim
 |_=>exact h.elim
def G9(o i v:D)(G:DH):R D:=match o,i with
 | .ref p,.int k=>match G[p]? with
  |some (.lst xs)=>match ixN xs.length k with
   |some j=>.ok .non (G.set p (.lst (xs.set j v)))
   |none=>.bad
  |_=>.bad
 |_,_=>.bad
def gIx(to ti:DE):DG:=λv S G=>(to S G).bind λo G1=>(ti S G1).bind λi G2=>(G9 o i v G2).bind λ_ G3=>.ok S G3
theorem Zj{vs':List V}{ds':List D}(s:Sim a G)(hi:i<a.n)(h:a.H (a.m i)=vR (.lst vs))(r:Reps a ds' vs'):
  Ext a (a.put (a.m i) (.lst vs'))/\Sim (a.put (a.m i) (.lst vs')) (G.set i (.lst ds')):=⟨Ext.wr h,s.wr hi h (r.mono (Ext.wr h))⟩
theorem Wu{o i:xY}{to ti:DE}{pos:Pos}(ho:QE X E o to)(hi:QE X E i ti)
  (ha:∀v,assign (.Subscript o i pos) X.env v=(do
   let ov<-holding [v] (eval o X.env);let iv<-holding [v,ov] (eval i X.env)
   standAt pos
   holding [v,ov,iv] (setItem ov iv v)
   release [v,ov,iv] []):=by intro _;rfl):QG X E (.Subscript o i pos) (gIx to ti):=(ZHx ho hi set_list ha).mono λv σ H Q h=>by
 obtain⟨a,S,G,d,hk,rfl,s,r,q,h⟩:=h;refine⟨a,S,G,hk,rfl,s,r,(ZCG h).imp ?_⟩;rintro ov _ ⟨b,e,G1,rfl,x,s1,q1,_,h1⟩;refine⟨b,S,G1,x.k.trans hk,rfl,s1,r.mono x,(ZCG h1).imp ?_⟩;rintro iv _ ⟨c,f,G2,rfl,y,s2,q2,_,h2⟩;cases e with
 | ref p=>
  cases f with
  | int k=>
   unfold G9 at h2;dsimp only at h2;split at h2
   ·rename_i xs hx;split at h2
    ·rename_i j hj;obtain⟨vs,e1,r1⟩:=s2.lst hx;have q1':=q1.mono y;have rv:=(q.mono x).mono y;obtain⟨x3,s3⟩:=Zj s2 q1'.1 e1 (r1.set rv j);refine⟨c.m p,vs,k,j,q1'.2,q2,e1,by rw[<-r1.length];exact hj,?_⟩;exact h2 _ σ x3 s3 (((r.mono x).mono y).mono x3)
    ·exact h2.elim
   ·exact h2.elim
  |_=>exact h2.elim
 |_=>exact h2.elim
variable{st:xA}{rest:List xA}{t u:DS}{e:xY}{te:DE}{pos:Pos}
noncomputable def sNx:DS:=λS G=>.nx S G
noncomputable def Ak(t u:DS):DS:=λS G=>match t S G with
 |.nx S1 G1=>u S1 G1
 |r=>r
def sEx(te:DE):DS:=λS G=>(te S G).toS λ_ G1=>.nx S G1
def sRt(te:DE):DS:=λS G=>(te S G).toS λd G1=>.rt d G1
def sIf(c:DB)(t u:DS):DS:=λS G=>(c S G).toS λk G1=>if k=vT then t S G1 else u S G1
def sAs(te:DE)(g:DG):DS:=λS G=>(te S G).toS λd G1=>(g d S G1).toS λS2 G2=>.nx S2 G2
theorem Dh:QSs X E [] sNx:=ZHg.mono λW σ H h=>by obtain⟨a,S,G,hk,rfl,s,r,h⟩:=h;exact h a σ (Ext.refl a) s r
theorem Bm.nxOf{t:DS}(hk:a.K=K)(h:Bm E a (Ak t u S G) W):Bm E a (t S G) {W with nx:=lS K E u W}:=by
 unfold Ak at h
 revert h
 cases t S G<;>intro h
 ·exact λb σ x s r=>⟨b,_,_,x.k.trans hk,rfl,s,r,Bm.mono x h⟩
 all_goals exact h
theorem Al(h1:QS X E st t)(h2:QSs X E rest u):QSs X E (st::rest) (Ak t u):=(ZD3 h1 h2).mono λW σ H h=>by obtain⟨a,S,G,hk,rfl,s,r,h⟩:=h;exact⟨a,S,G,hk,rfl,s,r,h.nxOf hk⟩
theorem Ax(h1:QS X E st t):QSs X E [st] t:=ZDU h1
theorem Ga(he:QE X E e te)(hs:swapsWith e vS pos.line X.env=pure vU:=by rfl):QS X E (.Expr e pos) (sEx te):=(ZBZ he hs).mono λW σ H h=>by obtain⟨a,S,G,hk,rfl,s,r,h⟩:=h;refine⟨a,S,G,hk,rfl,s,r,(Gz h).imp ?_⟩;rintro v _ ⟨b,d,G1,rfl,x,s1,q,_,h1⟩;exact h1 b σ (Ext.refl b) s1 (r.mono x)
theorem Bx(he:QE X E e te):QS X E (.Return (vR e) pos) (sRt te):=(ZGl he).mono λW σ H h=>by obtain⟨a,S,G,hk,rfl,s,r,h⟩:=h;refine⟨a,S,G,hk,rfl,s,r,(Gz h).imp ?_⟩;rintro v _ ⟨b,d,G1,rfl,x,s1,q,_,h1⟩;exact h1 b v (Ext.refl b) s1 q
theorem Dc{c:xY}{tc:DB}{a b:List xA}(hc:QT X E c tc)(ha:QSs X E a t)(hb:QSs X E b u):QS X E (.If c a b pos) (sIf tc t u):=(ZLH hc ha hb).mono λW σ H h=>by
 obtain⟨a,S,G,hk,rfl,s,r,h⟩:=h;refine⟨a,S,G,hk,rfl,s,r,(ZA5 h).imp ?_⟩;rintro k _ ⟨b,G1,rfl,x,s1,_,h1⟩;cases k with
 |true=>exact⟨b,S,G1,x.k.trans hk,rfl,s1,r.mono x,h1⟩
 |false=>exact⟨b,S,G1,x.k.trans hk,rfl,s1,r.mono x,h1⟩
theorem ZF5(h:lS K E (sAs te g) W σ H):Yg (lE K E te) (lG K E g) W σ H:=by obtain⟨a,S,G,hk,rfl,s,r,h⟩:=h;refine⟨a,S,G,hk,rfl,s,r,(Gz h).imp ?_⟩;rintro v _ ⟨b,d,G1,rfl,x,s1,q,_,h1⟩;refine⟨b,S,G1,d,x.k.trans hk,rfl,s1,r.mono x,q,(ZBE h1).imp ?_⟩;rintro σ' _ ⟨c,S2,G2,rfl,y,s2,r2,_,h2⟩;exact h2 c σ' (Ext.refl c) s2 r2
theorem Rf(he:QE X E e te)(hg:QG X E tg g)(hs:swapsWithSole [tg] e pos.line X.env=pure vU:=by rfl)(hw:swappedStores [tg] e X.env=pure vS:=by rfl)
  (h1:(xD [tg] X.env).map (·.2)=[assign tg X.env]:=by rfl):QS X E (.Assign [tg] e pos) (sAs te g):=(ZHG he hg hs hw h1).mono λ_ _ _ h=>ZF5 h
theorem Az(i:Nat){pos':Pos}(hN:X.N.Nodup)(he:QE X E e te)(hi:X.N[i]?=vR x:=by rfl)(hx:Loc X.env.scope x:=by first|exact Or.inl rfl|exact Or.inr rfl)(hs:swapsWith e (vR (.Name x pos')) pos.line X.env=pure vU:=by rfl)
  (hf:X.fn x=vT∨X.env.scope.names.lookup x=vR .local:=by first|exact .inl rfl|exact .inr rfl|assumption):QS X E (.Assign [.Name x pos'] e pos) (sAs te (gV i)):=
 (ZLx hN hi hx he hs hf).mono λW σ H h=>by obtain⟨a,S,G,hk,rfl,s,r,h⟩:=h;refine⟨a,S,G,hk,rfl,s,r,(Gz h).imp ?_⟩;rintro v _ ⟨b,d,G1,rfl,x,s1,q,_,h1⟩;exact h1 b _ (Ext.refl b) s1 ((r.mono x).set i q)
def Py:D->D->DH->R D
 |.int i,.int j,G=>.ok (.int (i+j)) G
 |.str i,.str j,G=>if i.length+j.length<=1000000 then .ok (.str (i++j)) G else .bad
 |_,_,_=>.bad
theorem ZBR:OpR X (inplaceOp .Add) (lR2 X.K E Py):=Fe (OpR.or (r:=ipI λi j=>i+j) ZJ1 ZG0) λa G d e x y Q hk s rd re q=>by
 cases d<;>cases e<;>first
  |exact q.elim
  |exact .inl ⟨_,_,rd,re,q a _ (Ext.refl a) s rfl⟩
  | (
    unfold Py at q;dsimp only at q;split at q
    ·rename_i hl;exact .inr ⟨_,_,rd,re,z0 hl size6,q a _ (Ext.refl a) s rfl⟩
    ·exact q.elim)
theorem ZCx:OpR X (inplaceOp .Sub) (lR2 X.K E Dq):=Fe (r:=ipI λi j=>i-j) ZJN λa G d e x y Q hk s rd re q=>by
 cases d<;>cases e<;>first
  |exact q.elim
  |exact⟨_,_,rd,re,q a _ (Ext.refl a) s rfl⟩
end
noncomputable def aft(r:SR)(k:DSt->DH->SR):SR:=match r with
 |.nx S G=>k S G
 |.ct S G=>k S G
 |.bk S G=>.nx S G
 |r=>r
def Bt(g:DG)(b:DS):List D->DS
 |[],S,G=>.nx S G
 |x::xs,S,G=>(g x S G).toS λS1 G1=>aft (b S1 G1) (Bt g b xs)
def forM(i:Nat)(g:DG)(b:DS):Nat->Nat->DS
 |0,j,S,G=>match G[i]? with
  |some (.lst xs)=>if xs.length<=j then .nx S G else .bad
  |_=>.bad
 | k+1,j,S,G=>match G[i]? with
  |some (.lst xs)=>match xs[j]? with
   |some x=>(g x S G).toS λS1 G1=>aft (b S1 G1) (forM i g b k (j+1))
   |none=>.nx S G
  |_=>.bad
def G8(f:Nat->DH->Option (Option D))(g:DG)(b:DS):Nat->Nat->DS
 |0,j,S,G=>match f j G with
  |some vS=>.nx S G
  |_=>.bad
 |k+1,j,S,G=>match f j G with
  |some (vR x)=>(g x S G).toS λS1 G1=>aft (b S1 G1) (G8 f g b k (j+1))
  |some vS=>.nx S G
  |none=>.bad
inductive ItD where
 |pure (xs:List D)
 |mt (i:Nat)
 |fn (n:Nat) (f:Nat->DH->Option (Option D))
noncomputable abbrev DI:=DSt->DH->R ItD
def Es(it:DI)(g:DG)(b:DS):DS:=λS G=>(it S G).toS λJ G1=>match J with
 |.pure xs=>Bt g b xs S G1
 |.mt i=>match G1[i]? with
  |some (.lst xs)=>forM i g b xs.length 0 S G1
  |_=>.bad
 |.fn n f=>G8 f g b n 0 S G1
def RepI(a:Wd):ItD->It->Prop
 |.pure xs,J=>∃vs:List V,Reps a xs vs/\∀b:Wd,Ext a b->∀i,(∀v,vs[i]?=vR v->J.go i b.H/\∀x H',J.yld i b.H x H'->x=v/\H'=b.H)/\(vs.length<=i->J.stop i b.H)
 |.mt k,J=>k<a.n/\∀b:Wd,Ext a b->∀vs,b.H (b.m k)=vR (.lst vs)->∀i,(∀v,vs[i]?=vR v->J.go i b.H/\∀x H',J.yld i b.H x H'->x=v/\H'=b.H)/\(vs.length<=i->J.stop i b.H)
 |.fn _ f,J=>∀b:Wd,Ext a b->∀G,Sim b G->∀i,(∀d,f i G=vR (vR d)->J.go i b.H/\∀x H',J.yld i b.H x H'->∃c:Wd,c.H=H'/\Ext b c/\Sim c G/\Rep c d x)/\(f i G=vR vS->J.stop i b.H)
def outI(E:XK)(a:Wd)(r:R ItD)(Q:It->Hp->Prop):Prop:=match r with
 |.ok J G=>∀(b:Wd)(JJ:It),Ext a b->Sim b G->RepI b J JJ->Q JJ b.H
 |.err x G=>XOk E a x G
 |.bad=>False
def lI(K:PySem.W.Frag)(E:XK)(t:DI):TI:=λσ H Q=>∃(a:Wd)(S:DSt)(G:DH),a.K=K/\a.H=H/\Sim a G/\RepS a S σ/\outI E a (t S G) Q
def QI(X:Cx)(E:XK)(tg iter:xY)(t:DI):Prop:=PI X tg iter (lI X.K E t)
theorem outI.imp{r:R ItD}{Q Q':It->Hp->Prop}(h:outI E a r Q)(w:∀v H,Q v H->Q' v H):outI E a r Q':=by
 cases r with
 |ok d G=>exact λb v x s q=>w _ _ (h b v x s q)
 |err e G=>exact h
 |bad=>exact h
theorem ZJ8{r:R ItD}{f:ItD->DH->SR}(h:Bm E a (r.toS f) W):
  outI E a r (λJ H=>∃(b:Wd)(d:ItD)(G:DH),b.H=H/\Ext a b/\Sim b G/\RepI b d J/\r=.ok d G/\Bm E b (f d G) W):=by
 cases r with
 |ok d G=>exact λb v x s q=>⟨b,d,G,rfl,x,s,q,rfl,Bm.mono x h⟩
 |err e G=>exact h
 |bad=>exact h
theorem ZBT {r:SR} {k:DSt->DH->SR} (h:Bm E a (aft r k) W):
  Bm E a r {W with
            nx:=λσ H=>∃(b:Wd)(S:DSt)(G:DH),b.H=H/\Ext a b/\Sim b G/\RepS b S σ/\Bm E b (k S G) W,
            ct:=λσ H=>∃(b:Wd)(S:DSt)(G:DH),b.H=H/\Ext a b/\Sim b G/\RepS b S σ/\Bm E b (k S G) W,bk:=W.nx}:=by
 cases r with
 |nx S G=>exact λb σ x s q=>⟨b,S,G,rfl,x,s,q,Bm.mono x h⟩
 |ct S G=>exact λb σ x s q=>⟨b,S,G,rfl,x,s,q,Bm.mono x h⟩
 |bk S G=>exact h
 |rt d G=>exact h
 |err x G=>exact h
 |bad=>exact h
noncomputable def mtF(i j:Nat)(G:DH):Option (Option D):=match G[i]? with
 |some (.lst xs)=>vR xs[j]?
 |_=>vS
theorem ZBi{J:It}(r:RepI a (.pure xs) J):RepI a (.fn n λj _=>vR xs[j]?) J:=by
 obtain⟨vs,rv,h⟩:=r;refine λb x G sm i=>⟨λd e=>?_,λe=>?_⟩
 ·obtain⟨v,ev,q⟩:=rv.get (Option.some.inj e);obtain⟨h1,h2⟩:=(h b x i).1 v ev;refine⟨h1,λy H' hy=>?_⟩;obtain⟨rfl,rfl⟩:=h2 y H' hy;exact⟨b,rfl,Ext.refl b,sm,q.mono x⟩
 ·exact(h b x i).2 (by rw[<-rv.length];exact jQ.mp (Option.some.inj e))
theorem ZEx{J:It}(r:RepI a (.mt k) J):RepI a (.fn n (mtF k)) J:=by
 obtain⟨hk,h⟩:=r;refine λb x G sm i=>?_
 unfold mtF;cases hG:G[k]? with
 |none=>exact⟨λd e=>(by cases e),λe=>(by cases e)⟩
 | some o=>
  cases o with
  |lst xs=>
   obtain⟨vs,e1,rv⟩:=sm.lst hG;refine⟨λd e=>?_,λe=>?_⟩
   ·obtain⟨v,ev,q⟩:=rv.get (Option.some.inj e);obtain⟨h1,h2⟩:=(h b x vs e1 i).1 v ev;refine⟨h1,λy H' hy=>?_⟩;obtain⟨rfl,rfl⟩:=h2 y H' hy;exact⟨b,rfl,Ext.refl b,sm,q⟩
   ·exact(h b x vs e1 i).2 (by rw[<-rv.length];exact jQ.mp (Option.some.inj e))
  |_=>exact⟨λd e=>(by cases e),λe=>(by cases e)⟩
theorem ZCU{b:DS}:∀(n j:Nat),j+n=xs.length->Bt g b (xs.drop j)=G8 (λj _=>vR xs[j]?) g b n j
 |0,j,h=>by
  funext S G;rw[qk (by lia)]
  show SR.nx S G=(match vR xs[j]? with |some vS=>SR.nx S G|_=>.bad)
  rw[zH (by lia)]
 |n+1,j,h=>by
  funext S G;have hj:j<xs.length:=by lia
  rw[qG hj]
  show(g xs[j] S G).toS (λS1 G1=>aft (b S1 G1) (Bt g b (xs.drop (j+1))))=(match vR xs[j]? with |some (vR x)=>(g x S G).toS (λS1 G1=>aft (b S1 G1) (G8 (λj _=>vR xs[j]?) g b n (j+1)))|some vS=>SR.nx S G|none=>.bad)
  rw[zY hj,ZCU n (j+1) (by lia)]
theorem ZCZ{b:DS}:∀(n j:Nat),forM i g b n j=G8 (mtF i) g b n j
 | 0,j=>by
  funext S G;unfold forM G8 mtF;cases G[i]? with
  |none=>rfl
  | some o=>
   cases o with
   |lst xs=>
    dsimp only;by_cases hj:j<xs.length
    ·rw[if_neg (by lia),zY hj]
    ·rw[if_pos (by lia),zH (by lia)]
   |_=>rfl
 | n+1,j=>by
  funext S G;unfold forM G8;rw[ZCZ n (j+1)];unfold mtF;cases G[i]? with
  |none=>rfl
  | some o=>
   cases o with
   |lst xs=>
    dsimp only
    cases xs[j]?<;>rfl
   |_=>rfl
section
variable{X:Cx}{E:XK}{tg iter:xY}{pos:Pos}
theorem ZG6{it:DI}{b:DS}(h:lS K E (Es it g b) W σ H):tFor (lI K E it) (lG K E g) (lS K E b) W σ H:=by
 obtain⟨a,S,G,hk,rfl,s,r,h⟩:=h;refine⟨a,S,G,hk,rfl,s,r,(ZJ8 h).imp ?_⟩;rintro J _ ⟨a1,d,G1,rfl,x1,s1,q1,_,h1⟩;have k1:a1.K=K:=x1.k.trans hk
 suffices fnc:∃n f,RepI a1 (.fn n f) J/\Bm E a1 (G8 f g b n 0 S G1) W by
  obtain⟨n,f,q1,h1⟩:=fnc;have walk:∀b:Wd,Ext a1 b->∀G,Sim b G->∀i,(∀d,f i G=vR (vR d)->J.go i b.H/\∀x H',J.yld i b.H x H'->∃c:Wd,c.H=H'/\Ext b c/\Sim c G/\Rep c d x)/\(f i G=vR vS->J.stop i b.H):=q1;refine⟨λi m σ H=>∃(c:Wd)(S:DSt)(G:DH),c.H=H/\Ext a1 c/\Sim c G/\RepS c S σ/\Bm E c (G8 f g b m i S G) W,⟨_,a1,S,G1,rfl,Ext.refl _,s1,r.mono x1,h1⟩,?_⟩;rintro i m σ2 _ ⟨c,S2,G2,rfl,x2,s2,r2,h2⟩
  cases m with
  |zero=>
   unfold G8 at h2;split at h2
   ·rename_i hf;exact .inl ⟨(walk c x2 G2 s2 i).2 hf,h2 c σ2 (Ext.refl c) s2 r2⟩
   ·exact h2.elim
  | succ m=>
   unfold G8 at h2;split at h2
   ·rename_i d hf;obtain⟨go,yl⟩:=(walk c x2 G2 s2 i).1 d hf;refine .inr ⟨go,λσ' H'=>∃(c:Wd)(S:DSt)(G:DH),c.H=H'/\Ext a1 c/\Sim c G/\RepS c S σ'/\Bm E c (G8 f g b m (i+1) S G) W,λσ' H' z=>⟨m,zU _,z⟩,λw H' y=>?_⟩;obtain⟨cc,rfl,xx,ss,rd⟩:=yl w H' y;refine⟨cc,S2,G2,d,xx.k.trans (x2.k.trans k1),rfl,ss,r2.mono xx,rd,(ZBE (Bm.mono xx h2)).imp ?_⟩;rintro σ3 _ ⟨c3,S3,G3,rfl,x3,s3,r3,_,h3⟩
    have fin:=ZBT h3;refine⟨c3,S3,G3,x3.k.trans (xx.k.trans (x2.k.trans k1)),rfl,s3,r3,?_⟩
    revert fin
    cases b S3 G3 with
    | nx S4 G4=>
      intro fin c4 σ4 x4 s4 q4;obtain⟨c5,S5,G5,hh,x5,s5,r5,h5⟩:=fin c4 σ4 x4 s4 q4;exact⟨c5,S5,G5,hh,x2.trans (xx.trans (x3.trans x5)),s5,r5,h5⟩
    | ct S4 G4=>
      intro fin c4 σ4 x4 s4 q4;obtain⟨c5,S5,G5,hh,x5,s5,r5,h5⟩:=fin c4 σ4 x4 s4 q4;exact⟨c5,S5,G5,hh,x2.trans (xx.trans (x3.trans x5)),s5,r5,h5⟩
    |bk S4 G4=>exact λfin=>fin
    |rt S4 G4=>exact λfin=>fin
    |err S4 G4=>exact λfin=>fin
    |bad=>exact λfin=>fin
   ·rename_i hf;exact .inl ⟨(walk c x2 G2 s2 i).2 hf,h2 c σ2 (Ext.refl c) s2 r2⟩
   ·exact h2.elim
 cases d with
 |pure xs=>
  have h1':Bm E a1 (Bt g b (xs.drop 0) S G1) W:=h1;rw[ZCU xs.length 0 (by lia)]at h1';exact⟨_,_,ZBi q1,h1'⟩
 |mt k=>
  dsimp only at h1;split at h1
  ·rw[ZCZ]at h1;exact⟨_,_,ZEx q1,h1⟩
  ·exact h1.elim
 |fn n f=>exact⟨n,f,q1,h1⟩
theorem Gh{body:List xA}{it:DI}{b:DS}(hp:PassesOwn (vK X.prog X.w) X.A X.env X.xe)(hc:X.calm=vT)(hi:QI X E tg iter it)(hg:QG X E tg g)(hb:QSs X E body b)
  (hs:∀x,foldedSetIterable iter X.env x=pure x:=by intro _;rfl):QS X E (.For tg iter body [] pos) (Es it g b):=(ZIU hp hc hi hg hb hs).mono λ_ _ _ h=>ZG6 h
theorem _root_._L.PI.mono{t t':TI}(h:PI X tg iter t)(w:∀σ H Q,t' σ H Q->t σ H Q):PI X tg iter t':=λpins s σ H Q I q=>h pins s σ H Q I (w σ H Q q)
noncomputable def sgn(c:Nat):D:=.str ⟨#[c]⟩
def signs(x:Str):List D:=x.cps.toList.map sgn
noncomputable def Its(x:Str):It:=⟨λi _=>i<x.cps.size,λi H v H'=>H'=H/\∃c,x.cps[i]?=vR c/\v=.str ⟨#[c]⟩,λi _=>x.cps.size<=i⟩
theorem ZHS(it:xW)(x:Str)(t:Tok):Turn P w K tg (Its x) [it] it (λi h=>h.IsStrIter it "str_ascii_iterator" x t i) where
 mem:=by simp
 obj:=λi h st b hb=>by
  have e:b=it:=by simpa using hb
  subst e;obtain⟨o,e,c,d⟩:=st;exact⟨o,e,λv z=>by rw[d]at z;cases z⟩
 keep:=λi h h' st k=>let⟨o,ho,r⟩:=st;⟨o,k it (by simp) o ho,r⟩
 item:=by
  intro X hP hw hK hc i pins s σ H E I hf st hg;subst hP hw hK;obtain⟨f0,f1,f2,f3,f4,f5⟩:=hf it (by simp);have hi:i<x.cps.size:=hg;refine wpAny_pyNext_ascii_item st (c:=x.cps[i]) (by simp[hi]) λh' st' sb=>?_
  have I1:Inv X pins σ H {s with heap:=h',toks:=s.toks+1}:=I.turned (λb o hb e=>(sb.2 b hb).trans e) f0 f1 f3 f4 f5;obtain⟨o,e,c,d⟩:=id st';exact⟨_,rfl,Ms (s:={s with heap:=h',toks:=s.toks+1}) e c d (by decide) ⟨.str ⟨#[x.cps[i]]⟩,H,I1,⟨_,rfl⟩,⟨rfl,_,by simp[hi],rfl⟩,st',λb hb=>(hf b hb).1⟩⟩
 done:=by intro X hP hw hK hc i pins s σ H E I hf st hg;subst hP hw hK;obtain⟨f0,f1,f2,f3,f4,f5⟩:=hf it (by simp);have hi:x.cps.size<=i:=hg;exact wpAny_pyNext_ascii_end (I.ok.hd hc) st (by simp[hi]) λh' eb=>⟨rfl,I.turned (t':=s.toks) (λb o hb e=>eb b o hb e) f0 f1 f3 f4 f5⟩
 self:=λ_ _ _ _ _ st h=>wpAny_pyIter_striter_ascii st h
theorem ZJm(it:xW)(x:Str)(t:Tok):Turn P w K tg (Its x) [it] it (λi h=>h.IsStrIter it "str_iterator" x t i) where
 mem:=by simp
 obj:=λi h st b hb=>by
  have e:b=it:=by simpa using hb
  subst e;obtain⟨o,e,c,d⟩:=st;exact⟨o,e,λv z=>by rw[d]at z;cases z⟩
 keep:=λi h h' st k=>let⟨o,ho,r⟩:=st;⟨o,k it (by simp) o ho,r⟩
 item:=by
  intro X hP hw hK hc i pins s σ H E I hf st hg;subst hP hw hK;obtain⟨f0,f1,f2,f3,f4,f5⟩:=hf it (by simp);have hi:i<x.cps.size:=hg;refine wpAny_pyNext_wide_item st (c:=x.cps[i]) (by simp[hi]) λh' st' sb=>?_
  have I1:Inv X pins σ H {s with heap:=h',toks:=s.toks+1}:=I.turned (λb o hb e=>(sb.2 b hb).trans e) f0 f1 f3 f4 f5;obtain⟨o,e,c,d⟩:=id st';exact⟨_,rfl,Ms (s:={s with heap:=h',toks:=s.toks+1}) e c d (by decide) ⟨.str ⟨#[x.cps[i]]⟩,H,I1,⟨_,rfl⟩,⟨rfl,_,by simp[hi],rfl⟩,st',λb hb=>(hf b hb).1⟩⟩
 done:=by intro X hP hw hK hc i pins s σ H E I hf st hg;subst hP hw hK;obtain⟨f0,f1,f2,f3,f4,f5⟩:=hf it (by simp);have hi:x.cps.size<=i:=hg;exact wpAny_pyNext_wide_end (I.ok.hd hc) st (by simp[hi]) λh' eb=>⟨rfl,I.turned (t':=s.toks) (λb o hb e=>eb b o hb e) f0 f1 f3 f4 f5⟩
 self:=λ_ _ _ _ _ st h=>wpAny_pyIter_striter_wide st h
def iStr(tl:TE):TI:=λσ H R=>tl σ H λx H1=>∃z,x=.str z/\R (Its z) H1
theorem ZIi{l:xY}{tl:TE}(hl:PE X l tl):PI X tg l (iStr tl):=by
 intro pins s σ H R I h;refine thn (hl pins s σ H _ I h) λv s1 ⟨x,H1,I1,r1,q1⟩=>?_
 obtain⟨z,e,q⟩:=q1;subst e;obtain⟨t,rfl⟩:=r1;have fp:∀b∈[s1.heap.objs.size],FpOk X pins H1 b:=λb hb=>by
  have e:b=s1.heap.objs.size:=by simpa using hb
  subst e;exact I1.I8 (zK _) (I1.hok.fresh (zK _))
 cases ha:z.cps.all (· < 128)
 ·refine wpAny_pyIter_wide ha ?_;exact⟨s1.heap.objs.size,[s1.heap.objs.size],_,_,H1,rfl,I1.kept (t':=s1.toks) λb o e=>zQ _ e,ZJm _ z t,⟨_,zj _ rfl,rfl,rfl⟩,fp,q⟩
 ·refine wpAny_pyIter_ascii ha ?_;exact⟨s1.heap.objs.size,[s1.heap.objs.size],_,_,H1,rfl,I1.kept (t':=s1.toks) λb o e=>zQ _ e,ZHS _ z t,⟨_,zj _ rfl,rfl,rfl⟩,fp,q⟩
theorem Reps.signs(x:Str):Reps a (signs x) (x.cps.toList.map λc=>V.str ⟨#[c]⟩):=by
 unfold _D.signs
 induction x.cps.toList with
 |nil=>exact rfl
 |cons c r ih=>exact⟨_,_,rfl,rfl,ih⟩
def Fy:D->DH->R ItD
 |.tup xs,G=>.ok (.pure xs) G
 |.str x,G=>.ok (.pure (signs x)) G
 |.fl xs,G=>.ok (.pure xs) G
 |.ref i,G=>match G[i]? with
  |some (.lst _)=>.ok (.mt i) G
  |_=>.bad
 |_,_=>.bad
def Eg(te:DE):DI:=λS G=>(te S G).bind Fy
theorem Hi(he:QE X E iter te):QI X E tg iter (Eg te):=by
 intro pins s σ H R I h;obtain⟨a,S,G,hk,rfl,sm,r,h⟩:=h;cases ht:te S G with
 |bad=>
  have h':outI E a ((te S G).bind Fy) R:=h;rw[ht]at h';exact h'.elim
 |err e G1=>
  have h':outI E a ((te S G).bind Fy) R:=h;rw[ht]at h';refine ZAf (tg:=tg) he pins s σ a.H R I ⟨a,S,G,hk,rfl,sm,r,?_⟩;rw[ht];exact h'
 | ok d G1=>
  have h':outI E a ((te S G).bind Fy) R:=h;rw[ht]at h';cases d with
  |tup xs=>
   refine ZKl (tg:=tg) he pins s σ a.H R I ⟨a,S,G,hk,rfl,sm,r,?_⟩;rw[ht];rintro b v x sb ⟨p,vs,rfl,hq,rv⟩;have hq':SqT X.K b.H p vs:=by rw[<-hk,<-x.k];exact hq
   refine⟨p,rfl,⟨vs,hq'⟩,h' b _ x sb ⟨vs,rv,λc y i=>⟨λv hv=>⟨⟨vs,v,?_,hv⟩,λw H' z=>?_⟩,λhl=>⟨vs,?_,hl⟩⟩⟩⟩
   ·have:=y.sqT hq;rw[y.k,x.k,hk]at this;exact this
   ·have:=y.sqT hq;rw[y.k,x.k,hk]at this;exact⟨Option.some.inj ((z.2 vs this).symm.trans hv),z.1⟩
   ·have:=y.sqT hq;rw[y.k,x.k,hk]at this;exact this
  |fl xs=>
   refine ZAf (tg:=tg) he pins s σ a.H R I ⟨a,S,G,hk,rfl,sm,r,?_⟩;rw[ht];rintro b v x sb ⟨p,vs,rfl,hq,rv⟩;have hq':SqL X.K b.H p vs:=by rw[<-hk,<-x.k];exact hq.sq
   refine⟨p,rfl,⟨vs,hq'⟩,h' b _ x sb ⟨vs,rv,λc y i=>⟨λv hv=>⟨⟨vs,v,?_,hv⟩,λw H' z=>?_⟩,λhl=>⟨vs,?_,hl⟩⟩⟩⟩
   ·have:=(y.fzL hq).sq;rw[y.k,x.k,hk]at this;exact this
   ·have:=(y.fzL hq).sq;rw[y.k,x.k,hk]at this;exact⟨Option.some.inj ((z.2 vs this).symm.trans hv),z.1⟩
   ·have:=(y.fzL hq).sq;rw[y.k,x.k,hk]at this;exact this
  |ref k=>
   have h2:outI E a (Fy (.ref k) G1) R:=h';unfold Fy at h2;dsimp only at h2;split at h2
   ·rename_i xs hx;refine ZAf (tg:=tg) he pins s σ a.H R I ⟨a,S,G,hk,rfl,sm,r,?_⟩;rw[ht];rintro b v x sb ⟨hkn,rfl⟩;obtain⟨vs,hx,_⟩:=sb.lst hx;refine⟨b.m k,rfl,⟨vs,.of hx⟩,h2 b _ x sb ⟨hkn,λc y us hu i=>?_⟩⟩;rw[y.m k hkn]at hu;exact⟨λv hv=>⟨⟨us,v,.of hu,hv⟩,λw H' z=>⟨Option.some.inj ((z.2 us (.of hu)).symm.trans hv),z.1⟩⟩,λhl=>⟨us,.of hu,hl⟩⟩
   ·exact h2.elim
  | str z=>
   refine ZIi (tg:=tg) he pins s σ a.H R I ⟨a,S,G,hk,rfl,sm,r,?_⟩;rw[ht];intro b v x sb rv
   cases(show v=V.str z from rv)
   refine⟨z,rfl,h' b _ x sb ⟨_,Reps.signs z,λc y i=>⟨λv hv=>?_,λhl=>?_⟩⟩⟩
   ·rw[zC,zM]at hv;obtain⟨k,hk1,rfl⟩:=hv;have hk2:z.cps[i]?=vR k:=by rw[<-jk];exact hk1
    refine⟨(qQ.mp hk2).1,λw H' q=>?_⟩;obtain⟨e1,k',e2,e3⟩:=q;rw[hk2]at e2;cases e2;exact⟨e3,e1⟩
   ·rw[zO,qC]at hl;exact hl
  |_=>exact h'.elim
end
noncomputable def Bd(lo:Int)(n:Nat):List D:=(zJ n).map λ(k:Nat)=>D.int (lo+(k:Int))
def inR(j:Int):Prop:= -(2^62)<=j/\j<2^62
noncomputable instance (j:Int):Decidable (inR j):=by unfold inR;infer_instance
def rng1(ds:List D)(G:DH):R ItD:=match ds with
 |[.int j]=>if inR j then .ok (.pure (Bd 0 j.toNat)) G else .bad
 |_=>.bad
def Dw(f:List D->DH->R ItD)(ta:DA):DI:=λS G=>(ta S G).bind f
def sWh(c:DB)(b:DS):Nat->DS
 |0,_,_=>.bad
 |n+1,S,G=>(c S G).toS λk G1=>if k=vT then aft (b S G1) (sWh c b n)else .nx S G1
def Be(np nl:Nat)(b:DS):List D->DH->R D:=λds G=>if ds.length=np then tidy G (match b (ds.map vR++zv nl vS) G with
 |.nx _ G'=>.ok .non G'
 |.rt d G'=>.ok d G'
 |.err x G'=>.err x G'
 |_=>.bad)else .bad
theorem outI.mono(x:Ext a b){r:R ItD}{Q:It->Hp->Prop}(h:outI E a r Q):outI E b r Q:=by
 cases r with
 |ok d G=>exact λc v y s q=>h c v (x.trans y) s q
 |err e G=>exact XOk.mono (E:=E) (e:=e) (G:=G) x h
 |bad=>exact h
theorem U0{r:R (List D)}{f:List D->DH->R ItD}{Q:It->Hp->Prop}(h:outI E a (r.bind f) Q):
  Cu E a r (λvs H=>∃(b:Wd)(ds:List D)(G:DH),b.H=H/\Ext a b/\Sim b G/\Reps b ds vs/\r=.ok ds G/\outI E b (f ds G) Q):=by
 cases r with
 |ok d G=>exact λb v x s q=>⟨b,d,G,rfl,x,s,q,rfl,outI.mono x h⟩
 |err e G=>exact h
 |bad=>exact h
section
variable{X:Cx}{E:XK}{tg iter:xY}{pos:Pos}
theorem ZGP(lo:Int)(n:Nat):RepI a (.pure (Bd lo n)) (Itr lo n):=by
 refine⟨(zJ n).map λ(k:Nat)=>V.int (lo+(k:Int)),?_,λb x i=>⟨λv hv=>?_,λhl=>?_⟩⟩
 ·unfold Bd;generalize zJ n=l
  induction l with
  |nil=>exact rfl
  |cons k l ih=>exact⟨_,_,rfl,rfl,ih⟩
 ·rw[zC]at hv;by_cases hi:i<n
  ·rw[qq hi]at hv;have hv':V.int (lo+(i:Int))=v:=by simpa using hv
   exact⟨hi,λw H' y=>⟨y.2.trans hv',y.1⟩⟩
  ·rw[zH (by simpa using hi)]at hv;cases hv
 ·show n<=i;simpa using hl
theorem Jv{ta:DA}{p pos:Pos}(hg:Gl X "range")(hm:X.mg "range"=vS)(ha:QA X E [e] ta)(hs:vj [e] X.env=[(vU,eval e X.env)]:=by rfl):QI X E tg (.Call (.Name "range" p) [e] [] pos) (Dw rng1 ta):=
 (ZJ3 hg hm ha hs).mono λσ H Q h=>by
  obtain⟨a,S,G,hk,rfl,s,r,h⟩:=h;refine⟨a,S,G,hk,rfl,s,r,(U0 h).imp ?_⟩;rintro vs _ ⟨b,ds,G1,rfl,x,s1,q,-,h1⟩;unfold rng1 at h1;split at h1
  ·rename_i j;split at h1
   ·rename_i hj;obtain⟨v,r,e1,q1,q2⟩:=q
    cases(show v=V.int j from q1)
    cases(show r=[]from q2)
    exact⟨j,e1,hj.1,hj.2,h1 b _ (Ext.refl b) s1 (ZGP 0 j.toNat)⟩
   ·exact h1.elim
  ·exact h1.elim
theorem Z9(n:Nat){c:xY}{body:List xA}{tc:DB}{tb:DS}(hp:PassesOwn (vK X.prog X.w) X.A X.env X.xe)(hc:QT X E c tc)(hb:QSs X E body tb):QS X E (.While c body [] pos) (sWh tc tb n):=(ZLs hp hc hb).mono λW σ H h=>by
 obtain⟨a,S,G,hk,rfl,s,r,h⟩:=h;refine⟨λm σ H=>∃(b:Wd)(S:DSt)(G:DH),b.H=H/\Ext a b/\Sim b G/\RepS b S σ/\Bm E b (sWh tc tb m S G) W,⟨n,a,S,G,rfl,Ext.refl a,s,r,h⟩,?_⟩;rintro m σ2 _ ⟨b,S2,G2,rfl,x2,s2,r2,h2⟩;cases m with
 |zero=>exact h2.elim
 | succ m=>
  refine⟨b,S2,G2,x2.k.trans hk,rfl,s2,r2,(ZA5 h2).imp ?_⟩;rintro k _ ⟨c3,G3,rfl,x3,s3,_,h3⟩;cases k with
  |false=>exact h3 c3 σ2 (Ext.refl c3) s3 (r2.mono x3)
  | true=>
   refine⟨λσ' H'=>∃(b:Wd)(S:DSt)(G:DH),b.H=H'/\Ext a b/\Sim b G/\RepS b S σ'/\Bm E b (sWh tc tb m S G) W,λσ' H' z=>⟨m,zU _,z⟩,c3,S2,G3,x3.k.trans (x2.k.trans hk),rfl,s3,r2.mono x3,?_⟩;have fin:=ZBT h3
   revert fin
   cases tb S2 G3 with
   |nx S4 G4=>
    intro fin c4 σ4 x4 s4 q4;obtain⟨c5,S5,G5,hh,x5,s5,r5,h5⟩:=fin c4 σ4 x4 s4 q4;exact⟨c5,S5,G5,hh,x2.trans (x3.trans x5),s5,r5,h5⟩
   |ct S4 G4=>
    intro fin c4 σ4 x4 s4 q4;obtain⟨c5,S5,G5,hh,x5,s5,r5,h5⟩:=fin c4 σ4 x4 s4 q4;exact⟨c5,S5,G5,hh,x2.trans (x3.trans x5),s5,r5,h5⟩
   |bk S4 G4=>exact λfin=>fin
   |rt S4 G4=>exact λfin=>fin
   |err S4 G4=>exact λfin=>fin
   |bad=>exact λfin=>fin
end
theorem Tq(r:Reps a ds vs)(n m:Nat)(h:n=m):RepS a (ds.map vR++zv n vS) (vs.map vR++zv m vS):=by
 subst h;refine⟨by simp[r.length],λi d hd=>?_⟩;by_cases hi:i<ds.length
 ·rw[zG (by simpa using hi),zC]at hd;cases e:ds[i]? with
  |none=>rw[e]at hd;cases hd
  |some d'=>
   rw[e]at hd;have hd':d'=d:=by simpa using hd
   subst hd';obtain⟨v,ev,q⟩:=r.get e;exact⟨v,by rw[zG (by rw[zO,<-r.length];exact hi),zC,ev];rfl,q⟩
 ·rw[zI (by simpa using hi),qw]at hd
  split at hd<;>cases hd
theorem Dm{mg:Str->Option xB}{base:Heap}{qual:Str}{st:xA}{f:xW}{fd:xq}{N ps:List Str}{b:DS}(F:Fun K x qual st f fd)(S:FnScope N ps (Ao st))
  (hbody:∀(cdv:xB)(A:xK)(outer:List Env)(s:xy)(H:Hp)(E:XK),Room k (A.deeper (envOfC qual (Ao st) s.heap.objs.size f cdv))->QSs (Dy CX0 P w K mg base N qual (Ao st) f cdv A outer s H E).nox E0 (Dv st) b):
  FnOk P w K mg base CX0 (k+1) f fd ps (lF K (Be ps.length (N.length-ps.length) b)):=by
 have hlen:∀vs H Q E,lF K (Be ps.length (N.length-ps.length) b) vs H Q E->vs.length=ps.length:=λvs H Q E h=>by
  obtain⟨a,G,ds,hk,rfl,sm,r,h⟩:=h;unfold Be at h;split at h
  ·rename_i hl;rw[<-r.length];exact hl
  ·exact h.elim
 refine F.ok S hlen (λcdv A outer s H vs Q E hr h=>?_);refine⟨lS K E0 b,hbody cdv A outer s H E hr,?_⟩;have hl:=hlen vs H Q E h;obtain⟨a,G,ds,hk,rfl,sm,r,h⟩:=h;unfold Be at h;split at h
 ·have h2:=Ph sm h;refine⟨a,ds.map vR++zv (N.length-ps.length) vS,G,hk,rfl,sm,Tq r _ _ (by rw[hl]),?_⟩
  revert h2
  cases b (ds.map vR++zv (N.length-ps.length) vS) G with
  |nx S1 G1=>exact λh2 c σ x s1 _=>h2 c .non x s1 rfl
  |rt d G1=>exact λh2=>h2
  |err e G1=>exact λh2=>h2
  |bk S1 G1=>exact λh2=>h2.elim
  |ct S1 G1=>exact λh2=>h2.elim
  |bad=>exact λh2=>h2
 ·exact h.elim
theorem O6{x:V}(s:Sim a G)(r:Rep a d x)(h:Bp d G=vR xs):∃p vs,x=.ref p/\(SqL a.K a.H p vs∨SqT a.K a.H p vs)/\Reps a xs vs:=by
 cases d with
 |tup ys=>
  have e:ys=xs:=Option.some.inj h;subst e;obtain⟨p,vs,e,q,rr⟩:=r;exact⟨p,vs,e,.inr q,rr⟩
 |fl ys=>
  have e:ys=xs:=Option.some.inj h;subst e;obtain⟨p,vs,e,q,rr⟩:=r;exact⟨p,vs,e,.inl q.sq,rr⟩
 |ref i=>
  unfold Bp at h;dsimp only at h;split at h
  ·rename_i ys hi;have e:ys=xs:=Option.some.inj h;subst e;obtain⟨vs,e1,r1⟩:=s.lst hi;exact⟨a.m i,vs,r.2,.inl (.of e1),r1⟩
  ·cases h
 |_=>cases h
def Av (d e:D) (G:DH):R D:=match e with
 | .int i=>match d with
  | .str z=>if z.length<=1000000 then(match atI z.cps.toList i with
    |some c=>.ok (.str ⟨#[c]⟩) G
    |none=>.bad)else .bad
  | d=>match Bp d G with
   |some xs=>match atI xs i with
    |some v=>.ok v G
    |none=>.bad
   |none=>.bad
 |_=>.bad
theorem ZD5{i:Int}(r:Reps a xs vs)(h:atI xs i=vR d):∃v,atI vs i=vR v/\Rep a d v:=by
 unfold atI at h⊢;rw[<-r.length];cases e:ixN xs.length i with
 |none=>rw[e]at h;cases h
 |some j=>
  rw[e]at h
  obtain⟨v,ev,q⟩:=r.get (show xs[j]?=vR d from h)
  exact⟨v,ev,q⟩
section
variable{X:Cx}{E:XK}
theorem _root_._L.IxR.mono{r r':R2}(h:IxR X r)(w:∀x y H Q,r' x y H Q->r x y H Q):IxR X r':=λvalue slice pins s σ H x y v u Q I rx ry q hs=>h value slice pins s σ H x y v u Q I rx ry (w _ _ _ _ q) hs
theorem _root_._L.CallR.mono{f:xB}{r r':List V->Hp->VK->Prop}(h:CallR X f r)(w:∀xs H Q,r' xs H Q->r xs H Q):CallR X f r':=λpins s σ H xs us Q I rs q=>h pins s σ H xs us Q I rs (w _ _ _ q)
theorem _root_._L.MtM.mono{id:String}{r r':V->List V->Hp->VK->Prop}(h:MtM X id r)(w:∀x xs H Q,r' x xs H Q->r x xs H Q):MtM X id r':=λpins s σ H x xs v us Q I rx rs q=>h pins s σ H x xs v us Q I rx rs (w _ _ _ _ q)
theorem Bl:IxR X (lR2 X.K E Av):=ZHV.mono λx y H Q h=>by
 obtain⟨a,G,d,e,hk,rfl,s,rd,re,q⟩:=h;cases e with
 | int i=>
  have fin:∀{xs:List D},Bp d G=vR xs->out E a (match atI xs i with |some v=>.ok v G|none=>.bad) Q->rIx X.K x y a.H Q:=λ{xs}hs q=>by
   obtain⟨p,vs,e1,h1,r1⟩:=O6 s rd hs;rw[hk]at h1;split at q
   ·rename_i v hv;obtain⟨u,hu,ru⟩:=ZD5 r1 hv;have z:=q a u (Ext.refl a) s ru;rcases h1 with h1|h1
    ·exact .inl ⟨p,vs,i,u,e1,re,h1,hu,z⟩
    ·exact .inr (.inl ⟨p,vs,i,u,e1,re,h1,hu,z⟩)
   ·exact q.elim
  have fin':out E a (match Bp d G with |some xs=>(match atI xs i with |some v=>.ok v G|none=>.bad)|none=>.bad) Q->rIx X.K x y a.H Q:=λq=>by
   cases hs:Bp d G with
   |none=>rw[hs]at q;exact q.elim
   |some xs=>rw[hs]at q;exact fin hs q
  cases d with
  | str z=>
   unfold Av at q;dsimp only at q;split at q
   ·rename_i hl;split at q
    ·rename_i c hc;exact .inr (.inr ⟨z,i,c,rd,re,z0 hl size6,hc,q a _ (Ext.refl a) s rfl⟩)
    ·exact q.elim
   ·exact q.elim
  |tup ys=>exact fin' q
  |fl ys=>exact fin' q
  |ref j=>exact fin' q
  |_=>exact fin' q
 |_=>exact q.elim
def Dr(ds:List D)(G:DH):R D:=match ds with
 |[.str z]=>if z.length<=1000000 then .ok (.int z.length) G else .bad
 |[d]=>match Bp d G with
  |some xs=>.ok (.int xs.length) G
  |none=>.bad
 |_=>.bad
theorem reps1(r:Reps a [d] vs):∃v,vs=[v]/\Rep a d v:=by
 obtain⟨v,r',e,q,z⟩:=r
 cases(show r'=[]from z)
 exact⟨v,e,q⟩
theorem reps2{d':D}(r:Reps a [d,d'] vs):∃v v',vs=[v,v']/\Rep a d v/\Rep a d' v':=by obtain⟨v,r',e,q,z⟩:=r;obtain⟨v',e',q'⟩:=reps1 z;subst e';exact⟨v,v',e,q,q'⟩
theorem Jp:CallR X (.builtin "len") (lRn X.K E Dr):=(ZFw.or ZLh).mono λvs H Q h=>by
 obtain⟨a,G,ds,hk,rfl,s,r,q⟩:=h;unfold Dr at q;split at q
 ·rename_i z;split at q
  ·rename_i hl;obtain⟨v,rfl,rv⟩:=reps1 r
   cases(show v=V.str z from rv)
   exact .inr ⟨z,rfl,z0 hl size6,q a _ (Ext.refl a) s rfl⟩
  ·exact q.elim
 ·rename_i d _;split at q
  ·rename_i xs hs;obtain⟨v,rfl,rv⟩:=reps1 r;obtain⟨p,us,rfl,h1,r1⟩:=O6 s rv hs;rw[hk]at h1;exact .inl ⟨p,us,rfl,h1,q a _ (Ext.refl a) s (by rw[<-r1.length];exact rfl)⟩
  ·exact q.elim
 ·exact q.elim
def Dk(ds:List D)(G:DH):R D:=match ds with
 |[.str z]=>if z.length<=1000000 then .ok (.ref G.length) (G++[.lst (signs z)])else .bad
 |[d]=>match Bp d G with
  |some xs=>.ok (.ref G.length) (G++[.lst xs])
  |none=>.bad
 |_=>.bad
theorem Ys:∀{vs:List V}{us:List xB},vs.length=us.length->(∀(i:Nat)(v:V)(u:xB),vs[i]?=vR v->us[i]?=vR u->RelV v u)->Vals vs us
 |[],[],_,_=>.nil
 |[],_::_,h,_=>by cases h
 |_::_,[],h,_=>by cases h
 |v::vs,u::us,h,f=>.cons (f 0 v u rfl rfl) (Ys (by simpa using h) λi v' u' h1 h2=>f (i+1) v' u' (by simpa using h1) (by simpa using h2))
theorem ZKW(hc:X.calm=vT):CallR X (.type "list") (λxs H Q=>∃z:Str,xs=[.str z]/\z.length<=sizeLine/\∀l,H l=vS->Q (.ref l) (upd H l (.lst (z.cps.toList.map λc=>V.str ⟨#[c]⟩)))):=by
 intro pins s σ H xs us Q I r h;obtain⟨z,rfl,hz,q⟩:=h;obtain⟨u,rfl,t,rfl⟩:=vals1 r;refine PySem.call_list_str (I.ok.hd hc) z t (λh' tk acc c hk hS hacc=>?_) hz;have hn:H s.heap.objs.size=vS:=I.hok.fresh (zK _);refine⟨.ref s.heap.objs.size,upd H s.heap.objs.size (.lst (z.cps.toList.map λc=>V.str ⟨#[c]⟩)),I.laid (t':=tk) (h':=h') hk (zK _) ?_,rfl,q _ hn⟩;refine⟨by rw[zO,qC];exact hz,acc.toList,c,Ys ?_ λi v u h1 h2=>?_,by simpa using hS⟩
 ·rw[zO,qC,qC];exact hacc.1.symm
 ·rw[zC,zM]at h1;obtain⟨k,e1,rfl⟩:=h1;obtain⟨k',t',e2,rfl⟩:=hacc.2 i u (by rw[<-jk];exact h2);rw[jk,e2]at e1;cases e1;exact⟨t',rfl⟩
theorem Lz(hc:X.calm=vT):CallR X (.type "list") (lRn X.K E Dk):=(ZIj.or (ZKW hc)).mono λvs H Q h=>by
 obtain⟨a,G,ds,hk,rfl,s,r,q⟩:=h;unfold Dk at q;split at q
 ·rename_i z;split at q
  ·rename_i hl;obtain⟨v,rfl,rv⟩:=reps1 r
   cases(show v=V.str z from rv)
   exact .inr ⟨z,rfl,z0 hl size6,λl hl=>Nf s (Reps.signs z) q l hl⟩
  ·exact q.elim
 ·rename_i d _;split at q
  ·rename_i xs hs;obtain⟨v,rfl,rv⟩:=reps1 r;obtain⟨p,us,rfl,h1,r1⟩:=O6 s rv hs;exact .inl ⟨p,us,rfl,by rw[<-hk];exact h1,λl hl=>Nf s r1 q l hl⟩
  ·exact q.elim
 ·exact q.elim
noncomputable def Qt(ds:List D)(G:DH):R D:=match ds with
 |[.int i,.int j]=>.ok (.int (if j<i then j else i)) G
 |_=>.bad
theorem ZDz(hc:X.calm=vT):CallR X (.builtin "min") (lRn X.K E Qt):=(ZML hc).mono λvs H Q h=>by
 obtain⟨a,G,ds,hk,rfl,s,r,q⟩:=h;unfold Qt at q;split at q
 ·obtain⟨v,v',rfl,h1,h2⟩:=reps2 r
  cases(show v=V.int _ from h1)
  cases(show v'=V.int _ from h2)
  exact⟨_,_,rfl,q a _ (Ext.refl a) s rfl⟩
 ·exact q.elim
noncomputable def Sh(ds:List D)(G:DH):R D:=match ds with
 |[.int i]=>.ok (.int i) G
 |[.bl k]=>.ok (.int (if k then 1 else 0)) G
 |_=>.bad
theorem ZL2:CallR X (.type "int") (lRn X.K E Sh):=ZF4.mono λvs H Q h=>by
 obtain⟨a,G,ds,hk,rfl,s,r,q⟩:=h;unfold Sh at q;split at q
 ·obtain⟨v,rfl,h1⟩:=reps1 r
  cases(show v=V.int _ from h1)
  exact .inl ⟨_,rfl,q a _ (Ext.refl a) s rfl⟩
 ·obtain⟨v,rfl,h1⟩:=reps1 r
  cases(show v=V.bl _ from h1)
  exact .inr ⟨_,rfl,q a _ (Ext.refl a) s rfl⟩
 ·exact q.elim
noncomputable def Em(o:D)(ds:List D)(G:DH):R D:=match o,ds with
 |.ref i,[d]=>match G[i]? with
  |some (.lst xs)=>if xs.length<1000000 then .ok .non (G.set i (.lst (xs++[d])))else .bad
  |_=>.bad
 |_,_=>.bad
def lRm(K:PySem.W.Frag)(E:XK)(f:D->List D->DH->R D):V->List V->Hp->VK->Prop:=λx xs H Q=>∃(a:Wd)(G:DH)(d:D)(ds:List D),a.K=K/\a.H=H/\Sim a G/\Rep a d x/\Reps a ds xs/\out E a (f d ds G) Q
theorem Sim.isList(s:Sim a G)(h:G[i]?=vR (.lst xs)):∃vs,SqL a.K a.H (a.m i) vs:=let⟨vs,e,_⟩:=s.lst h;⟨vs,.of e⟩
theorem K7:MtM X "list.append" (lRm X.K E Em):=ZId.mono λx xs H Q h=>by
 obtain⟨a,G,d,ds,hk,rfl,s,rd,r,q⟩:=h;unfold Em at q;split at q
 ·rename_i i d;obtain⟨v,rfl,rv⟩:=reps1 r;split at q
  ·rename_i ys hy;split at q
   ·rename_i hl;obtain⟨vs,e1,r1⟩:=s.lst hy;obtain⟨x3,s3⟩:=Zj s rd.1 e1 (r1.append (Reps.cons rv Reps.nil));refine⟨a.m i,vs,v,rd.2,rfl,e1,by rw[<-r1.length];exact zX hl size6,?_⟩;exact q _ .non x3 s3 rfl
   ·exact q.elim
  ·exact q.elim
 ·exact q.elim
variable{o e:xY}{es:List xY}{to:DE}{t:DA}{name:Str}{apos cpos:Pos}{T id:String}{f:D->List D->DH->R D}
noncomputable def isL(d:D)(G:DH):Bool:=match d with
 |.ref i=>match G[i]? with
  |some (.lst _)=>vT
  |_=>vU
 |.fl _=>vT
 |_=>vU
def Hs(f:D->List D->DH->R D)(o:DE)(t:DA):DE:=λS G=>(o S G).bind λx G1=>if isL x G1=vT then(t S G1).bind λxs G2=>f x xs G2 else .bad
theorem ZLf{x:V}(s:Sim a G)(r:Rep a d x)(h:isL d G=vT):tyV a.K "list" x a.H:=by
 cases d with
 |ref i=>
  unfold isL at h;dsimp only at h;split at h
  ·rename_i xs hx;cases r.2;exact .inl ⟨rfl,s.isList hx⟩
  ·cases h
 |fl xs=>
  obtain⟨p,vs,rfl,q,_⟩:=r;exact .inl ⟨rfl,vs,q.sq⟩
 |_=>cases h
theorem Jm(slot:Slot "list" name id)(hty:typeOf (.builtin id)=pure (.type "method_descriptor"))(hm:MtM X id (lRm X.K E f))(ho:QE X E o to)(ha:QA X E (e::es) t)
  (hbase:xE o name X.env (eval o X.env)=eval o X.env:=by rfl)
  (hfew:((xF cpos (vj (e::es) X.env)).all (λx=> !x.1)&&(xG cpos (vX [] X.env)).all (λx=>x.1.isSome)
   && decide ((e::es).length+([]:List Keyword).length+(if([]:List Keyword).isEmpty then 0 else 1)<30))=vT:=by rfl)
  (hline:(apos.endLine==cpos.line)=vT:=by rfl) (hs:vj (e::es) X.env=(vU,eval e X.env)::vj es X.env:=by rfl) (hplain:(xF cpos (vj es X.env)).any (·.1)=vU:=by rfl):
  QE X E (.Call (.Attribute o name apos) (e::es) [] cpos) (Hs f to t):=(ZJM PySem.F.plainAttrs_list slot hty hm ho ha hbase hfew hline hs hplain).mono λσ H Q h=>by
 obtain⟨a,S,G,hk,rfl,s,r,h⟩:=h;refine⟨a,S,G,hk,rfl,s,r,(Dj h).imp ?_⟩;rintro v _ ⟨b,d,G1,rfl,x,s1,q,-,h1⟩;split at h1
 ·rename_i hl;have ty:=ZLf s1 q hl;rw[x.k,hk]at ty;refine⟨ty,b,S,G1,x.k.trans hk,rfl,s1,r.mono x,(Kh h1).imp ?_⟩;rintro vs _ ⟨c,ds,G2,rfl,y,s2,q2,-,h2⟩;exact⟨c,G2,d,ds,y.k.trans (x.k.trans hk),rfl,s2,q.mono y,q2,h2⟩
 ·exact h1.elim
end
inductive Ty where|non|bl|int|str|tup|lst
def tyD(G:DH):D->Option Ty
 |.non=>vR .non
 |.bl _=>vR .bl
 |.int _=>vR .int
 |.str _=>vR .str
 |.tup _=>vR .tup
 |.fl _=>vR .lst
 |.ref i=>match G[i]? with
  |some (.lst _)=>vR .lst
  |_=>vS
 |.ty _=>vS
noncomputable def Ty.sub(t:Ty):String->Option Bool
 |"int"=>vR (match t with | .int=>vT | .bl=>vT|_=>vU)
 |"bool"=>vR (match t with | .bl=>vT|_=>vU)
 |"str"=>vR (match t with | .str=>vT|_=>vU)
 |"tuple"=>vR (match t with | .tup=>vT|_=>vU)
 |"list"=>vR (match t with | .lst=>vT|_=>vU)
 |_=>vS
def K8(ds:List D)(G:DH):R D:=match ds with
 | [d,.ty T]=>match tyD G d with
  |some t=>match t.sub T with
   |some k=>.ok (.bl k) G
   |none=>.bad
  |none=>.bad
 |_=>.bad
section
variable{prog:xj}{w:xC}{A:xK}{E:xB->xy->Prop}{s:xy}
theorem Ku{x:xB}{Tx T:String}{Q:xB->xy->Prop}(hx:s.TypeIs x Tx)(hty:typeOf (.type T)=pure (.type "type"))(hsub:xS (.type Tx) (.type T)=pure vT)(h:Q (.bool vT) s):
  vk (vK prog w) A (call (.builtin "isinstance") [x,.type T]) Q E s:=xM (isinstance_true hty hsub) ⟨hx,h⟩
end
theorem ty_int:typeOf (.type "int")=pure (.type "type"):=by with_unfolding_all rfl
theorem ty_bool:typeOf (.type "bool")=pure (.type "type"):=by with_unfolding_all rfl
theorem ty_str:typeOf (.type "str")=pure (.type "type"):=by with_unfolding_all rfl
theorem ty_tuple:typeOf (.type "tuple")=pure (.type "type"):=by with_unfolding_all rfl
theorem ty_list:typeOf (.type "list")=pure (.type "type"):=by with_unfolding_all rfl
theorem ZFW:xS (.type "NoneType") (.type "int")=pure vU:=by with_unfolding_all rfl
theorem ZLz:xS (.type "NoneType") (.type "bool")=pure vU:=by with_unfolding_all rfl
theorem ZE6:xS (.type "NoneType") (.type "str")=pure vU:=by with_unfolding_all rfl
theorem ZGL:xS (.type "NoneType") (.type "tuple")=pure vU:=by with_unfolding_all rfl
theorem ZGU:xS (.type "NoneType") (.type "list")=pure vU:=by with_unfolding_all rfl
theorem ZJV:xS (.type "bool") (.type "int")=pure vT:=by with_unfolding_all rfl
theorem ZGC:xS (.type "bool") (.type "bool")=pure vT:=by with_unfolding_all rfl
theorem ZH6:xS (.type "bool") (.type "str")=pure vU:=by with_unfolding_all rfl
theorem ZG4:xS (.type "bool") (.type "tuple")=pure vU:=by with_unfolding_all rfl
theorem ZJW:xS (.type "bool") (.type "list")=pure vU:=by with_unfolding_all rfl
theorem ZLK:xS (.type "int") (.type "int")=pure vT:=by with_unfolding_all rfl
theorem ZKr:xS (.type "int") (.type "bool")=pure vU:=by with_unfolding_all rfl
theorem ZLD:xS (.type "int") (.type "str")=pure vU:=by with_unfolding_all rfl
theorem ZGT:xS (.type "int") (.type "tuple")=pure vU:=by with_unfolding_all rfl
theorem ZHB:xS (.type "int") (.type "list")=pure vU:=by with_unfolding_all rfl
theorem ZLc:xS (.type "str") (.type "int")=pure vU:=by with_unfolding_all rfl
theorem ZID:xS (.type "str") (.type "bool")=pure vU:=by with_unfolding_all rfl
theorem ZHC:xS (.type "str") (.type "str")=pure vT:=by with_unfolding_all rfl
theorem ZFO:xS (.type "str") (.type "tuple")=pure vU:=by with_unfolding_all rfl
theorem ZK4:xS (.type "str") (.type "list")=pure vU:=by with_unfolding_all rfl
theorem ZKL:xS (.type "tuple") (.type "int")=pure vU:=by with_unfolding_all rfl
theorem ZGr:xS (.type "tuple") (.type "bool")=pure vU:=by with_unfolding_all rfl
theorem ZKo:xS (.type "tuple") (.type "str")=pure vU:=by with_unfolding_all rfl
theorem ZHk:xS (.type "tuple") (.type "tuple")=pure vT:=by with_unfolding_all rfl
theorem ZGM:xS (.type "tuple") (.type "list")=pure vU:=by with_unfolding_all rfl
theorem ZAx:xS (.type "list") (.type "int")=pure vU:=by with_unfolding_all rfl
theorem ZDs:xS (.type "list") (.type "bool")=pure vU:=by with_unfolding_all rfl
theorem ZB0:xS (.type "list") (.type "str")=pure vU:=by with_unfolding_all rfl
theorem ZEJ:xS (.type "list") (.type "tuple")=pure vU:=by with_unfolding_all rfl
theorem ZAr:xS (.type "list") (.type "list")=pure vT:=by with_unfolding_all rfl
section
variable{X:Cx}{E:XK}
theorem Zf:CallR X (.builtin "isinstance") (lRn X.K E K8):=by
 intro pins s σ H vs us Q I rs h;obtain⟨a,G,ds,hk,rfl,sm,r,q⟩:=h;unfold K8 at q;split at q
 ·rename_i d T;obtain⟨v,v',rfl,h1,h2⟩:=reps2 r
  cases(show v'=V.ty T from h2)
  obtain⟨u,u',rfl,ru,ru'⟩:∃u u',us=[u,u']/\RelV v u/\RelV (.ty T) u':=by
   cases rs with
   |cons p q=>cases q with
    |cons p' q'=>cases q';exact⟨_,_,rfl,p,p'⟩
  cases(show u'=Value.type T from ru')
  split at q
  ·rename_i t ht;split at q
   ·rename_i k hk';have fin:∀{n:Nat},EP X pins σ Q (.bool k) {s with toks:=n}:=λ{n}=>⟨.bl k,a.H,I.tok _,rfl,q a _ (Ext.refl a) sm rfl⟩
    have fin0:EP X pins σ Q (.bool k) s:=⟨.bl k,a.H,I,rfl,q a _ (Ext.refl a) sm rfl⟩;unfold Ty.sub at hk';split at hk'
    ·cases d with
     |non=>
      cases ht;cases hk'
      cases(show v=_ from h1)
      cases ru;exact xM (vQ (by decide) ty_int ZFW) fin
     |bl b=>
      cases ht;cases hk'
      cases(show v=_ from h1)
      cases ru;exact Ku (Tx:="bool") rfl ty_int ZJV fin0
     |int b=>
      cases ht;cases hk'
      cases(show v=_ from h1)
      obtain⟨tk,rfl⟩:=ru;exact Ku (Tx:="int") (typeIs_int s _ _) ty_int ZLK fin0
     |str b=>
      cases ht;cases hk'
      cases(show v=_ from h1)
      obtain⟨tk,rfl⟩:=ru;exact xM (vZ (by decide) ty_int ZLc) fin
     |tup b=>
      cases ht;cases hk';obtain⟨p,ws,rfl,hq,_⟩:=h1;cases ru;rw[hk]at hq;obtain⟨its,_,pl,_⟩:=I.tuple hq;exact xM (vJ (by decide) ty_int ZKL) ⟨(let⟨o,e,c,_⟩:=pl;⟨o,e,c⟩),fin⟩
     |fl b=>
      cases ht;cases hk';obtain⟨p,ws,rfl,hq,_⟩:=h1;cases ru;have hq:=hq.sq;rw[hk]at hq;obtain⟨its,_,pl,_⟩:=I.list hq;exact xM (xU (by decide) ty_int ZAx) ⟨(let⟨o,e,c,_⟩:=pl.isList;⟨o,e,c⟩),fin⟩
     |ref b=>
      unfold tyD at ht;dsimp only at ht;split at ht
      ·rename_i xs hx;cases ht;cases hk';obtain⟨ws,e1,_⟩:=sm.lst hx;cases h1.2;cases ru;obtain⟨its,_,pl,_⟩:=I.list (.of e1);exact xM (xU (by decide) ty_int ZAx) ⟨(let⟨o,e,c,_⟩:=pl.isList;⟨o,e,c⟩),fin⟩
      ·cases ht
     |ty n=>cases ht
    ·cases d with
     |non=>
      cases ht;cases hk'
      cases(show v=_ from h1)
      cases ru;exact xM (vQ (by decide) ty_bool ZLz) fin
     |bl b=>
      cases ht;cases hk'
      cases(show v=_ from h1)
      cases ru;exact Ku (Tx:="bool") rfl ty_bool ZGC fin0
     |int b=>
      cases ht;cases hk'
      cases(show v=_ from h1)
      obtain⟨tk,rfl⟩:=ru;exact xM (xT (by decide) ty_bool ZKr) fin
     |str b=>
      cases ht;cases hk'
      cases(show v=_ from h1)
      obtain⟨tk,rfl⟩:=ru;exact xM (vZ (by decide) ty_bool ZID) fin
     |tup b=>
      cases ht;cases hk';obtain⟨p,ws,rfl,hq,_⟩:=h1;cases ru;rw[hk]at hq;obtain⟨its,_,pl,_⟩:=I.tuple hq;exact xM (vJ (by decide) ty_bool ZGr) ⟨(let⟨o,e,c,_⟩:=pl;⟨o,e,c⟩),fin⟩
     |fl b=>
      cases ht;cases hk';obtain⟨p,ws,rfl,hq,_⟩:=h1;cases ru;have hq:=hq.sq;rw[hk]at hq;obtain⟨its,_,pl,_⟩:=I.list hq;exact xM (xU (by decide) ty_bool ZDs) ⟨(let⟨o,e,c,_⟩:=pl.isList;⟨o,e,c⟩),fin⟩
     |ref b=>
      unfold tyD at ht;dsimp only at ht;split at ht
      ·rename_i xs hx;cases ht;cases hk';obtain⟨ws,e1,_⟩:=sm.lst hx;cases h1.2;cases ru;obtain⟨its,_,pl,_⟩:=I.list (.of e1);exact xM (xU (by decide) ty_bool ZDs) ⟨(let⟨o,e,c,_⟩:=pl.isList;⟨o,e,c⟩),fin⟩
      ·cases ht
     |ty n=>cases ht
    ·cases d with
     |non=>
      cases ht;cases hk'
      cases(show v=_ from h1)
      cases ru;exact xM (vQ (by decide) ty_str ZE6) fin
     |bl b=>
      cases ht;cases hk'
      cases(show v=_ from h1)
      cases ru;exact xM (isinstance_false_bool (by decide) ty_str ZH6) fin
     |int b=>
      cases ht;cases hk'
      cases(show v=_ from h1)
      obtain⟨tk,rfl⟩:=ru;exact xM (xT (by decide) ty_str ZLD) fin
     |str b=>
      cases ht;cases hk'
      cases(show v=_ from h1)
      obtain⟨tk,rfl⟩:=ru;exact Ku (Tx:="str") (typeIs_str s _ _) ty_str ZHC fin0
     |tup b=>
      cases ht;cases hk';obtain⟨p,ws,rfl,hq,_⟩:=h1;cases ru;rw[hk]at hq;obtain⟨its,_,pl,_⟩:=I.tuple hq;exact xM (vJ (by decide) ty_str ZKo) ⟨(let⟨o,e,c,_⟩:=pl;⟨o,e,c⟩),fin⟩
     |fl b=>
      cases ht;cases hk';obtain⟨p,ws,rfl,hq,_⟩:=h1;cases ru;have hq:=hq.sq;rw[hk]at hq;obtain⟨its,_,pl,_⟩:=I.list hq;exact xM (xU (by decide) ty_str ZB0) ⟨(let⟨o,e,c,_⟩:=pl.isList;⟨o,e,c⟩),fin⟩
     |ref b=>
      unfold tyD at ht;dsimp only at ht;split at ht
      ·rename_i xs hx;cases ht;cases hk';obtain⟨ws,e1,_⟩:=sm.lst hx;cases h1.2;cases ru;obtain⟨its,_,pl,_⟩:=I.list (.of e1);exact xM (xU (by decide) ty_str ZB0) ⟨(let⟨o,e,c,_⟩:=pl.isList;⟨o,e,c⟩),fin⟩
      ·cases ht
     |ty n=>cases ht
    ·cases d with
     |non=>
      cases ht;cases hk'
      cases(show v=_ from h1)
      cases ru;exact xM (vQ (by decide) ty_tuple ZGL) fin
     |bl b=>
      cases ht;cases hk'
      cases(show v=_ from h1)
      cases ru;exact xM (isinstance_false_bool (by decide) ty_tuple ZG4) fin
     |int b=>
      cases ht;cases hk'
      cases(show v=_ from h1)
      obtain⟨tk,rfl⟩:=ru;exact xM (xT (by decide) ty_tuple ZGT) fin
     |str b=>
      cases ht;cases hk'
      cases(show v=_ from h1)
      obtain⟨tk,rfl⟩:=ru;exact xM (vZ (by decide) ty_tuple ZFO) fin
     |tup b=>
      cases ht;cases hk';obtain⟨p,ws,rfl,hq,_⟩:=h1;cases ru;rw[hk]at hq;obtain⟨its,_,pl,_⟩:=I.tuple hq;exact Ku (Tx:="tuple") pl.typeIs ty_tuple ZHk fin0
     |fl b=>
      cases ht;cases hk';obtain⟨p,ws,rfl,hq,_⟩:=h1;cases ru;have hq:=hq.sq;rw[hk]at hq;obtain⟨its,_,pl,_⟩:=I.list hq;exact xM (xU (by decide) ty_tuple ZEJ) ⟨(let⟨o,e,c,_⟩:=pl.isList;⟨o,e,c⟩),fin⟩
     |ref b=>
      unfold tyD at ht;dsimp only at ht;split at ht
      ·rename_i xs hx;cases ht;cases hk';obtain⟨ws,e1,_⟩:=sm.lst hx;cases h1.2;cases ru;obtain⟨its,_,pl,_⟩:=I.list (.of e1);exact xM (xU (by decide) ty_tuple ZEJ) ⟨(let⟨o,e,c,_⟩:=pl.isList;⟨o,e,c⟩),fin⟩
      ·cases ht
     |ty n=>cases ht
    ·cases d with
     |non=>
      cases ht;cases hk'
      cases(show v=_ from h1)
      cases ru;exact xM (vQ (by decide) ty_list ZGU) fin
     |bl b=>
      cases ht;cases hk'
      cases(show v=_ from h1)
      cases ru;exact xM (isinstance_false_bool (by decide) ty_list ZJW) fin
     |int b=>
      cases ht;cases hk'
      cases(show v=_ from h1)
      obtain⟨tk,rfl⟩:=ru;exact xM (xT (by decide) ty_list ZHB) fin
     |str b=>
      cases ht;cases hk'
      cases(show v=_ from h1)
      obtain⟨tk,rfl⟩:=ru;exact xM (vZ (by decide) ty_list ZK4) fin
     |tup b=>
      cases ht;cases hk';obtain⟨p,ws,rfl,hq,_⟩:=h1;cases ru;rw[hk]at hq;obtain⟨its,_,pl,_⟩:=I.tuple hq;exact xM (vJ (by decide) ty_list ZGM) ⟨(let⟨o,e,c,_⟩:=pl;⟨o,e,c⟩),fin⟩
     |fl b=>
      cases ht;cases hk';obtain⟨p,ws,rfl,hq,_⟩:=h1;cases ru;have hq:=hq.sq;rw[hk]at hq;obtain⟨its,_,pl,_⟩:=I.list hq;exact Ku (Tx:="list") pl.isList.typeIs ty_list ZAr fin0
     |ref b=>
      unfold tyD at ht;dsimp only at ht;split at ht
      ·rename_i xs hx;cases ht;cases hk';obtain⟨ws,e1,_⟩:=sm.lst hx;cases h1.2;cases ru;obtain⟨its,_,pl,_⟩:=I.list (.of e1);exact Ku (Tx:="list") pl.isList.typeIs ty_list ZAr fin0
      ·cases ht
     |ty n=>cases ht
    ·cases hk'
   ·exact q.elim
  ·exact q.elim
 ·exact q.elim
end
noncomputable def Gd:List D->Option (List Int)
 |[]=>vR []
 |.int i::r=>(Gd r).map (i::·)
 |_=>vS
@[simp]theorem ZNI(ns:List Int):Gd (ns.map D.int)=vR ns:=by
 induction ns with
 |nil=>rfl
 |cons n ns ih=>simp[Gd,ih]
theorem ZA9:∀{xs:List D}{ns:List Int},Gd xs=vR ns->xs=ns.map D.int
 |[],ns,h=>by cases h;rfl
 |.int i::r,ns,h=>by simp only[Gd,zM]at h;obtain⟨ms,h1,rfl⟩:=h;rw[zA,ZA9 h1]
 |.non::r,ns,h=>by simp[Gd]at h
 |.bl _::r,ns,h=>by simp[Gd]at h
 |.str _::r,ns,h=>by simp[Gd]at h
 |.ty _::r,ns,h=>by simp[Gd]at h
 |.tup _::r,ns,h=>by simp[Gd]at h
 |.fl _::r,ns,h=>by simp[Gd]at h
 |.ref _::r,ns,h=>by simp[Gd]at h
def Hy(ds:List D)(G:DH):R D:=match ds with
 | [d]=>match Bp d G with
  |some xs=>match Gd xs with
   |some ns=>.ok (.int ns.sum) G
   |none=>.bad
  |none=>.bad
 |_=>.bad
section
variable{X:Cx}{E:XK}{pins:List (xW×Obj)}{σ:St}{s:xy}{H:Hp}
theorem ZJB(I:Inv X pins σ H s)(hc:X.calm=vT)(h:SqL X.K H p vs∨SqT X.K H p vs){E':xB->xy->Prop}{Q:xB->xy->Prop}
  (hQ:∀(it:xW)(fp wr:List xW)(its:List xB)(St:Nat->Heap->Prop)(s₂:xy),Vals vs its->Walks X.prog X.w X.A.in1 it fp wr its.toArray.size (λi v=>its.toArray[i]?=vR v) St->St 0 s₂.heap->(∀b∈fp,b<s₂.heap.objs.size)->
   (∀h' tk,(∀b o,b∉wr->s₂.heap.get? b=vR o->h'.get? b=vR o)->Inv X pins σ H {s₂ with heap:=h',toks:=tk})->Q (.ref it) s₂):
  vk (vK X.prog X.w) X.A.in1 (pyIter (.ref p)) Q E' s:=by
 have hh:X.A.in1.handled=vS:=I.ok.hd hc;rcases h with h|h
 ·obtain⟨its,r,pl,hz⟩:=I.list h;refine wpAny_pyIter_list pl.isList ?_;have hp:p<s.heap.objs.size:=by obtain⟨o,e,_⟩:=pl.isList;exact zW e
  refine hQ _ _ _ its _ _ r (Walks.list hh _ p (zF hp) its.toArray) ⟨⟨_,zj _ rfl,rfl,rfl⟩,?_⟩ (λb hb=>?_) λh' tk kk=>?_
  ·obtain⟨o,e,c⟩:=pl.isList;exact⟨o,zQ _ e,c⟩
  ·show b<(s.heap.push _).objs.size;rw[qj];rcases zq.mp hb with rfl|hb
   ·exact zU _
   ·have e:b=p:=by simpa using hb
    subst e;exact jy hp
  ·refine I.kept λb o e=>kk b o (λhb=>?_) (zQ _ e)
   have e2:b=s.heap.objs.size:=by simpa using hb
   subst e2;exact absurd (zW e) (zT _)
 ·obtain⟨its,r,pl,hz⟩:=I.tuple h
  refine wpAny_pyIter_tuple (show s.heap.IsTuple p its.toArray from pl) ?_
  have hp:p<s.heap.objs.size:=by obtain⟨o,e,_⟩:=pl;exact zW e
  refine hQ _ _ _ its _ _ r (Walks.tuple hh _ p (zF hp) its.toArray) ⟨⟨_,zj _ rfl,rfl,rfl⟩,?_⟩ (λb hb=>?_) λh' tk kk=>?_
  ·obtain⟨o,e,c⟩:=pl;exact⟨o,zQ _ e,c⟩
  ·show b<(s.heap.push _).objs.size;rw[qj];rcases zq.mp hb with rfl|hb
   ·exact zU _
   ·have e:b=p:=by simpa using hb
    subst e;exact jy hp
  ·refine I.kept λb o e=>kk b o (λhb=>?_) (zQ _ e)
   have e2:b=s.heap.objs.size:=by simpa using hb
   subst e2;exact absurd (zW e) (zT _)
theorem ZCs(ns:List Int):∀n,n<=ns.length->preSum (λi=>ns.getD i 0) n=(ns.take n).sum
 |0,_=>by simp[preSum]
 |n+1,h=>by have hn:n<ns.length:=h;rw[preSum,ZCs ns n (by lia),List.take_succ_eq_append_getElem hn,List.sum_append];simp[hn]
theorem ZCI:∀{ns:List Int}{vs:List V},Reps a (ns.map D.int) vs->vs=ns.map V.int
 |[],vs,h=>h
 |n::ns,vs,h=>by
  obtain⟨v,r,e,h1,h2⟩:=h
  cases(show v=V.int n from h1)
  rw[e,ZCI h2]
  rfl
theorem Vd(hc:X.calm=vT):CallR X (.builtin "sum") (lRn X.K E Hy):=by
 intro pins s σ H vs us Q I rs h;obtain⟨a,G,ds,hk,rfl,sm,r,q⟩:=h;unfold Hy at q;split at q
 ·rename_i d;obtain⟨v,rfl,rv⟩:=reps1 r;split at q
  ·rename_i xs hs;split at q
   ·rename_i ns hn;cases ZA9 hn;obtain⟨p,ws,rfl,h1,r1⟩:=O6 sm rv hs;cases ZCI r1;rw[hk]at h1;obtain⟨u,rfl,ru⟩:=vals1 rs;cases ru;refine call_sum_walkG (ZJB I hc h1 λit fp wr its St s₂ hv W st hfp fin=>⟨it,fp,wr,its.toArray.size,_,St,λi=>ns.getD i 0,rfl,W,st,hfp,λi w hw=>?_,λh' tk t' kk=>?_⟩)
    ·have hw':its[i]?=vR w:=by simpa using hw
     have hl:i<(ns.map V.int).length:=by rw[hv.length];exact(zk.mp hw').1
     have hl':i<ns.length:=by simpa using hl
     obtain⟨u,hu,ru⟩:=hv.get (i:=i) (x:=V.int ns[i]) (by simp[hl']);rw[hw']at hu;cases hu;obtain⟨t,rfl⟩:=ru;exact⟨t,by simp[hl']⟩
    ·refine⟨.int ns.sum,a.H,fin h' tk kk,⟨t',?_⟩,q a _ (Ext.refl a) sm rfl⟩;have hl:its.toArray.size=ns.length:=by rw[zx,<-hv.length];simp
     rw[hl,ZCs ns ns.length (zK _),j7]
   ·exact q.elim
  ·exact q.elim
 ·exact q.elim
end
section
variable{X:Cx}{pins:List (xW×Obj)}{σ:St}{H:Hp}{s:xy}
theorem Yh{a:xW}{o:HO}(I:Inv X pins σ H s)(hn:H a=vS)(hy:X.s₀.heap.objs.size<=a)(hL:a≠X.env.locals)(hc:∀x c,X.env.cells.lookup x=vR c->c≠a)(hp:∀p∈X.pn++pins,p.1≠a)
  (new:ObjOk X.prog X.w (upd H a o) s.heap a o):Inv X pins σ (upd H a o) s:=by
 have ne:∀b u,H b=vR u->b≠a:=λb u e z=>by rw[z,hn]at e;cases e
 refine⟨I.ok,I.os,I.bare,⟨I.base.keep,I.base.slot,λb ob q n hx=>?_,I.base.there,λb xs q=>?_,λb ob u q=>?_,λb ps q=>?_⟩,I.loc,I.cell,?_,λx c e=>?_,λp hp'=>?_,λb u e=>?_,I.len⟩
 ·rw[Aq (zF (zX (zW q) hy))];exact I.base.free b ob q n hx
 ·have:=I.base.tups b xs q;rw[Aq (ne _ _ this)];exact this
 ·have:=I.base.frzs b ob u q;rw[Aq (ne _ _ this)];exact this
 ·obtain⟨more,this⟩:=I.base.tbls b ps q;exact⟨more,by rw[Aq (ne _ _ this)];exact this⟩
 ·rw[Aq (Ne.symm hL)];exact I.free
 ·rw[Aq (hc x c e)];exact I.Ey x c e
 ·obtain⟨e1,e2,e3⟩:=I.pin p hp';exact⟨e1,by rw[Aq (hp p hp')];exact e2,e3⟩
 ·by_cases hb:b=a
  ·subst hb;rw[Do]at e;cases e;exact new
  ·rw[Aq hb]at e;exact(I.hok b u e).stay (λ_ _ _ q=>q) (λc q=>by rw[Aq (ne _ _ q)];exact q) λc xs q=>by rw[Aq (ne _ _ q)];exact q
end
noncomputable def Ck(env:Env):List (Str×xz)->List (Str×xW)->List (Str×xW)
 |[],cs=>cs
 |(n,k)::r,cs=>if(k==NameKind.free)=vT then Ck env r ((n,(env.cells.lookup n).getD 0)::cs)else Ck env r cs
theorem Zi(h:∀y∈scope.names,y.2=.free->∃c,env.cells.lookup y.1=vR c):closureFor scope env=pure (Ck env scope.names []):=by
 unfold closureFor;obtain⟨kind,names,g1,g2⟩:=scope;have key:∀(names:List (Str×xz))(cs:List (Str×xW)),(∀y∈names,y.2=.free->∃c,env.cells.lookup y.1=vR c)->
   (forIn names cs (λx r=>match x with
    |(name,kind)=>if(kind==NameKind.free)=vT then(do let c<-cellOf env name;pure (ForInStep.yield ((name,c)::r)))else pure (ForInStep.yield r)):Sem (List (Str×xW)))=pure (Ck env names cs):=by
  intro names
  induction names with
  |nil=>intro cs _;rfl
  | cons y r ih=>
   intro cs hy;obtain⟨n,k⟩:=y;rw[jB];by_cases hk:(k==NameKind.free)=vT
   ·obtain⟨c,hc⟩:=hy (n,k) zV (by simpa using hk)
    have e1:cellOf env n=pure c:=by unfold cellOf;rw[show env.cells.lookup n=vR c from hc]
    have e2:Ck env ((n,k)::r) cs=Ck env r ((n,c)::cs):=by rw[Ck,if_pos hk,show env.cells.lookup n=vR c from hc];rfl
    rw[e2,<-ih ((n,c)::cs) λy' hy'=>hy y' (zZ _ hy')];simp only[hk,if_true,e1]
    rfl
   ·have e2:Ck env ((n,k)::r) cs=Ck env r cs:=by rw[Ck,if_neg hk]
    rw[e2,<-ih cs λy' hy'=>hy y' (zZ _ hy')];simp only[hk]
    rfl
 have:=key names [] h;exact congrArg (λm:Sem (List (Str×xW))=>m >>=λr=>pure r) this
theorem X7:∀{names:List (Str×xz)}{cs:List (Str×xW)},(∀y∈names,y.2=.free->∃c,env.cells.lookup y.1=vR c)->(∀p∈cs,env.cells.lookup p.1=vR p.2)->∀p∈Ck env names cs,env.cells.lookup p.1=vR p.2
 |[],cs,_,hc,p,hp=>hc p hp
 | (n,k)::r,cs,hn,hc,p,hp=>by
  rw[Ck]at hp;split at hp
  ·rename_i hk;obtain⟨c,e⟩:=hn (n,k) zV (by simpa using hk);refine X7 (λy hy=>hn y (zZ _ hy)) (λq hq=>?_) p hp;rcases zq.mp hq with rfl|hq
   ·rw[show env.cells.lookup n=vR c from e];rfl
   ·exact hc q hq
  ·exact X7 (λy hy=>hn y (zZ _ hy)) hc p hp
theorem Mr:∀{names:List (Str×xz)}{cs:List (Str×xW)},((x,.free)∈names∨∃c,(x,c)∈cs)->∃c,(x,c)∈Ck env names cs
 |[],cs,h=>by
  rcases h with h|h
  ·cases h
  ·exact h
 | (n,k)::r,cs,h=>by
  rw[Ck];split
  ·refine Mr ?_;rcases h with h|⟨c,h⟩
   ·rcases zq.mp h with e|h
    ·cases e;exact .inr ⟨_,zV⟩
    ·exact .inl h
   ·exact .inr ⟨c,zZ _ h⟩
  ·rename_i hk;refine Mr ?_;rcases h with h|h
   ·rcases zq.mp h with e|h
    ·cases e;exact absurd rfl hk
    ·exact .inl h
   ·exact .inr h
theorem P0{c:xW}:∀{l:List (Str×xW)},(x,c)∈l->∃d,l.lookup x=vR d
 |[],h=>by cases h
 | (y,d)::l,h=>by
  by_cases e:x=y
  ·subst e;exact⟨d,by simp⟩
  ·rcases zq.mp h with z|h
   ·cases z;exact absurd rfl e
   ·obtain⟨d',q⟩:=P0 h;exact⟨d',by rw[qM,beq_eq_false_iff_ne.mpr e];exact q⟩
theorem ZDX(x:Str):(relabel scope env).names.lookup x=(scope.names.lookup x).map λk=>if(k==NameKind.free&&env.scope.kind == .function&&env.kindOf x==vR .cell)=vT then .cell else k:=by
 unfold relabel;generalize scope.names=l
 induction l with
 |nil=>rfl
 | cons y r ih=>
  obtain⟨n,k⟩:=y;by_cases e:x=n
  ·subst e;simp only[zA]
   cases hc:(k==NameKind.free&&env.scope.kind==ScopeKind.function&&env.kindOf x==vR NameKind.cell) <;>
    simp only[hc,if_true,qM,beq_self_eq_true,xQ,jF,if_false]
  ·have hb:(x==n)=vU:=beq_eq_false_iff_ne.mpr e;simp only[zA];split
   ·rw[qM,qM,hb];exact ih
   ·rw[qM,qM,hb];exact ih
def blk(X:Cx)(N:List Str)(scope:xk)(C:xW)(s₀:xy)(H₀:Hp)(ex:List xW):Cx where
 prog:=X.prog
 w:=X.w
 K:=X.K
 mg:=X.mg
 base:=X.base
 A:=X.A
 N:=N
 s₀:=s₀
 H₀:=H₀
 env:=compEnvC scope (Ck X.env scope.names []) C X.env
 outer:=X.stack
 stack:=X.stack
 ex:=ex
 fn:=λ_=>vU
 calm:=X.calm
 pn:=[]
 xe:=λ_ _=>False
structure CompSc (X:Cx) (N:List Str) (scope:xk) (nt:Nat) (caps:List Nat):Prop where
 kind:scope.kind=.function
 names:∀y∈scope.names,y.2=.local->scope.names.lookup y.1=vR .local
 nocell:∀y∈scope.names,y.2≠ .cell
 free:∀y∈scope.names,y.2=.free->X.env.kindOf y.1=vR .cell∨X.env.kindOf y.1=vR .free
 nd:N.Nodup
 len:N.length=nt+caps.length
 cap:∀(k j:Nat),caps[k]?=vR j->∃x,X.N[j]?=vR x/\N[nt+k]?=vR x/\scope.names.lookup x=vR .free
section
variable{X:Cx}{pins:List (xW×Obj)}{σ:St}{H:Hp}{s:xy}{N:List Str}{scope:xk}{nt:Nat}{caps:List Nat}
theorem CompSc.cells(c:CompSc X N scope nt caps)(ok:X.Ok):∀y∈scope.names,y.2=.free->∃c,X.env.cells.lookup y.1=vR c:=λy hy hk=>ok.has y.1 (c.free y hy hk)
theorem CompSc.cl(c:CompSc X N scope nt caps)(ok:X.Ok){d:xW}(h:(Ck X.env scope.names []).lookup x=vR d):X.env.cells.lookup x=vR d:=
 X7 (c.cells ok) (λp hp=>by cases hp) (x,d) (PySem.mem_of_lookup h)
theorem ZJ0(c:CompSc X N scope nt caps)(I:Inv X pins σ H s){fp:List xW}(hf:∀b∈fp,FpOk X pins H b){C:xW}(hC:s.heap.objs.size<=C)(hCf:C∉fp):(blk X N scope C s H fp).Ok where
 mod:=I.ok.mod
 kind:=c.kind
 glob:=I.ok.glob
 blt:=I.ok.blt
 above:=hC
 inj:=λx y d h1 h2=>I.ok.inj x y d (c.cl I.ok h1) (c.cl I.ok h2)
 has:=λx h=>by
  have h':(relabel scope X.env).names.lookup x=vR .cell∨(relabel scope X.env).names.lookup x=vR .free:=h;rw[ZDX]at h';have hfree:scope.names.lookup x=vR .free:=by
   cases e:scope.names.lookup x with
   |none=>rw[e]at h';rcases h' with h'|h'<;>cases h'
   |some k=>
    rw[e]at h';cases k with
    |free=>rfl
    |cell=>exact absurd rfl (c.nocell _ (PySem.mem_of_lookup e))
    |_=>rcases h' with h'|h'<;>(simp at h')
  obtain⟨d,hd⟩:=Mr (env:=X.env) (x:=x) (names:=scope.names) (cs:=[]) (.inl (PySem.mem_of_lookup hfree));exact P0 hd
 cab:=λx d h=>by cases h
 hd:=I.ok.hd
 frames:=I.ok.frames
 stk:=.inl rfl
 exf:=λb hb=>⟨λz=>hCf (by rw[<-show b=C from z];exact hb),λx d h=>(hf b hb).2.2.2.2.1 x d (c.cl I.ok h)⟩
 bs:=I.bs
 bsz:=z0 I.ok.bsz I.sz
 noex:=λb o e hb=>by
  rcases(hf b hb).2.2.2.1 with h|h
  ·exact I.ok.noex b o e h
  ·exact absurd (zX (zW (I.ok.bs b o e).1) h) (zT _)
 exfs:=λb hb hz=>by
  rcases zq.mp (I.Nz b hz)with z|z
  ·exact(hf b hb).2.1 z
  ·exact(hf b hb).2.2.1 z
 funs:=I.stack
 frf:=I.Q7
end
def Cq(g:DG)(c:DB)(te:DE)(S:DSt):List D->DH->R (List D)
 |[],G=>.ok [] G
 | x::xs,G=>(g x S G).bind λS1 G1=>(c S1 G1).bind λk G2=>
   if k=vT then(te S1 G2).bind λd G3=>(Cq g c te S xs G3).bind λds G4=>.ok (d::ds) G4 else Cq g c te S xs G2
def Ec(i:Nat)(g:DG)(c:DB)(te:DE)(S:DSt):Nat->Nat->DH->R (List D)
 |0,j,G=>match G[i]? with
  |some (.lst xs)=>if xs.length<=j then .ok [] G else .bad
  |_=>.bad
 | n + 1,j,G=>match G[i]? with
  |some (.lst xs)=>match xs[j]? with
   | some x=>(g x S G).bind λS1 G1=>(c S1 G1).bind λk G2=>
     if k=vT then(te S1 G2).bind λd G3=>(Ec i g c te S n (j+1) G3).bind λds G4=>.ok (d::ds) G4 else Ec i g c te S n (j+1) G2
   |none=>.ok [] G
  |_=>.bad
def Cw(f:Nat->DH->Option (Option D))(g:DG)(c:DB)(te:DE)(S:DSt):Nat->Nat->DH->R (List D)
 |0,j,G=>match f j G with
  |some vS=>.ok [] G
  |_=>.bad
 | n + 1,j,G=>match f j G with
  |some (vR x)=>(g x S G).bind λS1 G1=>(c S1 G1).bind λk G2=>
     if k=vT then(te S1 G2).bind λd G3=>(Cw f g c te S n (j+1) G3).bind λds G4=>.ok (d::ds) G4 else Cw f g c te S n (j+1) G2
  |some vS=>.ok [] G
  |none=>.bad
noncomputable def Bf(nt:Nat)(caps:List Nat)(S:DSt):DSt:=zv nt vS++caps.map λj=>(S[j]?).join
def Ex(it:DI)(nt:Nat)(caps:List Nat)(g:DG)(c:DB)(te:DE):DE:=λS G=>(it S G).bind λJ G1=>(match J with
 |.pure xs=>Cq g c te (Bf nt caps S) xs G1
 |.mt i=>match G1[i]? with
  |some (.lst xs)=>Ec i g c te (Bf nt caps S) xs.length 0 G1
  |_=>.bad
 |.fn n f=>Cw f g c te (Bf nt caps S) n 0 G1).bind Ar
noncomputable def Cj:DB:=λ_ G=>.ok vT G
def GK(nt:Nat)(g:DG):Prop:=∀d S G S1 G1,g d S G=.ok S1 G1->∀i e,nt<=i->S[i]?=vR (vR e)->S1[i]?=vR (vR e)
def GKs(nt:Nat)(g:DGs):Prop:=∀d S G S1 G1,g d S G=.ok S1 G1->∀i e,nt<=i->S[i]?=vR (vR e)->S1[i]?=vR (vR e)
theorem Gu(h:i<nt):GK nt (gV i):=λd S G S1 G1 e j x hj hx=>by cases e;rw[zw (by lia)];exact hx
theorem ZCD:GKs nt Gg:=λd S G S1 G1 e j x hj hx=>by
 cases d with
 |nil=>cases e;exact hx
 |cons _ _=>cases e
theorem S8{t:DG}{u:DGs}(h1:GK nt t)(h2:GKs nt u):GKs nt (Bu t u):=λd S G S1 G1 e j x hj hx=>by
 cases d with
 |nil=>cases e
 |cons a r=>
  have e':(t a S G).bind (λS1 G1=>u r S1 G1)=.ok S1 G1:=e;cases ht:t a S G with
  |ok S2 G2=>rw[ht]at e';exact h2 _ _ _ _ _ e' j x hj (h1 _ _ _ _ _ ht j x hj hx)
  |err _ _=>rw[ht]at e';cases e'
  |bad=>rw[ht]at e';cases e'
theorem ZBC{t:DGs}(h:GKs nt t):GK nt (Fg n t):=λd S G S1 G1 e j x hj hx=>by
 cases d with
 |tup ds=>
  unfold Fg at e;dsimp only at e;split at e
  ·exact h _ _ _ _ _ e j x hj hx
  ·cases e
 |_=>cases e
theorem ZJL{r:R DSt}{f:DSt->DH->R D}(h:out E a (r.bind f) Q):
  Ds E a r (λσ H=>∃(b:Wd)(S:DSt)(G:DH),b.H=H/\Ext a b/\Sim b G/\RepS b S σ/\r=.ok S G/\out E b (f S G) Q):=by
 cases r with
 |ok d G=>exact λb v x s q=>⟨b,d,G,rfl,x,s,q,rfl,out.mono x h⟩
 |err e G=>exact h
 |bad=>exact h
theorem R.bind_assoc{β γ:Type}(r:R α)(f:α->DH->R β)(g:β->DH->R γ):(r.bind f).bind g=r.bind λa G=>(f a G).bind g:=by cases r<;>rfl
theorem ZEK{r:R ItD}{f:ItD->DH->R D}(h:out E a (r.bind f) Q):
  outI E a r (λJ H=>∃(b:Wd)(d:ItD)(G:DH),b.H=H/\Ext a b/\Sim b G/\RepI b d J/\r=.ok d G/\out E b (f d G) Q):=by
 cases r with
 |ok d G=>exact λb v x s q=>⟨b,d,G,rfl,x,s,q,rfl,out.mono x h⟩
 |err e G=>exact h
 |bad=>exact h
section
variable{prog:xj}{w:xC}{A:xK}{R':Result->xy->Prop}{s:xy}
theorem ZIn{elt target iter:xY}{ifs:List xY}{scope:xk}{pos:Pos}{it acc:xB}{env:Env}(I:Nat->xy->Prop)
  (turn:∀n s,I n s->vk (vK prog w) A (pyNext it) (λr s₁=>match r with
   |none=>R' (.ok .next) s₁
   | some v=>vk (vK prog w) A (vV target it v) (λ_ s₁=>vk (vK prog w) A (assign target env v) (λ_ s₂=>
     vk (vK prog w) A (forIn ifs vT λc r=>if r=vT then do let ok<-isTrue c env (eval c env);pure (ForInStep.yield ok)else pure (ForInStep.yield r)) (λok s₃=>
      if ok=vT then vk (vK prog w) A (eval elt env) (λx s₄=>
       vk (vK prog w) A (call (.builtin "list.append") [acc,x]) (λ_ s₅=>∃m,m<n/\I m s₅) (λ_ _=>False) s₄) (λ_ _=>False) s₃
      else∃m,m<n/\I m s₃) (λ_ _=>False) s₂) (λ_ _=>False) s₁) (λ_ _=>False) s₁) (λ_ _=>False) s)
  (n:Nat) (h:I n s):
  codeAny (vK prog w) A (.compLoop (.ListComp elt [⟨target,iter,ifs,0⟩] scope pos) 0 it acc env) R' s:=by
 refine codeAny_loop rfl I (λn s hI=>?_) n h
 show vk _ A ((compTurn (.ListComp elt [⟨target,iter,ifs,0⟩] scope pos) 0 it acc env).onRaise (λx=>do noteFrame x env;theTreesLotGoes x)) _ _ s
 refine wpAny_noted ?_;rw[compTurn_list];refine vG ?_ (λ_ _ q=>q) (λ_ _(f:False)=>f.elim);refine vB (wpAny_standAt (vB (vG (turn n s hI) (λr s₁ h₁=>?_) λ_ _ h'=>h')));cases r with
 |none=>exact vL h₁
 | some v=>
  refine vB (vG h₁ (λ_ s₂' h₁=>?_) λ_ _ h'=>h');refine vB (vG h₁ (λ_ s₂ h₂=>vB (vG h₂ (λok s₃ h₃=>?_) λ_ _ h'=>h')) λ_ _ h'=>h');cases ok with
  |false=>exact vL ⟨rfl,h₃⟩
  |true=>
   exact vB (vB (vG h₃ (λx s₄ h₄=>vB (vG h₄ (λ_ s₅ h₅=>vL (vL ⟨rfl,h₅⟩)) λ_ _ h'=>h')) λ_ _ h'=>h'))
end
def QTs(X:Cx)(E:XK)(ifs:List xY)(t:DB):Prop:=
 ∀(pins:List (xW×Obj))(s:xy)(σ:St)(H:Hp)(Q:Bool->Hp->Prop),Inv X pins σ H s->lB X.K E t σ H Q->
  vk (vK X.prog X.w) X.A (forIn ifs vT λc r=>if r=vT then do let ok<-isTrue c X.env (eval c X.env);pure (ForInStep.yield ok)else pure (ForInStep.yield r)) (TP X pins σ Q) X.xe s
theorem Kd:QTs X E [] Cj:=λpins s σ H Q I h=>by obtain⟨a,S,G,hk,rfl,sm,r,h⟩:=h;exact wpAny_tests_nil ⟨a.H,I,h a (Ext.refl a) sm⟩
theorem W3{c:xY}{t:DB}(hc:QT X E c t):QTs X E [c] t:=λpins s σ H Q I h=>wpAny_tests_one (hc pins s σ H Q I h)
section
variable{X:Cx}{E:XK}{N:List Str}{scope:xk}{nt:Nat}{caps:List Nat}{tg elt iter:xY}{ifs:List xY}{pos:Pos}{it:DI}{g:DG}{c:DB}{te:DE}
theorem ZHh(r:RepS a S σ):RepS a (Bf nt caps S) (zv nt vS++caps.map λj=>(σ[j]?).join):=by
 refine⟨by simp[Bf],λi d h=>?_⟩;unfold Bf at h;by_cases hi:i<nt
 ·rw[zG (by simpa using hi),qw]at h
  split at h<;>cases h
 ·rw [zI (by simpa using hi),zC]at h;rw[zI (by simpa using hi),zC];rw[jN]at h⊢;cases e:caps[i-nt]? with
  |none=>rw[e]at h;cases h
  | some j=>
   rw[e]at h;have h1:(S[j]?).join=vR d:=by simpa using h
   have h2:S[j]?=vR (vR d):=by
    cases q:S[j]? with
    |none=>rw[q]at h1;cases h1
    |some o=>
     rw[q]at h1;have h1':o=vR d:=h1;rw[h1']
   obtain⟨v,ev,rv⟩:=r.get j d h2;exact⟨v,by simp[ev],rv⟩
theorem ZIo(h:(Bf nt caps S)[i]?=vR (vR d)):nt<=i:=by
 unfold Bf at h;by_cases hi:i<nt
 ·rw[zG (by simpa using hi),qw]at h
  split at h<;>cases h
 ·lia
theorem Xv (hc:X.calm=vT) (cs:CompSc X N scope nt caps)
  (hg:∀C s₀ H₀ ex,QG (blk X N scope C s₀ H₀ ex) E0 tg g) (gk:GK nt g) (hts:∀C s₀ H₀ ex,QTs (blk X N scope C s₀ H₀ ex) E0 ifs c) (he:∀C s₀ H₀ ex,QE (blk X N scope C s₀ H₀ ex) E0 elt te)
  {pins:List (xW×Obj)} {σ:St} {s:xy} {a:Wd} {S:DSt} {G:DH} {J:It} {n0:Nat} {f:Nat->DH->Option (Option D)} {i0:xW} {fp:List xW} {tn:Nat->Heap->Prop} (I:Inv X pins σ a.H s) (hk:a.K=X.K) (sm:Sim a G) (rS:RepS a S σ)
  (T:Turn X.prog X.w X.K tg J fp i0 tn) (t0:tn 0 s.heap) (hf:∀b∈fp,FpOk X pins a.H b) (rJ:RepI a (.fn n0 f) J) {Q:VK}
  (h:out E0 a ((Cw f g c te (Bf nt caps S) n0 0 G).bind Ar) Q)
  {RR:xB->xW->Result->xy->Prop} {E':xB->xy->Prop}
  (hRR:∀(D C:xW)(s':xy)(b:Wd)(vs:List V),Inv X pins σ (upd b.H D (.lst vs)) s'->b.H D=vS->s.heap.objs.size<=C->D≠C->(∃m,s'.heap.Ns C m)->b.H C=vS->Q (.ref D) (upd b.H D (.lst vs))->RR (.ref D) C (.ok .next) s'):
  vk (vK X.prog X.w) X.A (newList []) (λacc s₃=>vk (vK X.prog X.w) X.A (newFunctionEnv scope X.env.globals (Ck X.env scope.names []) [] X.env.qual vS .none (vR X.env)) (λcenv s₄=>
   codeAny (vK X.prog X.w) X.A (.compStart (.ListComp elt [⟨tg,iter,ifs,0⟩] scope pos) 0 (.ref i0) acc {cenv with scope:=relabel scope X.env}) (RR acc cenv.locals) s₄) E' s₃) E' s:=by
 refine vH (wpAny_newFunctionEnv cs.nocell (by intro y hy;simp at hy) (λh₁ hns₁ hsb₁=>?_) cs.kind);dsimp only at hns₁ hsb₁⊢;generalize hH2:s.heap.push {cls:=.type "list",dict:=vS,data:=.seq ([]:List xB).toArray}=H2 at hns₁ hsb₁⊢;have hC:H2.objs.size=s.heap.objs.size+1:=by rw[<-hH2,qj]
 have hDC:s.heap.objs.size≠H2.objs.size:=by rw[hC];exact zF (zU _)
 have hCle:s.heap.objs.size<=H2.objs.size:=by rw[hC];exact qS _
 have fpOld:∀b∈fp,b<s.heap.objs.size:=λb hb=>by obtain⟨o,e,_⟩:=T.obj 0 _ t0 b hb;exact zW e
 have hDf:s.heap.objs.size∉fp:=λhm=>zT _ (fpOld _ hm)
 have hCf:H2.objs.size∉fp:=λhm=>by have:=fpOld _ hm;rw[hC]at this;exact zT _ (Nat.lt_of_succ_lt this)
 have old:∀b o,s.heap.get? b=vR o->h₁.get? b=vR o:=λb o e=>
  hsb₁.extBut b o (by rw[hC];exact zF (jy (zW e))) (zQ _ (hH2▸zQ _ e))
 have hacc:h₁.PlainList s.heap.objs.size ([]:List xB).toArray:=⟨_,hsb₁.extBut _ _ hDC (zQ _ (hH2▸zj _ rfl))⟩;generalize hCe:H2.objs.size=C at*;generalize hDe:s.heap.objs.size=Dd at*;let B:=blk X N scope C s a.H fp;have okB:B.Ok:=ZJ0 cs I hf (by rw[hDe];exact hCle) hCf;let σ0:St:=zv nt vS++caps.map λj=>(σ[j]?).join
 have start:∀tk,Inv B [] σ0 a.H {s with heap:=h₁,toks:=tk}:=λtk=>by
  refine⟨okB,rfl,I.bare,Un.kept old,⟨_,hns₁,λi x v e1 e2 e3=>?_⟩,λx d' e=>?_,I.hok.fresh (by rw[hDe];exact hCle),λx d' e=>?_,λp hp=>?_,I.hok.kept old,?_⟩
  ·have hi:nt<=i:=by
    by_cases hi:i<nt
    ·have e2':σ0[i]?=vR (vR v):=e2;rw[zG (by simpa using hi),qw]at e2'
     split at e2'<;>cases e2'
    ·lia
   have e2':σ0[i]?=vR (vR v):=e2;rw[zI (by simpa using hi),zC,jN]at e2';cases ej:caps[i-nt]? with
   |none=>rw[ej]at e2';cases e2'
   | some j=>
    rw[ej]at e2';have h1:(σ[j]?).join=vR v:=by simpa using e2'
    have h2:σ[j]?=vR (vR v):=by
     cases q:σ[j]? with
     |none=>rw[q]at h1;cases h1
     |some o=>
      rw[q]at h1;have h1':o=vR v:=h1;rw[h1']
    obtain⟨y,ey,en,ek⟩:=cs.cap (i-nt) j ej;have exy:x=y:=by
     have:nt+(i-nt)=i:=by lia
     rw[this]at en;have e1':N[i]?=vR x:=e1;rw[e1']at en;exact Option.some.inj en
    subst exy;have kx:=cs.free (x,.free) (PySem.mem_of_lookup ek) rfl;have vis:Vis X.env.scope x:=by
     rcases kx with kx|kx
     ·exact .inr (.inl kx)
     ·exact .inr (.inr kx)
    obtain⟨m,hn,hl⟩:=I.loc;obtain⟨u,ru,lk⟩:=hl j x v ey h2 vis;refine⟨u,ru,?_⟩;rcases lk with⟨k1,_⟩|⟨k1,c1,ec,hcell⟩
    ·rcases kx with kx|kx
     ·rw[k1]at kx;cases kx
     ·rw[k1]at kx;cases kx
    ·refine .inr ⟨?_,c1,?_,?_⟩
     ·show(relabel scope X.env).names.lookup x=vR .cell∨(relabel scope X.env).names.lookup x=vR .free;rw[ZDX,ek];simp only[xQ];split
      ·exact .inl rfl
      ·exact .inr rfl
     ·obtain⟨d1,hd1⟩:=Mr (env:=X.env) (x:=x) (names:=scope.names) (cs:=[]) (.inl (PySem.mem_of_lookup ek));obtain⟨d2,hd2⟩:=P0 hd1;have:=cs.cl I.ok hd2;rw[ec]at this;cases this;exact hd2
     ·obtain⟨o,e,dd⟩:=hcell;exact⟨o,old _ _ e,dd⟩
  ·obtain⟨v,o,e',dd⟩:=I.cell x d' (cs.cl I.ok e);exact⟨v,o,old _ _ e',dd⟩
  ·exact I.Ey x d' (cs.cl I.ok e)
  ·exact absurd hp (by simp[B,blk])
  ·show σ0.length=N.length;rw[cs.len];simp[σ0]
 have rS0:RepS a (Bf nt caps S) σ0:=ZHh rS;have aD:a.H Dd=vS:=I.hok.fresh (by rw[hDe];exact zK _);have young:∀b∈fp,b≠C:=λb hb z=>hCf (z▸hb)
 have fpB:∀{H':Hp}{ps:List (xW×Obj)},(∀b∈fp,H' b=vS)->(∀p∈ps,p.1∉fp)->∀b∈fp,FpOk B ps H' b:=λ{H' ps}hn hps b hb=>
  ⟨hn b hb,young b hb,okB.exfs b hb,.inl hb,λx d' e=>(hf b hb).2.2.2.2.1 x d' (cs.cl I.ok e),λp hp z=>by
   have hp':p∈ps:=by simpa[B,blk]using hp
   exact hps p hp' (z▸hb)⟩
 have nstk:Dd∉frs X.stack:=λz=>by
  rcases zq.mp (I.Nz Dd z)with z|z
  ·have:=I.lt;rw[hDe,<-z]at this;exact zT _ this
  ·exact I.nofs (by rw[hDe];exact zK _) z
 have pinD:∀{σ':St}{H':Hp}{s':xy}{its:List xB}{nD:Nat},Inv B [] σ' H' s'->s'.heap.get? Dd=vR {cls:=.type "list",data:=.seq its.toArray nD}->H' Dd=vS->Inv B [(Dd,{cls:=.type "list",data:=.seq its.toArray nD})] σ' H' s':=λ{σ' H' s' its nD}J e n=>
  J.Gs λp hp=>by
   have ep:p=(Dd,{cls:=.type "list",data:=.seq its.toArray nD}):=by simpa using hp
   subst ep;exact⟨e,n,hDC,nstk,λv' z=>by cases z⟩
 have fin:∀(s':xy)(b:Wd)(σ':St)(its:List xB)(ds:List D)(G':DH),Inv B [] σ' b.H s'->Ext a b->Sim b G'->s'.heap.PlainList Dd its.toArray->b.H Dd=vS->(∃vs,Vals vs its/\Reps b ds vs)->out E0 b (Ar ds G') Q->RR (.ref Dd) C (.ok .next) s':=by
  intro s' b σ' its ds G' IB x sb pl hD ⟨vs,hv,rv⟩ hq;have hz:ds.length<=1000000:=by
   unfold Ar at hq;split at hq
   ·assumption
   ·exact hq.elim
  have Ix:Inv X pins σ b.H s':=I.call' IB.os IB.base IB.hok IB.bare λb hb=>⟨(hf b hb).2.2.2.1,(hf b hb).2.1,(hf b hb).2.2.2.2.1,(hf b hb).2.2.2.2.2⟩
  obtain⟨n,eD⟩:=pl;have ylt:∀{q:xW}{o:Obj},s.heap.get? q=vR o->q≠Dd:=λe z=>by rw[z,<-hDe]at e;exact absurd (zW e) (zT _)
  have Ia:Inv X pins σ (upd b.H Dd (.lst vs)) s':=by
   refine Yh Ix hD (by rw[<-hDe];exact I.sz) ?_ (λy c' ec=>?_) (λp hp=>?_) ⟨?_,its,n,hv,eD⟩
   ·rw[<-hDe];exact qy I.lt
   ·obtain⟨v,o,e,_⟩:=I.cell y c' ec;exact ylt e
   ·exact ylt (I.pin p hp).1
   ·rw[<-rv.length];exact z0 hz size6
  refine hRR Dd C s' b vs Ia hD hCle hDC (let⟨m,hn,_⟩:=IB.loc;⟨m,hn⟩) IB.free ?_;unfold Ar at hq;rw[if_pos hz]at hq;exact Nf sb rv hq Dd hD
 have turnX:∀(n:Nat)(P:Nat->xy->Prop)(rest:DH->R (List D))(s1:xy)(b:Wd)(G1:DH)(σ1:St)(its:List xB)(acc:List D)(u:xB)(v:V)(x:D)(i:Nat),Inv B [] σ1 b.H s1->Ext a b->Sim b G1->RepS b (Bf nt caps S) σ1->tn i s1.heap->(∀q∈fp,b.H q=vS)->
   s1.heap.PlainList Dd its.toArray->b.H Dd=vS->(∃vs,Vals vs its/\Reps b acc vs)->RelV v u->Rep b x v->
   out E0 b (((g x (Bf nt caps S) G1).bind λS1 G1=>(c S1 G1).bind λk G2=>if k=vT then(te S1 G2).bind λd G3=>(rest G3).bind λds G4=>.ok (d::ds) G4 else rest G2).bind λds G=>Ar (acc++ds) G) Q->
   (∀(s2:xy)(b2:Wd)(G2:DH)(σ2:St)(its2:List xB)(acc2:List D),Inv B [] σ2 b2.H s2->Ext a b2->Sim b2 G2->RepS b2 (Bf nt caps S) σ2->tn i s2.heap->(∀q∈fp,b2.H q=vS)->
    s2.heap.PlainList Dd its2.toArray->b2.H Dd=vS->(∃vs,Vals vs its2/\Reps b2 acc2 vs)->out E0 b2 ((rest G2).bind λds G=>Ar (acc2++ds) G) Q->∃m,m<n/\P m s2)->
   vk (vK X.prog X.w) X.A (assign tg B.env u) (λ_ s₂=>
     vk (vK X.prog X.w) X.A (forIn ifs vT λc r=>if r=vT then do let ok<-isTrue c B.env (eval c B.env);pure (ForInStep.yield ok)else pure (ForInStep.yield r)) (λok s₃=>
      if ok=vT then vk (vK X.prog X.w) X.A (eval elt B.env) (λx s₄=>
       vk (vK X.prog X.w) X.A (call (.builtin "list.append") [.ref Dd,x]) (λ_ s₅=>∃m,m<n/\P m s₅) (λ_ _=>False) s₄) (λ_ _=>False) s₃
      else∃m,m<n/\P m s₃) (λ_ _=>False) s₂) (λ_ _=>False) s1:=by
  intro n P rest s1 b G1 σ1 its acc u v x i I1 x1 sb rSb t1 hfp pl hD hacc' ru rx hq next
  rw[R.bind_assoc]at hq;obtain⟨nD,eD⟩:=id pl;let pinD:List (xW×Obj):=[(Dd,{cls:=.type "list",data:=.seq its.toArray nD})];have pinOk:∀{σ':St}{H':Hp}{s':xy},Inv B (pinD++N5 fp s1.heap) σ' H' s'->s'.heap.PlainList Dd its.toArray/\H' Dd=vS/\tn i s'.heap/\∀q∈fp,H' q=vS:=λ{σ' H' s'}J=>by
   have p1:=J.pin (Dd,{cls:=.type "list",data:=.seq its.toArray nD}) (zE _ (jS _ (by simp[pinD])));refine⟨⟨nD,p1.1⟩,p1.2.1,T.keep _ _ _ t1 λq hq' o e=>(J.pin (q,o) (zE _ (zE _ (Rc hq' e)))).1,λq hq'=>?_⟩;obtain⟨o,e,_⟩:=T.obj _ _ t1 q hq';exact(J.pin (q,o) (zE _ (zE _ (Rc hq' e)))).2.1
  have I2:Inv B (pinD++N5 fp s1.heap) σ1 b.H s1:=I1.Gs λp hp=>by
   rcases jA.mp hp with hp|hp
   ·have e:p=(Dd,{cls:=.type "list",data:=.seq its.toArray nD}):=by simpa[pinD]using hp
    subst e;refine⟨eD,hD,hDC,λz=>?_,λv' z=>by cases z⟩;exact nstk z
   ·obtain⟨hb,e⟩:=ZCO hp;obtain⟨f0,f1,f2,_⟩:=fpB (ps:=[]) hfp (λp hp=>by cases hp) p.1 hb;obtain⟨o,e',dd⟩:=T.obj _ _ t1 p.1 hb;rw[e]at e';cases e';exact⟨e,f0,f1,f2,dd⟩
  refine thn (hg C s a.H fp _ s1 σ1 b.H v u _ I2 ru ⟨b,Bf nt caps S,G1,x,x1.k.trans hk,rfl,sb,rSb,rx,(ZJL hq).imp λ_ _ z=>z⟩) ?_;rintro _ s2 ⟨σ2,H2',J2,b2,S2,G2,rfl,y2,sb2,rS2,eg,hq2⟩;rw[R.bind_assoc]at hq2;have rS2':RepS b2 (Bf nt caps S) σ2:=⟨by have h1:=J2.len;have h2:σ1.length=N.length:=I1.len;rw[rSb.len,h2];exact h1.symm,λj e' hj=>rS2.get j e' (gk _ _ _ _ _ eg j e' (ZIo hj) hj)⟩
  refine thn (hts C s a.H fp _ s2 σ2 b2.H _ J2 ⟨b2,S2,G2,y2.k.trans (x1.k.trans hk),rfl,sb2,rS2,(ZB4 hq2).imp λ_ _ z=>z⟩) ?_;rintro k s3 ⟨H3,J3,b3,G3,rfl,y3,sb3,_,hq3⟩;cases k with
  |false=>
   obtain⟨p1,p2,p3,p4⟩:=pinOk J3;have Jn:Inv B [] σ2 b3.H s3:=J3.Gs λp hp=>by cases hp
   obtain⟨vs,hv,rv⟩:=hacc'
   exact next s3 b3 G3 σ2 its acc Jn (x1.trans (y2.trans y3)) sb3 (rS2'.mono y3) p3 p4 p1 p2 ⟨vs,hv,(rv.mono y2).mono y3⟩ hq3
  | true=>
   have hq3':out E0 b3 (((te S2 G3).bind λd G3=>(rest G3).bind λds G4=>.ok (d::ds) G4).bind λds G=>Ar (acc++ds) G) Q:=hq3;rw[R.bind_assoc]at hq3';refine thn (he C s a.H fp _ s3 σ2 b3.H _ J3 ⟨b3,S2,G3,y3.k.trans (y2.k.trans (x1.k.trans hk)),rfl,sb3,rS2.mono y3,(Dj hq3').imp λ_ _ z=>z⟩) ?_;rintro w s4 ⟨vw,H4,J4,rw',b4,d4,G4,rfl,y4,sb4,q4,_,hq4⟩;obtain⟨p1,p2,p3,p4⟩:=pinOk J4;rw[R.bind_assoc]at hq4
   have hq4':out E0 b4 ((rest G4).bind λds G=>Ar ((acc++[d4])++ds) G) Q:=by
    have e:(λ(ds:List D)(G:DH)=>(R.ok (d4::ds) G).bind λds G=>Ar (acc++ds) G)=λds G=>Ar ((acc++[d4])++ds) G:=by funext ds G;simp
    rw[<-e];exact hq4
   obtain⟨vs,hv,rv⟩:=hacc';have hsz:its.toArray.size<=sizeLine:=by
    have:acc.length<=1000000:=by
     cases hr:rest G4 with
     |ok ds G5=>
      rw[hr]at hq4';have hq5:out E0 b4 (Ar ((acc++[d4])++ds) G5) Q:=hq4';unfold Ar at hq5;split at hq5
      ·rename_i hl;simp at hl;lia
      ·exact hq5.elim
     |err e' G5=>rw[hr]at hq4';exact(hq4'.1 rfl).elim
     |bad=>rw[hr]at hq4';exact hq4'.elim
    rw[zx,<-hv.length,<-rv.length];exact z0 this size6
   refine wpAny_list_append_plain p1 (λh' hpl hsb=>?_) hsz;have Jn:Inv B [] σ2 b4.H s4:=J4.Gs λp hp=>by cases hp
   have J5:Inv B [] σ2 b4.H {s4 with heap:=h'}:=by refine Jn.turned (it:=Dd) (t':=s4.toks) (λq o hq' e=>(hsb.2 q hq').trans e) p2 hDC (.inr (by show s.heap.objs.size<=Dd;rw[hDe];exact zK _)) (λy c' ec=>?_) (λp hp=>absurd hp (by simp[B,blk]));obtain⟨v',o,e,_⟩:=I.cell y c' (cs.cl I.ok ec);intro z;rw[z,<-hDe]at e;exact absurd (zW e) (zT _)
   refine next _ b4 G4 σ2 (its++[w]) (acc++[d4]) J5 (x1.trans (y2.trans (y3.trans y4))) sb4 ((rS2'.mono y3).mono y4) (T.keep _ _ _ p3 λq hq' o e=>(hsb.2 q (λz=>hDf (z▸hq'))).trans e) p4 (by simpa using hpl) p2 ⟨vs++[vw],hv.append (.cons rw' .nil),(((rv.mono y2).mono y3).mono y4).append (Reps.cons q4 Reps.nil)⟩ hq4'
 have loop:∀s₃:xy,s₃={s with heap:=h₁,toks:=s.toks+([]:List (Str×xB)).length}->
   codeAny (vK X.prog X.w) X.A (.compLoop (.ListComp elt [⟨tg,iter,ifs,0⟩] scope pos) 0 (.ref i0) (.ref Dd) B.env) (RR (.ref Dd) C) s₃:=by
  rintro s₃ rfl;have t1:tn 0 h₁:=T.keep _ _ _ t0 λq _ o e=>old q o e
  have fp0:∀q∈fp,a.H q=vS:=λq hq=>(hf q hq).1
  have walk:∀b:Wd,Ext a b->∀G,Sim b G->∀i,(∀d,f i G=vR (vR d)->J.go i b.H/\∀x H',J.yld i b.H x H'->∃c:Wd,c.H=H'/\Ext b c/\Sim c G/\Rep c d x)/\(f i G=vR vS->J.stop i b.H):=rJ;refine ZIn (λm s'=>∃(i:Nat)(b:Wd)(G':DH)(σ':St)(its:List xB)(acc:List D),Inv B [] σ' b.H s'/\Ext a b/\Sim b G'/\RepS b (Bf nt caps S) σ'/\tn i s'.heap/\(∀q∈fp,b.H q=vS)/\s'.heap.PlainList Dd its.toArray/\b.H Dd=vS/\(∃vs,Vals vs its/\Reps b acc vs)/\
   out E0 b ((Cw f g c te (Bf nt caps S) m i G').bind λds G=>Ar (acc++ds) G) Q) ?_ n0 ⟨0,a,G,σ0,[],[],start _,Ext.refl a,sm,rS0,t1,fp0,hacc,aD,⟨[],.nil,rfl⟩,by simpa using h⟩
  rintro m s' ⟨i,b,G',σ',its,acc,IB,x,sb,rSb,ti,hfp,pl,hD,hac,hq⟩;obtain⟨nD,eD⟩:=pl;have I0:=pinD IB eD hD;have f0:=fpB (ps:=[(Dd,{cls:=.type "list",data:=.seq its.toArray nD})]) hfp (λp hp=>by
   have ep:p=(Dd,{cls:=.type "list",data:=.seq its.toArray nD}):=by simpa using hp
   subst ep;exact hDf)
  have stop:J.stop i b.H->out E0 b (Ar acc G') Q->vk (vK X.prog X.w) X.A (pyNext (.ref i0)) (λr s₁=>match r with
    |none=>RR (.ref Dd) C (.ok .next) s₁
    | some v=>vk (vK X.prog X.w) X.A (vV tg (.ref i0) v) (λ_ s₁=>vk (vK X.prog X.w) X.A (assign tg B.env v) (λ_ s₂=>
     vk (vK X.prog X.w) X.A (forIn ifs vT λc r=>if r=vT then do let ok<-isTrue c B.env (eval c B.env);pure (ForInStep.yield ok)else pure (ForInStep.yield r)) (λok s₃=>
      if ok=vT then vk (vK X.prog X.w) X.A (eval elt B.env) (λx s₄=>
       vk (vK X.prog X.w) X.A (call (.builtin "list.append") [.ref Dd,x]) (λ_ s₅=>∃m',m'<m/\∃(i:Nat)(b:Wd)(G':DH)(σ':St)(its:List xB)(acc:List D),Inv B [] σ' b.H s₅/\Ext a b/\Sim b G'/\RepS b (Bf nt caps S) σ'/\tn i s₅.heap/\(∀q∈fp,b.H q=vS)/\s₅.heap.PlainList Dd its.toArray/\b.H Dd=vS/\(∃vs,Vals vs its/\Reps b acc vs)/\
        out E0 b ((Cw f g c te (Bf nt caps S) m' i G').bind λds G=>Ar (acc++ds) G) Q) (λ_ _=>False) s₄) (λ_ _=>False) s₃
      else∃m',m'<m/\∃(i:Nat)(b:Wd)(G':DH)(σ':St)(its:List xB)(acc:List D),Inv B [] σ' b.H s₃/\Ext a b/\Sim b G'/\RepS b (Bf nt caps S) σ'/\tn i s₃.heap/\(∀q∈fp,b.H q=vS)/\s₃.heap.PlainList Dd its.toArray/\b.H Dd=vS/\(∃vs,Vals vs its/\Reps b acc vs)/\
        out E0 b ((Cw f g c te (Bf nt caps S) m' i G').bind λds G=>Ar (acc++ds) G) Q) (λ_ _=>False) s₂) (λ_ _=>False) s₁) (λ_ _=>False) s₁) (λ_ _=>False) s':=by
   intro st hq';refine thn (T.done B rfl rfl rfl hc i _ s' σ' b.H _ I0 f0 ti st) ?_;rintro r s1 ⟨rfl,I2⟩;have pD:=(I2.pin (Dd,{cls:=.type "list",data:=.seq its.toArray nD}) (zE _ (by simp))).1;exact fin s1 b σ' its acc G' (I2.Gs λp hp=>by cases hp) x sb ⟨nD,pD⟩ hD hac hq'
  cases m with
  |zero=>
   unfold Cw at hq;split at hq
   ·rename_i hf;exact stop ((walk b x G' sb i).2 hf) (by have hq':out E0 b (Ar (acc++[]) G') Q:=hq;rw[zP]at hq';exact hq')
   ·exact hq.elim
  | succ m=>
   unfold Cw at hq;split at hq
   ·rename_i d1 hf;obtain⟨go,yl⟩:=(walk b x G' sb i).1 d1 hf;refine thn (T.item B rfl rfl rfl hc i _ s' σ' b.H _ I0 f0 ti go) ?_;rintro r s1 ⟨u,rfl,hgo⟩;refine thn hgo ?_;rintro _ s2 ⟨v,H',I2,ru,y,t2,hfp2⟩;obtain⟨cc,rfl,xx,ss,rd⟩:=yl v H' y;have pD:=I2.pin (Dd,{cls:=.type "list",data:=.seq its.toArray nD}) (zE _ (by simp));obtain⟨vs1,hv1,rv1⟩:=hac;refine turnX _ _ (λG3=>Cw f g c te (Bf nt caps S) m (i+1) G3) s2 cc G' σ' its acc u _ d1 (i+1) (I2.Gs λp hp=>by cases hp) (x.trans xx) ss (rSb.mono xx) t2 hfp2 ⟨nD,pD.1⟩ pD.2.1 ⟨vs1,hv1,rv1.mono xx⟩ ru rd (out.mono xx hq) ?_
    intro s3 b3 G3 σ3 its3 acc3 a1 a2 a3 a4 a5 a6 a7 a8 a9 a10;exact⟨m,zU _,i+1,b3,G3,σ3,its3,acc3,a1,a2,a3,a4,a5,a6,a7,a8,a9,a10⟩
   ·rename_i hf;exact stop ((walk b x G' sb i).2 hf) (by have hq':out E0 b (Ar (acc++[]) G') Q:=hq;rw[zP]at hq';exact hq')
   ·exact hq.elim
 exact codeAny_compStart_list (loop _ rfl) (T.self _ 0 _ _ _ (T.keep _ _ _ t0 λq _ o e=>old q o e) (loop _ rfl))
theorem Wr:∀(n j:Nat)(G:DH),j+n=xs.length->Cq g c te S (xs.drop j) G=Cw (λj _=>vR xs[j]?) g c te S n j G
 |0,j,G,h=>by
  rw[qk (by lia)]
  show _=(match vR xs[j]? with |some vS=>R.ok [] G|_=>.bad)
  rw[zH (by lia)]
  rfl
 |n+1,j,G,h=>by
  have hj:j<xs.length:=by lia
  rw[qG hj]
  show(g xs[j] S G).bind _=(match vR xs[j]? with |some (vR x)=>_|some vS=>R.ok [] G|none=>.bad)
  rw[zY hj];dsimp only
  congr 1
  funext S1 G1
  congr 1
  funext k G2;rw[Wr n (j+1) G2 (by lia)]
  congr 1
  congr 1
  funext d G3;rw[Wr n (j+1) G3 (by lia)]
theorem ZEe:∀(n j:Nat)(G:DH),Ec i g c te S n j G=Cw (mtF i) g c te S n j G
 | 0,j,G=>by
  unfold Ec Cw mtF;cases G[i]? with
  |none=>rfl
  | some o=>
   cases o with
   |lst xs=>
    dsimp only;by_cases hj:j<xs.length
    ·rw[if_neg (by lia),zY hj]
    ·rw[if_pos (by lia),zH (by lia)]
   |_=>rfl
 | n+1,j,G=>by
  have ih:(Ec i g c te S n (j+1))=Cw (mtF i) g c te S n (j+1):=funext λG=>ZEe n (j+1) G
  unfold Ec Cw;rw[ih];unfold mtF;cases G[i]? with
  |none=>rfl
  | some o=>
   cases o with
   |lst xs=>
    dsimp only
    cases xs[j]?<;>rfl
   |_=>rfl
theorem ZEo(hc:X.calm=vT)(cs:CompSc X N scope nt caps)
  (hg:∀C s₀ H₀ ex,QG (blk X N scope C s₀ H₀ ex) E0 tg g) (gk:GK nt g) (hts:∀C s₀ H₀ ex,QTs (blk X N scope C s₀ H₀ ex) E0 ifs c) (he:∀C s₀ H₀ ex,QE (blk X N scope C s₀ H₀ ex) E0 elt te)
  {pins:List (xW×Obj)} {σ:St} {s:xy} {a:Wd} {S:DSt} {G:DH} {J:It} {d:ItD} {i0:xW} {fp:List xW} {tn:Nat->Heap->Prop} (I:Inv X pins σ a.H s) (hk:a.K=X.K) (sm:Sim a G) (rS:RepS a S σ)
  (T:Turn X.prog X.w X.K tg J fp i0 tn) (t0:tn 0 s.heap) (hf:∀b∈fp,FpOk X pins a.H b) (rJ:RepI a d J) {Q:VK}
  (h:out E0 a ((match d with
   |.pure xs=>Cq g c te (Bf nt caps S) xs G
   |.mt i=>match G[i]? with
    |some (.lst xs)=>Ec i g c te (Bf nt caps S) xs.length 0 G
    |_=>.bad
   |.fn n f=>Cw f g c te (Bf nt caps S) n 0 G).bind Ar) Q)
  {RR:xB->xW->Result->xy->Prop} {E':xB->xy->Prop}
  (hRR:∀(D C:xW)(s':xy)(b:Wd)(vs:List V),Inv X pins σ (upd b.H D (.lst vs)) s'->b.H D=vS->s.heap.objs.size<=C->D≠C->(∃m,s'.heap.Ns C m)->b.H C=vS->Q (.ref D) (upd b.H D (.lst vs))->RR (.ref D) C (.ok .next) s'):
  vk (vK X.prog X.w) X.A (newList []) (λacc s₃=>vk (vK X.prog X.w) X.A (newFunctionEnv scope X.env.globals (Ck X.env scope.names []) [] X.env.qual vS .none (vR X.env)) (λcenv s₄=>
   codeAny (vK X.prog X.w) X.A (.compStart (.ListComp elt [⟨tg,iter,ifs,0⟩] scope pos) 0 (.ref i0) acc {cenv with scope:=relabel scope X.env}) (RR acc cenv.locals) s₄) E' s₃) E' s:=by
 cases d with
 |pure xs=>
  have h':out E0 a ((Cq g c te (Bf nt caps S) (xs.drop 0) G).bind Ar) Q:=h;rw[Wr xs.length 0 G (by lia)]at h';exact Xv hc cs hg gk hts he I hk sm rS T t0 hf (ZBi rJ) h' hRR
 |mt k=>
  dsimp only at h;split at h
  ·rename_i xs hx;rw[ZEe]at h;exact Xv hc cs hg gk hts he I hk sm rS T t0 hf (ZEx rJ) h hRR
  ·exact h.elim
 |fn n0 f=>exact Xv hc cs hg gk hts he I hk sm rS T t0 hf rJ h hRR
end
section
variable{X:Cx}{N:List Str}{scope:xk}{nt:Nat}{caps:List Nat}{tg elt iter:xY}{ifs:List xY}{pos:Pos}{it:DI}{g:DG}{c:DB}{te:DE}
theorem letGo{pins:List (xW×Obj)}{s2 s':xy}{h':Heap}{C:xW}{t':Nat}{σ2:St}{H2:Hp}(I2:Inv X pins σ2 H2 s2)(Ia:Inv X pins σ H s')(hC:s2.heap.objs.size<=C)(hn:H C=vS)(hsb:qx C s'.heap h'):Inv X pins σ H {s' with heap:=h',toks:=t'}:=by
 have young:∀{b:xW}{o:Obj},s2.heap.get? b=vR o->b≠C:=λe z=>by rw[z]at e;exact absurd (zX (zW e) hC) (zT _)
 refine Ia.turned (it:=C) (λb o hb e=>(hsb.2 b hb).trans e) hn (qy (zX I2.lt hC)) (.inr (z0 I2.sz hC)) (λx c' e=>?_) λp hp=>?_
 ·obtain⟨v,o,e',_⟩:=I2.cell x c' e;exact young e'
 ·exact young (I2.pin p hp).1
theorem Kc(hc:X.calm=vT)(cs:CompSc X N scope nt caps)(hi:QI X E0 tg iter it)
  (hg:∀C s₀ H₀ ex,QG (blk X N scope C s₀ H₀ ex) E0 tg g) (gk:GK nt g) (hts:∀C s₀ H₀ ex,QTs (blk X N scope C s₀ H₀ ex) E0 ifs c) (he:∀C s₀ H₀ ex,QE (blk X N scope C s₀ H₀ ex) E0 elt te)
  (hs:∀x,foldedSetIterable iter X.env x=pure x:=by intro _;rfl):QE X E0 (.ListComp elt [⟨tg,iter,ifs,0⟩] scope pos) (Ex it nt caps g c te):=by
 intro pins s σ H Q I h;obtain⟨a,S,G,hk,rfl,sm,r,h⟩:=h;rw[eval_ListComp];refine wpAny_comprehension_free (use:=vS) rfl hs (Zi (cs.cells I.ok)) cs.kind cs.names (thn (hi pins s σ a.H _ I ⟨a,S,G,hk,rfl,sm,r,(ZEK h).imp λ_ _ z=>z⟩) λxv s1 h1=>thn h1 λitv s2 h2=>?_);obtain⟨i0,fp,tn,J,H2,rfl,I2,T,t0,f2,b,d,G1,rfl,x,sb,rJ,_,h1⟩:=h2;refine ZEo hc cs hg gk hts he I2 (x.k.trans hk) sb (r.mono x) T t0 f2 rJ h1 (RR:=λacc C=>compPost (vK X.prog X.w) X.A X.xe vS (EP X pins σ Q) acc C) ?_
 intro D C s' b vs Ia hD hCle hDC ⟨m,hn⟩ hCn hq;refine⟨m,hn,λh' hsb=>⟨.ref D,_,letGo I2 Ia hCle ?_ hsb,rfl,hq⟩⟩;rw[Aq (Ne.symm hDC)];exact hCn
theorem V3(i:Nat){y:Str}{py spos:Pos}(hc:X.calm=vT)(hN:X.N.Nodup)(cs:CompSc X N scope nt caps)(hi:QI X E0 tg iter it)
  (hg:∀C s₀ H₀ ex,QG (blk X N scope C s₀ H₀ ex) E0 tg g) (gk:GK nt g) (hts:∀C s₀ H₀ ex,QTs (blk X N scope C s₀ H₀ ex) E0 ifs c) (he:∀C s₀ H₀ ex,QE (blk X N scope C s₀ H₀ ex) E0 elt te)
  (hy:X.N[i]?=vR y:=by rfl) (hx:Loc X.env.scope y:=by first|exact Or.inl rfl|exact Or.inr rfl) (hf:X.fn y=vT∨X.env.scope.names.lookup y=vR .local:=by first|exact .inl rfl|exact .inr rfl|assumption)
  (hsw:swapsWith (.ListComp elt [⟨tg,iter,ifs,0⟩] scope pos) (vR (.Name y py)) spos.line X.env=pure vT:=by rfl)
  (hs:∀x,foldedSetIterable iter X.env x=pure x:=by intro _;rfl):QS X E0 (.Assign [.Name y py] (.ListComp elt [⟨tg,iter,ifs,0⟩] scope pos) spos) (sAs (Ex it nt caps g c te) (gV i)):=by
 intro pins s σ H W I h;obtain⟨a,S,G,hk,rfl,sm,r,h⟩:=h;have h0:=Gz h;rw[exec_Assign_Name_used _ _ _ _ hsw];refine vB (wpAny_standAt (vB ?_))
 show vk _ X.A (do let _<-comprehension (.ListComp elt [⟨tg,iter,ifs,0⟩] scope pos) scope X.env _ (newList []) vU (eval iter X.env) (vR (assign (.Name y py) X.env))) _ _ s
 refine vB (vG (wpAny_comprehension_free (use:=vR (assign (.Name y py) X.env)) (Q:=λ_ s'=>SP X pins W .next s') rfl hs (Zi (cs.cells I.ok)) cs.kind cs.names
  (thn (hi pins s σ a.H _ I ⟨a,S,G,hk,rfl,sm,r,(ZEK h0).imp λ_ _ z=>z⟩) λxv s1 h1=>thn h1 λitv s2 h2=>?_)) (λ_ s' hq=>vL (vL hq)) λ_ _ e=>e)
 obtain⟨i0,fp,tn,J,H2,rfl,I2,T,t0,f2,b,d,G1,rfl,x,sb,rJ,_,h1⟩:=h2
 refine ZEo hc cs hg gk hts he I2 (x.k.trans hk) sb (r.mono x) T t0 f2 rJ h1 (RR:=λacc C=>compPost (vK X.prog X.w) X.A X.xe (vR (assign (.Name y py) X.env)) (λ_ s'=>SP X pins W .next s') acc C) ?_
 intro D C s' b' vs Ia hD hCle hDC ⟨m,hn⟩ hCn hq;show vk _ X.A (assign (.Name y py) X.env (.ref D)) _ _ _;refine wpAny_assign_Name (ZA1 Ia hN hy hx (v:=.ref D) rfl (λs'' I'' hch=>?_) hf);obtain⟨a',hsb',ha'⟩:=hch;have hCa:C≠a':=by
  rintro rfl;rcases ha' with rfl|ha'
  ·exact absurd (zX I2.lt hCle) (zT _)
  ·obtain⟨v,o,e',_⟩:=I2.cell _ _ ha';exact absurd (zX (zW e') hCle) (zT _)
 refine⟨m,hn.sameBut hsb' hCa,λh' hsb=>⟨_,_,letGo I2 I'' hCle ?_ hsb,?_⟩⟩
 ·rw[Aq (Ne.symm hDC)];exact hCn
 ·obtain⟨b3,d3,G3,e3,x3,s3,q3,_,h3⟩:=hq;rw[<-e3];exact h3 b3 _ (Ext.refl b3) s3 ((r.mono x3).set i q3)
end
def Ik:D->DH->R D
 |.int i,G=>.ok (.int (-i)) G
 |_,_=>.bad
noncomputable def Cr:D->Bool
 |.non=>vT
 |_=>vU
def Gm:D->D->DH->R D
 |d,.non,G=>.ok (.bl (Cr d)) G
 |_,_,_=>.bad
def Lw:D->D->DH->R D
 |d,.non,G=>.ok (.bl (!Cr d)) G
 |_,_,_=>.bad
noncomputable def Nm:D->Option V
 |.non=>vR .non
 |.bl b=>vR (.bl b)
 |.int i=>vR (.int i)
 |.str x=>vR (.str x)
 |_=>vS
def Ju:List D->Option (List V)
 |[]=>vR []
 |d::r=>match Nm d,Ju r with
  |some v,vR vs=>vR (v::vs)
  |_,_=>vS
def inD(d e:D)(G:DH):Option Bool:=match e with
 |.str j=>match d with
  |.str i=>vR (!(Builtin.Str.occurrences j i 0 j.length 1).isEmpty)
  |_=>vS
 |e=>match Bp e G,Nm d with
  |some xs,vR v=>(Ju xs).map λvs=>inV v vs
  |_,_=>vS
def Lj(d e:D)(G:DH):R D:=match inD d e G with
 |some k=>.ok (.bl (!k)) G
 |none=>.bad
section
variable{X:Cx}{E:XK}{a b:xY}{ta tb:DE}{pos:Pos}
theorem Ke:UnR X (unaryOp .USub) (lR1 X.K E Ik):=λpins s σ H x v Q I rx h=>by
 obtain⟨a,G,d,hk,rfl,sm,rd,q⟩:=h;cases d with
 |int i=>exact ZLb pins s σ a.H x v Q I rx ⟨i,rd,q a _ (Ext.refl a) sm rfl⟩
 |_=>exact q.elim
theorem Ks{op:UnaryOp}{f:D->DH->R D}(ho:UnR X (unaryOp op) (lR1 X.K E f))(ha:QE X E a ta):QE X E (.UnaryOp op a pos) (dUn f ta):=(ZMC ho ha).mono λσ H Q h=>by obtain⟨a,S,G,hk,rfl,s,r,h⟩:=h;refine⟨a,S,G,hk,rfl,s,r,(Dj h).imp ?_⟩;rintro v _ ⟨b,d,G1,rfl,x,s1,q,-,h1⟩;exact⟨b,G1,d,x.k.trans hk,rfl,s1,q,h1⟩
theorem Ww{n:String}(hg:Gl X x)(hm:X.mg x=vS)(hv:xL x=vR (.type n))(hn:x≠"__name__":=by decide)(hd:(x==("__debug__":Str))=vU:=by decide):QE X E (.Name x pos) (dC (.ty n)):=
 (ZBw (v:=.ty n) hg hm hv rfl hn hd).mono λσ H Q h=>Ni h λ_ _=>rfl
theorem ZER{a:Wd}{x:V}(rd:Rep a d x):decide (x=V.non)=Cr d:=by
 cases d with
 |non=>rw[show x=V.non from rd];rfl
 |bl _=>rw[show x=V.bl _ from rd];rfl
 |int _=>rw[show x=V.int _ from rd];rfl
 |str _=>rw[show x=V.str _ from rd];rfl
 |ty _=>rw[show x=V.ty _ from rd];rfl
 |tup _=>obtain⟨p,vs,rfl,_⟩:=rd;rfl
 |fl _=>obtain⟨p,vs,rfl,_⟩:=rd;rfl
 |ref _=>rw[rd.2];rfl
theorem Mx:OpR X (xP .Is) (lR2 X.K E Gm):=Fe ZLW λa G d e x y Q hk s rd re q=>by
 cases e with
 |non=>exact⟨re,by rw[ZER rd];cases d<;>exact q a _ (Ext.refl a) s rfl⟩
 |_=>cases d<;>exact q.elim
theorem Vm:OpR X (xP .IsNot) (lR2 X.K E Lw):=Fe ZFi λa G d e x y Q hk s rd re q=>by
 cases e with
 |non=>exact⟨re,by rw[ZER rd];cases d<;>exact q a _ (Ext.refl a) s rfl⟩
 |_=>cases d<;>exact q.elim
theorem ZBj{a:Wd}{x:V}(r:Rep a d x)(h:Nm d=vR v):x=v/\De v=vT:=by
 cases d<;>first
  |(cases h;exact⟨r,rfl⟩)
  |cases h
theorem ZC1{a:Wd}:∀{ds:List D}{xs vs:List V},Reps a ds xs->Ju ds=vR vs->xs=vs/\vs.all De=vT
 |[],xs,vs,r,h=>by cases h;exact⟨r,rfl⟩
 |d::ds,xs,vs,r,h=>by
  obtain⟨x,r',rfl,r1,r2⟩:=r;unfold Ju at h;split at h
  ·rename_i v ws h1 h2;cases h;obtain⟨e1,f1⟩:=ZBj r1 h1;obtain⟨e2,f2⟩:=ZC1 r2 h2;subst e1;subst e2;exact⟨rfl,by rw[qU,f1,f2];rfl⟩
  ·cases h
theorem ZGy{a:Wd}{e:D}{x:V}{k:Bool}(s:Sim a G)(rd:Rep a d x)(re:Rep a e y)(h:inD d e G=vR k):
  (∃i j,x=.str i/\y=.str j/\k= !(Builtin.Str.occurrences j i 0 j.length 1).isEmpty)∨(∃p xs,y=.ref p/\(SqL a.K a.H p xs∨SqT a.K a.H p xs)/\De x=vT/\xs.all De=vT/\k=inV x xs):=by
 have seq:(match Bp e G,Nm d with |some xs,vR v=>(Ju xs).map λvs=>inV v vs|_,_=>vS)=vR k->(∃p xs,y=.ref p/\(SqL a.K a.H p xs∨SqT a.K a.H p xs)/\De x=vT/\xs.all De=vT/\k=inV x xs):=λh=>by
  split at h
  ·rename_i xs v h1 h2;obtain⟨p,ws,e1,q,r1⟩:=O6 s re h1;obtain⟨e2,f2⟩:=ZBj rd h2;subst e2;rw[zM]at h;obtain⟨us,h3,h4⟩:=h;obtain⟨e3,f3⟩:=ZC1 r1 h3;subst e3;exact⟨p,ws,e1,q,f2,f3,h4.symm⟩
  ·cases h
 cases e with
 |str j=>
  cases d with
  |str i=>exact .inl ⟨i,j,rd,re,(Option.some.inj h).symm⟩
  |_=>cases h
 |tup xs=>exact .inr (seq h)
 |fl xs=>exact .inr (seq h)
 |ref i=>exact .inr (seq h)
 |_=>exact .inr (seq h)
theorem ZL7:OpR X (xP .NotIn) (lR2 X.K E Lj):=Fe (ZHy.or ZJG) λa G d e x y Q hk s rd re q=>by
 unfold Lj at q;split at q
 ·rename_i k h;have z:=q a _ (Ext.refl a) s rfl;rcases ZGy s rd re h with⟨i,j,e1,e2,rfl⟩|⟨p,xs,e1,hq,f1,f2,rfl⟩
  ·exact .inl ⟨i,j,e1,e2,z⟩
  ·exact .inr ⟨p,xs,e1,by rw[<-hk];exact hq,f1,f2,z⟩
 ·exact q.elim
end
theorem Qh:xL "isinstance"=vR (.builtin "isinstance"):=by decide +kernel
theorem Vz:xL "sum"=vR (.builtin "sum"):=by decide +kernel
theorem ZDJ:xL "min"=vR (.builtin "min"):=by decide +kernel
theorem Jr:xL "len"=vR (.builtin "len"):=by decide +kernel
theorem ZED:xL "int"=vR (.type "int"):=by decide +kernel
theorem ZJ5:xL "bool"=vR (.type "bool"):=by decide +kernel
theorem ZGe:xL "tuple"=vR (.type "tuple"):=by decide +kernel
theorem Ld:xL "list"=vR (.type "list"):=by decide +kernel
noncomputable def Lq:xz->Bool | .local=>vT|_=>vU
noncomputable def Kg:xz->Bool | .cell=>vT|_=>vU
noncomputable def Jt:xz->Bool | .free=>vT|_=>vU
noncomputable def isK(p:xz->Bool):Option xz->Bool|some k=>p k|none=>vU
theorem ZKf{k:xz}(h:Lq k=vT):k=.local:=by cases k<;>first|rfl|cases h
theorem ZF6{k:xz}(h:Kg k=vT):k=.cell:=by cases k<;>first|rfl|cases h
theorem ZDt{k:xz}(h:Jt k=vT):k=.free:=by cases k<;>first|rfl|cases h
theorem Tr{p:xz->Bool}{k:xz}(hp:∀k',p k'=vT->k'=k){o:Option xz}(h:isK p o=vT):o=vR k:=by
 cases o with
 |none=>cases h
 |some k'=>rw[hp _ h]
def ZEq(dn:List (Str×xz))(N0 N:List Str)(names:List (Str×xz))(nt:Nat)(caps:List Nat):Bool:=
 names.all (λy=>(!Lq y.2||isK Lq (names.lookup y.1)) && !Kg y.2&&(!Jt y.2||isK Kg (dn.lookup y.1)||isK Jt (dn.lookup y.1)))&&decide N.Nodup&&decide (N.length=nt+caps.length) &&
 (zJ caps.length).all λk=>match caps[k]? with
  |some j=>match N0[j]? with
   |some x=>decide (N[nt+k]?=vR x)&&isK Jt (names.lookup x)
   |none=>vU
  |none=>vT
theorem Hh{X:Cx}{N0 N:List Str}{nt:Nat}{caps:List Nat}{dn:List (Str×xz)}(hk:scope.kind=.function:=by rfl)(hdn:∀x,X.env.kindOf x=dn.lookup x:=by intro _;rfl)(hN:X.N=N0:=by rfl)
  (h:ZEq dn N0 N scope.names nt caps=vT:=by decide +kernel):CompSc X N scope nt caps:=by
 unfold ZEq at h;rw[zB,zB,zB]at h;obtain⟨⟨⟨h1,h2⟩,h3⟩,h4⟩:=h;rw[j6]at h1 h4;have key:=λ(y:Str×xz)(hy:y∈scope.names)=>(by have:=h1 y hy;rw[zB,zB]at this;exact this:((!Lq y.2||isK Lq (scope.names.lookup y.1))=vT/\(!Kg y.2)=vT)/\(!Jt y.2||isK Kg (dn.lookup y.1)||isK Jt (dn.lookup y.1))=vT)
 refine⟨hk,λy hy hl=>?_,λy hy hl=>?_,λy hy hl=>?_,of_decide_eq_true h2,of_decide_eq_true h3,λk j hj=>?_⟩
 ·have:=(key y hy).1.1;rw[hl]at this;exact Tr (p:=Lq) (λ_ h=>ZKf h) (by have t:(vU||isK Lq (scope.names.lookup y.1))=vT:=this;simpa using t)
 ·have:=(key y hy).1.2;rw[hl]at this;exact absurd this (by decide)
 ·have:=(key y hy).2;rw[hl,Bool.or_eq_true]at this;rw[hdn];rcases this with h|h
  ·exact .inl (Tr (p:=Kg) (λ_ h=>ZF6 h) (by have t:(vU||isK Kg (dn.lookup y.1))=vT:=h;simpa using t))
  ·exact .inr (Tr (p:=Jt) (λ_ h=>ZDt h) h)
 ·have hk':k<caps.length:=(zk.mp hj).1;have:=h4 k (qX.mpr hk');rw[hj]at this;dsimp only at this;cases e:N0[j]? with
  |none=>rw[e]at this;cases this
  |some x=>
   rw[e]at this;dsimp only at this;rw[zB]at this;exact⟨x,by rw[hN];exact e,of_decide_eq_true this.1,Tr (p:=Jt) (λ_ h=>ZDt h) this.2⟩
section
section
variable{X:Cx}{pins:List (xW×Obj)}{σ:St}{H:Hp}{s:xy}
theorem ZJR{xs:List V}(I:Inv X pins σ H s)(h:H p=vR (.lst xs)):∃o,Inv X pins σ (upd H p (.frz o (.lst xs))) s:=by
 obtain⟨hl,its,n,r,e⟩:=I.hok p _ h;have nt:∀b(u:HO),H b=vR u->u≠ .lst xs->b≠p:=λb u q d z=>by subst z;rw[h]at q;exact d (Option.some.inj q).symm
 refine⟨_,I.un (t':=s.toks) (H':=upd H p (.frz {cls:=.type "list",data:=.seq its.toArray n} (.lst xs))) ⟨λb o q _ _ _=>q,λb o q _ _ _=>⟨o.slots,q⟩,λb o q z _=>?_,λb o q _=>⟨o,q⟩,λb ys q=>?_,λb o u q=>?_,λb ps q=>⟨#[],?_⟩⟩ ?_⟩
 ·rw[Aq (λz'=>by subst z';rw[h]at z;cases z)];exact z
 ·rw[Aq (nt b _ q (by intro z;cases z))];exact q
 ·rw[Aq (nt b _ q (by intro z;cases z))];exact q
 ·rw[Aq (nt b _ q (by intro z;cases z)),Array.append_empty];exact q
 ·intro b u q;by_cases hb:b=p
  ·subst hb;rw[Do]at q;cases q;exact⟨e,hl,its,n,r,e⟩
  ·rw[Aq hb]at q;exact(I.hok b u q).stay (λc v _ z=>z) (λc z=>by rw[Aq (nt c _ z (by intro z;cases z))];exact z) λc ys z=>by rw[Aq (nt c _ z (by intro z;cases z))];exact z
def Fz(P:xW->Prop)(H H':Hp):Prop:=∀p,(H' p=H p/\(∀vs,H p=vR (.lst vs)->¬P p))∨∃o vs,P p/\H p=vR (.lst vs)/\H' p=vR (.frz o (.lst vs))
theorem ZCK(I:Inv X pins σ H s)(m:Nat->xW)(n:Nat):∀k:Nat,∃H',Inv X pins σ H' s/\Fz (λp=>∃i,n<=i/\i<n+k/\p=m i) H H'
 |0=>⟨H,I,λp=>.inl ⟨rfl,λ_ _ ⟨i,h1,h2,_⟩=>by lia⟩⟩
 | k + 1=>by
  obtain⟨H',I',F⟩:=ZCK I m n k;have keep:(∀vs,H' (m (n+k))≠vR (.lst vs))->Fz (λp=>∃i,n<=i/\i<n+(k+1)/\p=m i) H H':=λno p=>by
   rcases F p with⟨e,z⟩|⟨o,vs,⟨i,h1,h2,h3⟩,e1,e2⟩
   ·refine .inl ⟨e,λvs e1 ⟨i,h1,h2,h3⟩=>?_⟩;by_cases hi:i<n+k
    ·exact z vs e1 ⟨i,h1,hi,h3⟩
    ·have:i=n+k:=by lia
     subst this;subst h3;exact no vs (e.trans e1)
   ·exact .inr ⟨o,vs,⟨i,h1,by lia,h3⟩,e1,e2⟩
  cases hH:H' (m (n+k))with
  |none=>exact⟨H',I',keep λvs z=>by rw[hH]at z;cases z⟩
  | some u=>
   cases u with
   | lst vs=>
    obtain⟨o,I2⟩:=ZJR I' hH;refine⟨_,I2,λp=>?_⟩;by_cases hp:p=m (n+k)
    ·subst hp;rcases F (m (n+k))with⟨e,z⟩|⟨o',vs',_,e1,e2⟩
     ·exact .inr ⟨o,vs,⟨n+k,by lia,by lia,rfl⟩,e.symm.trans hH,Do⟩
     ·rw[hH]at e2;cases e2
    ·rcases F p with⟨e,z⟩|⟨o',vs',⟨i,h1,h2,h3⟩,e1,e2⟩
     ·refine .inl ⟨by rw[Aq hp];exact e,λvs' e1 ⟨i,h1,h2,h3⟩=>?_⟩;by_cases hi:i<n+k
      ·exact z vs' e1 ⟨i,h1,hi,h3⟩
      ·have:i=n+k:=by lia
       subst this;exact hp h3
     ·exact .inr ⟨o',vs',⟨i,h1,by lia,h3⟩,e1,by rw[Aq hp];exact e2⟩
   |_=>exact⟨H',I',keep λvs z=>by rw[hH]at z;cases z⟩
end
noncomputable def Hm(f:D->Option D):List D->Option (List D)
 |[]=>vR []
 |d::r=>match f d,Hm f r with
  |some d',vR r'=>vR (d'::r')
  |_,_=>vS
def By(G:DH)(n:Nat):Nat->D->Option D
 |0,_=>vS
 | k+1,d=>if bel n d=vT then vR d else match d with
  |.ref i=>match G[i]? with
   |some (.lst xs)=>(Hm (By G n k) xs).map .fl
   |_=>vS
  |.tup xs=>(Hm (By G n k) xs).map .tup
  |.fl xs=>(Hm (By G n k) xs).map .fl
  |_=>vS
open Classical in
def freeze(G:DH)(r:R D):R D:=match r with
 | .ok d G'=>if G'.take G.length=G then(match By G' G.length 9 d with
   |some d'=>.ok d' G
   |none=>.ok d G')else .ok d G'
 |r=>r
def Ay(t:DE):DE:=λS G=>freeze G (t S G)
structure CutF (b c:Wd) (n:Nat):Prop where
 k:c.K=b.K
 n:c.n=n
 m:c.m=b.m
 tup:∀p xs,b.H p=vR (.tup xs)->c.H p=vR (.tup xs)
 frz:∀p o u,b.H p=vR (.frz o u)->c.H p=vR (.frz o u)
theorem CutF.sqT{c:Wd}(x:CutF b c n){xs:List V}(h:SqT b.K b.H p xs):SqT c.K c.H p xs:=by
 rcases h with(h|⟨o,h⟩)|h
 ·exact .inl (.inl (x.tup _ _ h))
 ·exact .inl (.inr ⟨o,x.frz _ _ _ h⟩)
 ·exact .inr (by rw[x.k];exact h)
theorem CutF.fzL{c:Wd}(x:CutF b c n){xs:List V}(h:FzL b.K b.H p xs):FzL c.K c.H p xs:=by
 rcases h with⟨o,h⟩|h
 ·exact .inl ⟨o,x.frz _ _ _ h⟩
 ·exact .inr (by rw[x.k];exact h)
mutual
theorem Rep.Hb{c:Wd}(x:CutF b c n):∀{d:D}{v:V},Rep b d v->bel n d=vT->Rep c d v
 |.non,_,h,_=>h
 |.bl _,_,h,_=>h
 |.int _,_,h,_=>h
 |.str _,_,h,_=>h
 |.ty _,_,h,_=>h
 |.tup ds,v,h,q=>by obtain⟨p,vs,e,t,r⟩:=h;simp only[_D.bel]at q;exact⟨p,vs,e,x.sqT t,Reps.Hb x r q⟩
 |.fl ds,v,h,q=>by obtain⟨p,vs,e,t,r⟩:=h;simp only[_D.bel]at q;exact⟨p,vs,e,x.fzL t,Reps.Hb x r q⟩
 |.ref i,v,h,q=>by obtain⟨l,e⟩:=h;simp only[_D.bel]at q;have q':=of_decide_eq_true q;exact⟨by rw[x.n];exact q',by rw[x.m];exact e⟩
theorem Reps.Hb{c:Wd}(x:CutF b c n):∀{ds:List D}{vs:List V},Reps b ds vs->bels n ds=vT->Reps c ds vs
 |[],_,h,_=>h
 |d::ds,vs,h,q=>by obtain⟨v,r,e,h1,h2⟩:=h;simp only[_D.bels,zB]at q;exact⟨v,r,e,Rep.Hb x h1 q.1,Reps.Hb x h2 q.2⟩
end
theorem T9{c:Wd}{f:D->Option D}(hf:∀d d' v,f d=vR d'->Rep b d v->Rep c d' v):∀{ds ds':List D}{vs:List V},Hm f ds=vR ds'->Reps b ds vs->Reps c ds' vs
 |[],ds',vs,e,h=>by cases e;exact h
 |d::ds,ds',vs,e,h=>by
  obtain⟨v,r,rfl,h1,h2⟩:=h;unfold Hm at e;split at e
  ·rename_i d' r' e1 e2;cases e;exact⟨v,r,rfl,hf _ _ _ e1 h1,T9 hf e2 h2⟩
  ·cases e
theorem ZDR{c:Wd}(s:Sim b G')(x:CutF b c n)(hz:∀i,n<=i->i<b.n->∀vs,b.H (b.m i)=vR (.lst vs)->∃o,c.H (b.m i)=vR (.frz o (.lst vs))):∀(k:Nat)(d d':D)(v:V),By G' n k d=vR d'->Rep b d v->Rep c d' v
 |0,d,d',v,e,h=>by cases e
 | k + 1,d,d',v,e,h=>by
  have ih:=ZDR s x hz k;unfold By at e;split at e
  ·rename_i hb;cases e;exact h.Hb x hb
  ·rename_i hb;cases d with
   | ref i=>
    dsimp only at e;split at e
    ·rename_i xs hx;rw[zM]at e;obtain⟨ys,e1,rfl⟩:=e;obtain⟨vs,e2,r2⟩:=s.obj i _ hx;obtain⟨il,rfl⟩:=h;have hi:n<=i:=by simp only[_D.bel,decide_eq_true_eq]at hb;lia
     obtain⟨o,e3⟩:=hz i hi il vs e2;exact⟨_,vs,rfl,.inl ⟨o,e3⟩,T9 ih e1 r2⟩
    ·cases e
   |tup xs=>
    dsimp only at e;rw[zM]at e;obtain⟨ys,e1,rfl⟩:=e;obtain⟨p,vs,rfl,t,r⟩:=h;exact⟨p,vs,rfl,x.sqT t,T9 ih e1 r⟩
   |fl xs=>
    dsimp only at e;rw[zM]at e;obtain⟨ys,e1,rfl⟩:=e;obtain⟨p,vs,rfl,t,r⟩:=h;exact⟨p,vs,rfl,x.fzL t,T9 ih e1 r⟩
   |_=>cases e
theorem ZEB{pins:List (xW×Obj)}{sh:xy}(s:Sim a G)(hG:G'.take G.length=G)(x:Ext a b)(sb:Sim b G')(I:Inv X pins σ b.H sh):
  ∃c:Wd,Inv X pins σ c.H sh/\Ext a c/\Sim c G/\CutF b c a.n/\∀(k:Nat)(d d':D)(v:V),By G' G.length k d=vR d'->Rep b d v->Rep c d' v:=by
 have hlen:∀i o,G[i]?=vR o->G'[i]?=vR o:=λi o e=>by have hi:i<G.length:=(zk.mp e).1;rw[<-hG,qz hi]at e;exact e
 obtain⟨H',I',F⟩:=ZCK I b.m a.n (b.n-a.n);have hbn:a.n+(b.n-a.n)=b.n:=by have:=x.n;lia
 rw[hbn]at F;have ct:∀p(u:HO),(∀vs,u≠ .lst vs)->b.H p=vR u->H' p=vR u:=λp u nu e=>by
  rcases F p with⟨e1,_⟩|⟨o,vs,_,e1,_⟩
  ·exact e1.trans e
  ·rw[e]at e1;exact absurd (Option.some.inj e1) (nu vs)
 have tabs:∀p,TabOk b.H p->TabOk H' p:=λp t=>t.mono (λp ps e=>ct p _ (by intro _ z;cases z) e) λp o u e=>ct p _ (by intro _ z;cases z) e
 have cc:CutF b ⟨b.K,a.n,b.m,H'⟩ a.n:=⟨rfl,rfl,rfl,λp xs e=>ct p _ (by intro _ z;cases z) e,λp o u e=>ct p _ (by intro _ z;cases z) e⟩;have old:∀i,i<a.n->H' (b.m i)=b.H (b.m i):=λi hi=>by
  rcases F (b.m i)with⟨e1,_⟩|⟨o,vs,⟨j,h1,h2,h3⟩,e1,e2⟩
  ·exact e1
  ·have:=sb.inj i j (zX hi x.n) h2 h3;lia
 refine⟨⟨b.K,a.n,b.m,H'⟩,I',⟨x.k,zK _,x.m,λp xs e=>cc.tup p xs (x.tup p xs e),λp o u e=>cc.frz p o u (x.frz p o u e),λp t=>tabs p (x.tab p t)⟩,⟨s.len,λi j hi hj=>sb.inj i j (zX hi x.n) (zX hj x.n),λi o e=>?_,λi hi=>?_⟩,cc,λk d d' v hd rb=>?_⟩
 ·show ORep ⟨b.K,a.n,b.m,H'⟩ o (H' (b.m i));rw[old i (s.lt e)];have q:=sb.obj i o (hlen i o e);have lb:=(s.obj i o e).Le;cases o with
  |lst ds=>obtain⟨vs,e1,r1⟩:=q;exact⟨vs,e1,r1.Hb cc lb⟩
  |dct kvs=>obtain⟨us,e1,k1,r1⟩:=q;exact⟨us,e1,k1,r1.Hb cc lb⟩
  |ins c fs=>obtain⟨C,dx,us,n1,e1,k1,r1⟩:=q;exact⟨C,dx,us,n1,e1,k1,r1.Hb cc lb⟩
  |tab C m=>obtain⟨c1,P1,e1,t1⟩:=q;exact⟨c1,P1,e1,tabs _ t1⟩
  |exc c fs=>
   obtain⟨C,oe,u,vs,n1,e1,k1,k2,z⟩:=q;refine⟨C,oe,u,vs,n1,e1,k1,k2,?_⟩;rcases z with z|⟨dx,o,us,e2,f2,k3,r1⟩
   ·exact .inl z
   ·exact .inr ⟨dx,o,us,e2,cc.frz _ _ _ f2,k3,r1.Hb cc lb⟩
  |gone=>trivial
 ·show H' (b.m i)≠vS;rw[old i hi];exact sb.tr i (zX hi x.n)
 ·rw[s.len]at hd;refine ZDR sb cc (λi h1 h2 vs e=>?_) k d d' v hd rb;rcases F (b.m i)with⟨e1,z⟩|⟨o,vs',_,e1,e2⟩
  ·exact absurd ⟨i,h1,h2,rfl⟩ (z vs e)
  ·rw[e]at e1;cases e1;exact⟨o,e2⟩
theorem ZIx(s:Sim a G)(h:out E a (freeze G r) Q):
  out E a r λv H=>∀(pins:List (xW×Obj))(σ:St)(sh:xy),Inv X pins σ H sh->∃H',Inv X pins σ H' sh/\Q v H':=by
 cases r with
 |err e G'=>exact h
 |bad=>exact h
 | ok d G'=>
  intro b v x sb rb pins σ sh I;unfold freeze at h;dsimp only at h;split at h
  ·rename_i hG;split at h
   ·rename_i d' hd;obtain⟨c,Ic,xc,sc,cc,hr⟩:=ZEB s hG x sb I;exact⟨c.H,Ic,h c v xc sc (hr _ _ _ _ hd rb)⟩
   ·exact⟨_,I,h b v x sb rb⟩
  ·exact⟨_,I,h b v x sb rb⟩
theorem Bo(ha:QE X E e t):QE X E e (Ay t):=λpins s σ H Q I h=>by
 obtain⟨a,S,G,hk,rfl,sm,r,h⟩:=h;refine thn (ha pins s σ a.H _ I ⟨a,S,G,hk,rfl,sm,r,ZIx (X:=X) sm h⟩) λu s' ⟨v,H',I',rv,q⟩=>?_
 obtain⟨H2,I2,q2⟩:=q pins σ s' I';exact⟨v,H2,I2,rv,q2⟩
theorem ZAY {st:xA} (ha:QS X E st (sAs t (gV i))):QS X E st (sAs (Ay t) (gV i)):=λpins s σ H W I h=>by
 obtain ⟨a,S,G,hk,rfl,sm,r,h⟩:=h;have h2:Bm E a (sAs t (gV i) S G) {W with nx:=λσ H=>∀(pins:List (xW×Obj))(sh:xy),Inv X pins σ H sh->∃H',Inv X pins σ H' sh/\W.nx σ H'}:=by
  unfold sAs Ay at h;unfold sAs;cases ht:t S G with
  |err e G'=>rw[ht]at h;exact h
  |bad=>rw[ht]at h;exact h
  | ok d G'=>
   rw[ht]at h;intro b σ' x sb rb pins sh I;unfold freeze at h;dsimp only at h;split at h
   ·rename_i hG;split at h
    ·rename_i d' hd;obtain⟨c,Ic,xc,sc,cc,hr⟩:=ZEB sm hG x sb I;refine⟨c.H,Ic,h c σ' xc sc ⟨?_,λj e he=>?_⟩⟩
     ·rw[qD,<-rb.len,qD]
     ·rw[qA]at he;by_cases hij:i=j
      ·subst hij;rw[if_pos rfl]at he;by_cases hl:i<S.length
       ·rw[if_pos hl]at he;have e1:d'=e:=by simpa using he
        subst e1;obtain⟨v,e2,rv⟩:=rb.get i d (by rw[qA,if_pos rfl,if_pos hl]);exact⟨v,e2,hr _ _ _ _ hd rv⟩
       ·rw[if_neg hl]at he;cases he
      ·rw[if_neg hij]at he;obtain⟨v,e2,rv⟩:=rb.get j e (by rw[qA,if_neg hij];exact he);obtain⟨v',_,rv'⟩:=r.get j e he;exact⟨v,e2,rv.Hb cc rv'.bel⟩
    ·exact⟨_,I,h b σ' x sb rb⟩
   ·exact⟨_,I,h b σ' x sb rb⟩
 refine thn (ha pins s σ a.H _ I ⟨a,S,G,hk,rfl,sm,r,h2⟩) λf s' hf=>?_
 cases f with
 |next=>
  obtain⟨σ',H',I',q⟩:=hf;obtain⟨H2,I2,q2⟩:=q pins s' I';exact⟨σ',H2,I2,q2⟩
 |brk=>exact hf
 |cont=>exact hf
 |ret u=>exact hf
end
section
variable{S:DSt}{G:DH}
@[simp]theorem ev_V:dV i S G=(match S[i]? with |some (vR d)=>.ok d G|_=>.bad):=id rfl
@[simp]theorem ev_C:dC d S G=.ok d G:=id rfl
@[simp]theorem ev_Op{f:D->D->DH->R D}{a b:DE}:dOp f a b S G=(a S G).bind λx G1=>(b S G1).bind λy G2=>f x y G2:=id rfl
@[simp]theorem ev_Un{f:D->DH->R D}{a:DE}:dUn f a S G=(a S G).bind f:=id rfl
@[simp]theorem ev_Nil:Ag S G=.ok [] G:=id rfl
@[simp]theorem ZM9{a:DE}{r:DA}:Ab a r S G=(a S G).bind λx G1=>(r S G1).bind λxs G2=>.ok (x::xs) G2:=id rfl
@[simp]theorem ev_Fn{f:List D->DH->R D}{t:DA}:dFn f t S G=(t S G).bind f:=id rfl
@[simp]theorem Uc:Cp t S G=tidy G (t S G):=id rfl
@[simp]theorem ev_Frz:Ay t S G=freeze G (t S G):=id rfl
@[simp]theorem ev_asB{k:Bool}:asB (.bl k) G=.ok k G:=id rfl
@[simp]theorem ev_Tst:Bc t S G=(t S G).bind asB:=id rfl
@[simp]theorem ev_And{t u:DB}:Qd t u S G=(t S G).bind λk G1=>if k=vT then u S G1 else .ok vU G1:=id rfl
@[simp]theorem ev_Or{t u:DB}:dOr t u S G=(t S G).bind λk G1=>if k=vT then .ok vT G1 else u S G1:=id rfl
@[simp]theorem ev_Not{t:DB}:Lh t S G=(t S G).bind λk G1=>.ok (!k) G1:=id rfl
@[simp]theorem ZND{u:DE}:M5 t u S G=(t S G).bind λx G1=>(asB x G1).bind λk G2=>if k=vT then u S G2 else .ok (.bl vU) G2:=id rfl
@[simp]theorem ZNL:Wb t S G=(t S G).bind λx G1=>(asB x G1).bind λk G2=>.ok (.bl (!k)) G2:=id rfl
@[simp]theorem ev_If{u:DE}:dIf c t u S G=(c S G).bind λk G1=>if k=vT then t S G1 else u S G1:=id rfl
@[simp]theorem ZNQ{f g:D->D->DH->R D}{a b c:DE}:Ro f g a b c S G=(a S G).bind λx G1=>(b S G1).bind λy G2=>(f x y G2).bind λz G3=>(asB z G3).bind λk G4=>
 if k=vT then(c S G4).bind λw G5=>g y w G5 else .ok (.bl vU) G4:=id rfl
@[simp]theorem ev_sNx:sNx S G=.nx S G:=id rfl
noncomputable def SR.then(r:SR)(u:DS):SR:=match r with
 |.nx S1 G1=>u S1 G1
 |r=>r
@[simp]theorem ZCf{t:DS}:Ak t u S G=(t S G).then u:=id rfl
@[simp]theorem ZAm:(SR.nx S G).then u=u S G:=id rfl
@[simp]theorem ZMr:(SR.rt d G).then u=.rt d G:=id rfl
@[simp]theorem ZNJ{x:Xn}:(SR.err x G).then u=.err x G:=id rfl
@[simp]theorem ev_sEx:sEx t S G=(t S G).toS λ_ G1=>.nx S G1:=id rfl
@[simp]theorem ev_sRt:sRt t S G=(t S G).toS λd G1=>.rt d G1:=id rfl
@[simp]theorem ev_sIf{t:DS}:sIf c t u S G=(c S G).toS λk G1=>if k=vT then t S G1 else u S G1:=id rfl
@[simp]theorem ev_sAs:sAs t g S G=(t S G).toS λd G1=>(g d S G1).toS λS2 G2=>.nx S2 G2:=id rfl
@[simp]theorem ZHa{it:DI}{b:DS}:Es it g b S G=(it S G).toS λJ G1=>(match J with
 |.pure xs=>Bt g b xs S G1
 |.mt i=>match G1[i]? with
  |some (.lst xs)=>forM i g b xs.length 0 S G1
  |_=>.bad
 |.fn n f=>G8 f g b n 0 S G1):=id rfl
@[simp]theorem ZKq:Eg t S G=(t S G).bind Fy:=id rfl
@[simp]theorem ZNE{f:List D->DH->R ItD}{t:DA}:Dw f t S G=(t S G).bind f:=id rfl
@[simp]theorem Ff:gV i d S G=.ok (S.set i (vR d)) G:=id rfl
@[simp]theorem ZNM:Gg [] S G=.ok S G:=id rfl
@[simp]theorem ZNK{t:DG}{u:DGs}{r:List D}:Bu t u (d::r) S G=(t d S G).bind λS1 G1=>u r S1 G1:=id rfl
@[simp]theorem ZNF{t:DGs}:Fg n t (.tup ds) S G=if ds.length=n then t ds S G else .bad:=id rfl
@[simp]theorem ev_gIx{o i:DE}{v:D}:gIx o i v S G=(o S G).bind λo G1=>(i S G1).bind λi G2=>(G9 o i v G2).bind λ_ G3=>.ok S G3:=id rfl
@[simp]theorem ev_MtL{f:D->List D->DH->R D}{o:DE}{t:DA}:Hs f o t S G=(o S G).bind λx G1=>if isL x G1=vT then(t S G1).bind λxs G2=>f x xs G2 else .bad:=id rfl
@[simp]theorem ZMx{it:DI}{caps:List Nat}:Ex it nt caps g c te S G=(it S G).bind λJ G1=>(match J with
 |.pure xs=>Cq g c te (Bf nt caps S) xs G1
 |.mt i=>match G1[i]? with
  |some (.lst xs)=>Ec i g c te (Bf nt caps S) xs.length 0 G1
  |_=>.bad
 |.fn n f=>Cw f g c te (Bf nt caps S) n 0 G1).bind Ar:=id rfl
@[simp]theorem ZNN:Cj S G=.ok vT G:=id rfl
@[simp]theorem Ea{k:DSt->DH->SR}:aft (.nx S G) k=k S G:=id rfl
theorem Nb{b:DS}:Bt g b [] S G=.nx S G:=id rfl
theorem Hc{b:DS}{x:D}:Bt g b (x::xs) S G=(g x S G).toS λS1 G1=>aft (b S1 G1) (Bt g b xs):=id rfl
theorem ZHo:Cq g c te S [] G=.ok [] G:=id rfl
theorem ZAe{x:D}:Cq g c te S (x::xs) G=(g x S G).bind λS1 G1=>(c S1 G1).bind λk G2=>
   if k=vT then(te S1 G2).bind λd G3=>(Cq g c te S xs G3).bind λds G4=>.ok (d::ds) G4 else Cq g c te S xs G2:=id rfl
noncomputable def SR.ret(r:SR):R D:=match r with
 |.nx _ G'=>.ok .non G'
 |.rt d G'=>.ok d G'
 |.err x G'=>.err x G'
 |_=>.bad
@[simp]theorem ret_nx:(SR.nx S G).ret=.ok .non G:=id rfl
@[simp]theorem ret_rt:(SR.rt d G).ret=.ok d G:=id rfl
@[simp]theorem ZMs{x:Xn}:(SR.err x G).ret=.err x G:=id rfl
theorem Bv{np nl:Nat}{b:DS}:Be np nl b ds G=if ds.length=np then tidy G (b (ds.map vR++zv nl vS) G).ret else .bad:=id rfl
end
section
variable{n:Nat}{G:DH}
@[simp]theorem ZM6:bel n .non=vT:=by simp[_D.bel]
@[simp]theorem bel_bl{b:Bool}:bel n (.bl b)=vT:=by simp[_D.bel]
@[simp]theorem ZIW{b:Int}:bel n (.int b)=vT:=by simp[_D.bel]
@[simp]theorem ZNB{b:List D}:bel n (.tup b)=bels n b:=by simp[_D.bel]
@[simp]theorem bel_fl{b:List D}:bel n (.fl b)=bels n b:=by simp[_D.bel]
@[simp]theorem ZMp{b:Nat}:bel n (.ref b)=decide (b<n):=by simp[_D.bel]
@[simp]theorem ZM5:bels n []=vT:=by simp[_D.bels]
@[simp]theorem ZE5:bels n (d::ds)=(bel n d&&bels n ds):=by simp[_D.bels]
theorem ZI7:bels n ds=vT↔∀d∈ds,bel n d=vT:=by
 induction ds with
 |nil=>simp
 |cons d ds ih=>simp[ih]
theorem La{f:α->D}{xs:List α}(h:∀x∈xs,bel n (f x)=vT):bels n (xs.map f)=vT:=by rw[ZI7];intro d hd;obtain⟨x,hx,rfl⟩:=zS.mp hd;exact h x hx
@[simp]theorem Cz{xs:List Int}:bels n (xs.map D.int)=vT:=La λ_ _=>ZIW
theorem Ej(h:bel G.length d=vT):tidy G (.ok d G)=.ok d G:=by unfold tidy;simp[h]
theorem ZEv(h:bel G.length d=vT):tidy G (.ok d (G++L))=.ok d G:=by unfold tidy;simp[h]
theorem ZFC(L:DH)(hk:L[k]?=vR (.lst ds))(h:bels G.length ds=vT):tidy G (.ok (.ref (G.length+k)) (G++L))=.ok (.ref G.length) (G++[.lst ds]):=by
 unfold tidy;have e:(G++L)[G.length+k]?=vR (.lst ds):=by rw[zI (by lia)];simpa using hk
 simp[e,Le,h]
theorem Hk(h:bels G.length ds=vT):tidy G (.ok (.ref G.length) (G++ .lst ds::L))=.ok (.ref G.length) (G++[.lst ds]):=ZFC (.lst ds::L) (k:=0) rfl h
@[simp]theorem ZMw{x:Xn}:tidy G (.err x G')=.err x G':=id rfl
theorem ZGN(h:bel G.length d=vT):freeze G (.ok d G)=.ok d G:=by unfold freeze;simp[h,By]
theorem Nx:∀{ds:List D},bels n ds=vT->Hm (By G' n (k+1)) ds=vR ds
 |[],_=>rfl
 |d::ds,h=>by simp only[ZE5,zB]at h;unfold Hm;rw[Nx h.2];simp[By,h.1]
theorem ZIF(L:DH)(hk:L[k]?=vR (.lst ds))(h:bels G.length ds=vT):freeze G (.ok (.ref (G.length+k)) (G++L))=.ok (.fl ds) G:=by
 unfold freeze;have e:(G++L)[G.length+k]?=vR (.lst ds):=by rw[zI (by lia)];simpa using hk
 have m:By (G++L) G.length 9 (.ref (G.length+k))=vR (.fl ds):=by unfold By;simp[e,Nx h]
 simp[m]
theorem Cd(h:bels G.length ds=vT):freeze G (.ok (.ref G.length) (G++ .lst ds::L))=.ok (.fl ds) G:=ZIF (.lst ds::L) (k:=0) rfl h
theorem Pn(L:DH)(k:Nat):(G++L)[G.length+k]?=L[k]? :=by rw[zI (by lia)];simp
theorem Qq(L:DH):(G++L)[G.length]?=L[0]? :=Pn L 0
theorem ZLe(L:DH)(k:Nat)(o:DO):(G++L).set (G.length+k) o=G++L.set k o:=by rw[List.set_append_right _ _ (by lia)];simp
theorem Lg(L:DH)(o:DO):(G++L).set G.length o=G++L.set 0 o:=ZLe L 0 o
theorem Qp{lo:Int}:Bd lo 0=[]:=id rfl
theorem Je{lo:Int}:Bd lo (n+1)=.int lo::Bd (lo+1) n:=by
 unfold Bd;rw[qE,zA,qY]
 congr 1
 ·simp
 ·apply qL;intro k _;simp only[Function.comp]
  congr 1
  lia
end
section
variable{G:DH}{i j:Int}{x y:Str}{k l:Bool}
@[simp]theorem ev_add:Bb (.int i) (.int j) G=.ok (.int (i+j)) G:=id rfl
@[simp]theorem ev_ip:Py (.int i) (.int j) G=.ok (.int (i+j)) G:=id rfl
@[simp]theorem ev_sub:Dq (.int i) (.int j) G=.ok (.int (i-j)) G:=id rfl
theorem K9(h1: -(2^64)<i)(h2:i<2^64):Cg (.int i) (.int j) G=.ok (.int (i*j)) G:=if_pos (.inl ⟨h1,h2⟩)
theorem ZDO(h1: -(2^64)<j)(h2:j<2^64):Cg (.int i) (.int j) G=.ok (.int (i*j)) G:=if_pos (.inr ⟨h1,h2⟩)
@[simp]theorem ZNH(h:n<18446744073709551616):Cg (.int (no_index (OfNat.ofNat n))) (.int j) G=.ok (.int (OfNat.ofNat n*j)) G:=
 K9 (by have:(0:Int)<=(OfNat.ofNat n:Int):=Int.natCast_nonneg n;lia) (by have:(OfNat.ofNat n:Int)<18446744073709551616:=Int.ofNat_lt.mpr h;lia)
@[simp]theorem ZM7(h:n<18446744073709551616):Cg (.int i) (.int (no_index (OfNat.ofNat n))) G=.ok (.int (i*OfNat.ofNat n)) G:=
 ZDO (by have:(0:Int)<=(OfNat.ofNat n:Int):=Int.natCast_nonneg n;lia) (by have:(OfNat.ofNat n:Int)<18446744073709551616:=Int.ofNat_lt.mpr h;lia)
theorem ZFj(h:0<n)(h2:n.log2<9000):Fl (.int i) (.int (n:Int)) G=.ok (.int (i/n)) G:=if_pos ⟨by lia,h2⟩
theorem log2_small(h:n<10^100):n.log2<9000:=by
 by_cases hn:n=0
 ·subst hn;decide
 ·rw[Nat.log2_lt hn];exact Nat.lt_trans h (by decide)
@[simp]theorem ZM3[NeZero n](h:n<10^100):Fl (.int i) (.int (no_index (OfNat.ofNat n))) G=.ok (.int (i/OfNat.ofNat n)) G:=
 if_pos ⟨Int.ofNat_lt.mpr (Nat.pos_of_ne_zero (NeZero.ne n)),log2_small h⟩
@[simp]theorem ev_mod:Ef (.int i) (.int j) G=if 0<j then .ok (.int (i%j)) G else .bad:=id rfl
@[simp]theorem ev_pow:J7 (.int i) (.int j) G=if 0<=j/\j<=1000000/\i.natAbs<18446744073709551616 then .ok (.int (i^j.toNat)) G else .bad:=id rfl
@[simp]theorem ev_lt:Jj (.int i) (.int j) G=.ok (.bl (decide (i<j))) G:=id rfl
@[simp]theorem ev_le:V7 (.int i) (.int j) G=.ok (.bl (decide (i<=j))) G:=id rfl
@[simp]theorem ev_gt:Sg (.int i) (.int j) G=.ok (.bl (decide (j<i))) G:=id rfl
@[simp]theorem ev_eq:Ed (.int i) (.int j) G=.ok (.bl (decide (i=j))) G:=id rfl
@[simp]theorem ev_ne:Hn (.int i) (.int j) G=.ok (.bl (!decide (i=j))) G:=id rfl
@[simp]theorem ev_neg:Ik (.int i) G=.ok (.int (-i)) G:=id rfl
@[simp]theorem ev_is:Gm d .non G=.ok (.bl (Cr d)) G:=by cases d<;>exact id rfl
@[simp]theorem ZMu:Lw d .non G=.ok (.bl (!Cr d)) G:=by cases d<;>exact id rfl
@[simp]theorem ev_min:Qt [.int i,.int j] G=.ok (.int (min i j)) G:=by
 show R.ok (D.int (if j<i then j else i)) G=_
 congr 2
 split <;> lia
@[simp]theorem ZNO:Sh [.bl k] G=.ok (.int (if k then 1 else 0)) G:=id rfl
@[simp]theorem ZMy:Bp (.fl ds) G=vR ds:=id rfl
@[simp]theorem ZEb:Bp (.ref n) G=(match G[n]? with |some (.lst xs)=>vR xs|_=>vS):=id rfl
@[simp]theorem ZNP:Dr [.tup ds] G=.ok (.int ds.length) G:=id rfl
@[simp]theorem ZNG:Dr [.fl ds] G=.ok (.int ds.length) G:=id rfl
@[simp]theorem Qy:Dr [.ref n] G=(match G[n]? with |some (.lst xs)=>.ok (.int xs.length) G|_=>.bad):=by
 unfold Dr;simp only[ZEb];cases G[n]? with
 |none=>rfl
 |some o=>cases o<;>rfl
@[simp]theorem ev_ixT:Av (.tup ds) (.int i) G=(match atI ds i with |some v=>.ok v G|none=>.bad):=id rfl
@[simp]theorem ev_ixF:Av (.fl ds) (.int i) G=(match atI ds i with |some v=>.ok v G|none=>.bad):=id rfl
@[simp]theorem T8:Av (.ref n) (.int i) G=(match G[n]? with |some (.lst xs)=>(match atI xs i with |some v=>.ok v G|none=>.bad)|_=>.bad):=by
 unfold Av;simp only[ZEb];cases G[n]? with
 |none=>rfl
 |some o=>cases o<;>rfl
theorem ZAb{k:Nat}(h:k<n):ixN n (k:Int)=vR k:=by unfold ixN;rw[if_pos (by lia),if_pos (by lia)];simp
theorem ZGw{xs:List α}{k:Nat}{d:α}(h:xs[k]?=vR d):atI xs (k:Int)=vR d:=by unfold atI;rw[ZAb (zk.mp h).1];exact h
theorem Gi{xs:List α}{j:Int}{k:Nat}{d:α}(e:j=k)(h:xs[k]?=vR d):atI xs j=vR d:=by subst e;exact ZGw h
@[simp]theorem atI_0{a:α}{xs:List α}:atI (a::xs) 0=vR a:=Gi (k:=0) rfl rfl
@[simp]theorem atI_1{a b:α}{xs:List α}:atI (a::b::xs) 1=vR b:=Gi (k:=1) rfl rfl
@[simp]theorem atI_2{a b c:α}{xs:List α}:atI (a::b::c::xs) 2=vR c:=Gi (k:=2) rfl rfl
@[simp]theorem atI_3{a b c d:α}{xs:List α}:atI (a::b::c::d::xs) 3=vR d:=Gi (k:=3) rfl rfl
@[simp]theorem ZM8:Df ds G=if ds.length<=1000000 then .ok (.tup ds) G else .bad:=id rfl
@[simp]theorem ZMq:Ar ds G=if ds.length<=1000000 then .ok (.ref G.length) (G++[.lst ds])else .bad:=id rfl
@[simp]theorem ev_itF:Fy (.fl ds) G=.ok (.pure ds) G:=id rfl
@[simp]theorem ZM1:rng1 [.int j] G=if inR j then .ok (.pure (Bd 0 j.toNat)) G else .bad:=id rfl
@[simp]theorem ZM2:isL (.ref n) G=(match G[n]? with |some (.lst _)=>vT|_=>vU):=id rfl
@[simp]theorem ZDu:Em (.ref n) [d] G=(match G[n]? with |some (.lst xs)=>if xs.length<1000000 then .ok .non (G.set n (.lst (xs++[d])))else .bad|_=>.bad):=id rfl
@[simp]theorem Nk:G9 (.ref n) (.int i) d G=(match G[n]? with |some (.lst xs)=>(match ixN xs.length i with |some j=>.ok .non (G.set n (.lst (xs.set j d)))|none=>.bad)|_=>.bad):=id rfl
@[simp]theorem ZAk{ks:List Int}:Hy [.fl (ks.map D.int)] G=.ok (.int ks.sum) G:=by simp[Hy]
end
section
variable{c:Prop}[Decidable c]
@[simp]theorem ite_ok{a b:α}:(if c then R.ok a G else R.ok b G)=R.ok (if c then a else b) G:=by split <;> rfl
end
section
variable{X:Cx}{E:XK}
end
section
variable{S:DSt}{G:DH}{n:Nat}{kvs:List (Key×D)}
end
section
noncomputable def okD:Nat->D->Bool
 |0,_=>vU
 |_+1,.non=>vT
 |_+1,.int _=>vT
 |_+1,.str _=>vT
 |n+1,.tup ds=>ds.all (okD n)
 |n+1,.fl ds=>ds.all (okD n)
 |_+1,_=>vU
theorem W0{f:D->D->Option Bool}{P:D->Prop}(hf:∀x y,P x->P y->∃b,f x y=vR b/\(b=vT↔x=y)):∀{xs ys:List D},(∀x∈xs,P x)->(∀y∈ys,P y)->
  ∃b,eqZ f xs ys=vR b/\(b=vT↔xs.take ys.length=ys.take xs.length)
 |[],ys,_,_=>⟨vT,by cases ys<;>rfl,by simp⟩
 |x::xs,[],_,_=>⟨vT,rfl,by simp⟩
 |x::xs,y::ys,hx,hy=>by obtain⟨b,e1,h1⟩:=hf x y (hx x (by simp)) (hy y (by simp));obtain⟨c,e2,h2⟩:=W0 hf (λz hz=>hx z (zZ _ hz)) (λz hz=>hy z (zZ _ hz));refine⟨b&&c,by simp[eqZ,e1,e2],?_⟩;simp[h1,h2]
theorem ZDv{G:DH}:∀(n:Nat)(d e:D),okD n d=vT->okD n e=vT->∃b,eqD n G d e=vR b/\(b=vT↔d=e)
 |0,d,e,h,_=>by cases h
 | n+1,d,e,h1,h2=>by
  have ih:=ZDv (G:=G) n;cases d with
  |bl _=>simp[okD]at h1
  |ty _=>simp[okD]at h1
  |ref _=>simp[okD]at h1
  | tup xs=>
   cases e with
   |bl _=>simp[okD]at h2
   |ty _=>simp[okD]at h2
   |ref _=>simp[okD]at h2
   |tup ys=>
    simp only[okD,j6]at h1 h2;obtain⟨b,e1,h3⟩:=W0 ih (λx hx=>h1 x hx) (λx hx=>h2 x hx);refine⟨b&&xs.length==ys.length,by simp[eqD,view,e1],?_⟩;simp only[zB,h3,beq_iff_eq,D.tup.injEq];constructor
    ·rintro⟨e,hl⟩;rw[<-hl,j7]at e;rw[e,hl,j7]
    ·rintro rfl;exact⟨rfl,rfl⟩
   |_=>exact⟨vU,by simp[eqD,view],by simp⟩
  | fl xs=>
   cases e with
   |bl _=>simp[okD]at h2
   |ty _=>simp[okD]at h2
   |ref _=>simp[okD]at h2
   |fl ys=>
    simp only[okD,j6]at h1 h2;by_cases hl:xs.length=ys.length
    ·obtain⟨b,e1,h3⟩:=W0 ih (λx hx=>h1 x hx) (λx hx=>h2 x hx);refine⟨b,by simp[eqD,view,hl,e1],?_⟩;rw[h3,<-hl,j7,hl,j7];simp
    ·exact⟨vU,by simp[eqD,view,hl],by simp;rintro rfl;exact hl rfl⟩
   |_=>exact⟨vU,by simp[eqD,view],by simp⟩
  |non=>cases e<;>first|(simp[okD]at h2;done)|exact⟨_,rfl,by simp[eqV]⟩
  |int i=>cases e<;>first|(simp[okD]at h2;done)|exact⟨_,rfl,by simp[eqV]⟩
  |str i=>cases e<;>first|(simp[okD]at h2;done)|exact⟨_,rfl,by simp[eqV]⟩
open Classical in
theorem ZEz{e:D}(h1:okD 30 d=vT)(h2:okD 30 e=vT):Hn d e G=.ok (.bl (!decide (d=e))) G:=by
 obtain⟨b,e1,h⟩:=ZDv (G:=G) 30 d e h1 h2;unfold Hn;rw[e1];cases b with
 |true=>simp[h.mp rfl]
 |false=>simp[show¬d=e from λz=>zy (h.mpr z)]
theorem ZGi(h1:okD 30 d=vT):Hn d d G=.ok (.bl vU) G:=by rw[ZEz h1 h1];simp
end
def cutD{α:Type}(xs:List α)(lo hi:Option Int):List α:=(xs.drop (HT.sIx xs.length 0 lo)).take (HT.sIx xs.length xs.length hi-HT.sIx xs.length 0 lo)
def O7(z:Str)(lo hi:Option Int):Str:=⟨(cutD z.cps.toList lo hi).toArray⟩
theorem ZFf(xs:List α)(lo hi:Option Int):(cutD xs lo hi).length<=xs.length:=by unfold cutD;rw[qF,jO];lia
def Kq(t:Option DE)(S:DSt)(G:DH):R (Option Int):=match t with
 |none=>.ok vS G
 |some t=>(t S G).bind λd G1=>match d with
  |.int i=>.ok (vR i) G1
  |_=>.bad
def Kf(d:D)(lo hi:Option Int)(G:DH):R D:=match d with
 |.str z=>if z.length<=1000000 then .ok (.str (O7 z lo hi)) G else .bad
 |.tup xs=>.ok (.tup (cutD xs lo hi)) G
 |d=>match Gp d G with
  |some xs=>.ok (.ref G.length) (G++[.lst (cutD xs lo hi)])
  |none=>.bad
def dSl(e:DE)(lo hi:Option DE):DE:=λS G=>(e S G).bind λd G1=>(Kq lo S G1).bind λl G2=>(Kq hi S G2).bind λh G3=>Kf d l h G3
theorem Jw(n:Nat)(v:Int):((HT.sIx n n (vR v):Nat):Int)=max 0 (min (if v<0 then v+(n:Int)else v) n)/\((HT.sIx n 0 (vR v):Nat):Int)=max 0 (min (if v<0 then v+(n:Int)else v) n):=by
 unfold HT.sIx;by_cases hv:v<0
 ·simp only[if_pos hv];lia
 ·simp only[if_neg hv];lia
theorem ZMG(xs:Array Nat)(i k:Nat):(zJ k).filterMap (λm=>xs[i+m]?)=(xs.toList.drop i).take k:=by
 induction k generalizing i with
 |zero=>simp
 | succ k ih=>
  rw[qE,zN];have e:(List.map Nat.succ (zJ k)).filterMap (λm=>xs[i+m]?)=(zJ k).filterMap (λm=>xs[i+1+m]?):=by
   rw[qP]
   congr 1
   funext m;simp only[Function.comp]
   congr 1
   lia
  rw[e,ih (i+1)];by_cases hi:i<xs.size
  ·have h1:xs[i+0]?=vR xs[i]:=by simp[hi]
   rw[h1];have h2:xs.toList.drop i=xs[i]::xs.toList.drop (i+1):=by rw[qG (by simpa using hi)];simp
   rw[h2];simp
  ·have h1:xs[i+0]?=vS:=by simp;lia
   rw[h1];simp only;rw[qk (by simp;lia),qk (by simp;lia)];simp
theorem ZH5(x:Str)(lo hi:Option Int):Txt.slice x lo hi=O7 x lo hi:=by
 have hlen:x.length=x.cps.toList.length:=by simp[Str.length]
 have key:(Builtin.Str.strSliceIndices lo hi 1 x.length).filterMap (x.cps[·]?)=cutD x.cps.toList lo hi:=by
  have e1:∀(v:Option Int),(match v with |none=>(0:Int)|some i=>max 0 (min (if i<0 then i+(x.length:Int)else i) x.length))=((HT.sIx x.length 0 v:Nat):Int):=λv=>by
   cases v with
   |none=>rfl
   |some i=>exact(Jw x.length i).2.symm
  have e2:∀(v:Option Int),(match v with |none=>(x.length:Int)|some i=>max 0 (min (if i<0 then i+(x.length:Int)else i) x.length))=((HT.sIx x.length x.length v:Nat):Int):=λv=>by
   cases v with
   |none=>rfl
   |some i=>exact(Jw x.length i).1.symm
  have e3:Builtin.Str.strSliceIndices lo hi 1 x.length=sliceRange ((HT.sIx x.length 0 lo:Nat):Int) ((HT.sIx x.length x.length hi:Nat):Int) 1:=by
   rw[<-e1 lo,<-e2 hi];unfold Builtin.Str.strSliceIndices
   cases lo<;>cases hi<;>simp
  rw[e3];unfold sliceRange cutD;rw[qP,<-hlen];generalize HT.sIx x.length 0 lo=i;generalize HT.sIx x.length x.length hi=j;have e4:((λa=>x.cps[a]?) ∘ λ(k:Nat)=>((i:Int)+1*(k:Int)).toNat)=λk=>x.cps[i+k]? :=by
   funext k;simp only[Function.comp]
   congr 1
   lia
  have e5:(if(1:Int)>0 then if(i:Int)<(j:Int)then((j:Int)-i+1-1)/1 else 0 else if(i:Int)>(j:Int)then((i:Int)-j-1-1) / -1 else 0).toNat=j-i:=by
   rw[if_pos (by lia)];split
   ·rw[Int.ediv_one];lia
   ·lia
  rw[e4,e5];exact ZMG x.cps i (j-i)
 unfold Txt.slice O7;split
 ·rename_i h;have h':(Builtin.Str.strSliceIndices lo hi 1 x.length).length=x.length:=by simpa using h
  have hsz:(cutD x.cps.toList lo hi).length=x.cps.toList.length∨(cutD x.cps.toList lo hi).length<x.cps.toList.length:=by have:=ZFf x.cps.toList lo hi;lia
  have hall:(cutD x.cps.toList lo hi).length=x.cps.toList.length:=by
   have e3:(Builtin.Str.strSliceIndices lo hi 1 x.length).length=HT.sIx x.length x.length hi-HT.sIx x.length 0 lo:=by
    have e1:∀(v:Option Int),(match v with |none=>(0:Int)|some i=>max 0 (min (if i<0 then i+(x.length:Int)else i) x.length))=((HT.sIx x.length 0 v:Nat):Int):=λv=>by
     cases v with
     |none=>rfl
     |some i=>exact(Jw x.length i).2.symm
    have e2:∀(v:Option Int),(match v with |none=>(x.length:Int)|some i=>max 0 (min (if i<0 then i+(x.length:Int)else i) x.length))=((HT.sIx x.length x.length v:Nat):Int):=λv=>by
     cases v with
     |none=>rfl
     |some i=>exact(Jw x.length i).1.symm
    have e3:Builtin.Str.strSliceIndices lo hi 1 x.length=sliceRange ((HT.sIx x.length 0 lo:Nat):Int) ((HT.sIx x.length x.length hi:Nat):Int) 1:=by
     rw[<-e1 lo,<-e2 hi];unfold Builtin.Str.strSliceIndices
     cases lo<;>cases hi<;>simp
    rw[e3];unfold sliceRange;rw[zO,List.length_range];generalize HT.sIx x.length 0 lo=i;generalize HT.sIx x.length x.length hi=j;rw[if_pos (by lia)];split
    ·rw[Int.ediv_one];lia
    ·lia
   have hj:HT.sIx x.length x.length hi<=x.length:=HT.ZB1 _ _ (zK _) hi;unfold cutD;rw[qF,jO,<-hlen];lia
  have hs:(cutD x.cps.toList lo hi).Sublist x.cps.toList:=(List.take_sublist _ _).trans (List.drop_sublist _ _);rw[hs.eq_of_length hall]
 ·rw[key]
section
variable{X:Cx}{E:XK}
theorem ZKz:SlR X (λx lo hi H Q=>∃z:Str,x=.str z/\z.length<=sizeLine/\Q (.str (O7 z lo hi)) H):=by
 intro pins s σ H x v vl vu lo hi sl Q I rx hs pl pu h;obtain⟨z,rfl,hz,q⟩:=h;obtain⟨t,rfl⟩:=rx;refine⟨"str",_,PySem.F.slot_str_getitem.lookup,typeIs_str _ _ _,?_⟩
 have fin:∀(l u:Option (Int×Tok)),vl=partValue l->vu=partValue u->l.map (·.1)=lo->u.map (·.1)=hi->vk (vK X.prog X.w) X.A (getItem (.str z t) (.ref sl)) (EP X pins σ Q) X.xe s:=by
  rintro l u rfl rfl rfl rfl
  refine wpAny_getItem_str_slice (l:=l) (u:=u) (st:=vS) (show s.heap.IsSlice sl l u vS from hs) rfl ?_
  have e:∀Q',(Txt.slice z (l.map (·.1)) (u.map (·.1))).length<=sizeLine/\(∀t' k,Q' (.str (Txt.slice z (l.map (·.1)) (u.map (·.1))) t') {s with toks:=k})->(sliceMade z t l u vS).post Q' s:=λQ' hq=>post_val_or_str hq
  refine e _ ⟨z0 (Txt.slice_le z _ _) hz,λt' k=>?_⟩;rw[ZH5];exact⟨.str _,H,I.tok k,⟨t',rfl⟩,q⟩
 cases pl with
 |none=>cases pu with
  |none=>exact fin vS vS rfl rfl rfl rfl
  |int j tj=>exact fin vS (vR (j,tj)) rfl rfl rfl rfl
 |int i ti=>cases pu with
  |none=>exact fin (vR (i,ti)) vS rfl rfl rfl rfl
  |int j tj=>exact fin (vR (i,ti)) (vR (j,tj)) rfl rfl rfl rfl
theorem ZKE{prog:xj}{E:xB->xy->Prop}{t sl:xW}{items:Array xB}{vl vu:xB}{lo hi:Option Int}{Q:xB->xy->Prop}(ht:IsTup s.heap t items)(hs:s.heap.IsSliceOf sl vl vu .none)(pl:IsPart vl lo)(pu:IsPart vu hi)
  (hw:HT.sIx items.size 0 lo=0/\HT.sIx items.size items.size hi=items.size) (h:Q (.ref t) s):vk (vK prog w) A (getItem (.ref t) (.ref sl)) Q E s:=by
 obtain⟨os,hos,hcs,hds⟩:=id hs;have hTs:s.TypeIs (.ref sl) "slice":=⟨os,hos,hcs⟩;unfold getItem
 try with_reducible refine vF ?_
 first|refine vB (vL ?_)|skip
 refine vB (wpAny_sequenceKey ht.typeIs (by decide) ?_);refine vB (vC (name:=Str.ofString "__getitem__") ht.typeIs PyProof.Rows.slot_tuple_getitem
  (vD PyProof.Rows.slot_tuple_getitem ht.typeIs entry_tuple_getitem ?_ (args_tuple_getitem _ _)))
 show vk _ _ (Builtin.Tuple.tupleItemsOf (.ref t) >>=_) _ _ s;refine vB (tupleItemsOf_ ht ?_);refine vB (wpAny_typeOf hTs ?_);rw[if_pos (by decide)];refine vB (HT.ZAs hs pl pu ?_);have hyes:(((HT.sIx items.size 0 lo:Nat):Int)==0&&(1:Int)==1&&(HT.sIx items.size items.size hi-HT.sIx items.size 0 lo)==items.size)=vT:=by rw[hw.1,hw.2];simp
 show vk _ _ (if(((HT.sIx items.size 0 lo:Nat):Int)==0&&(1:Int)==1&&(HT.sIx items.size items.size hi-HT.sIx items.size 0 lo)==items.size)=vT then _ else _) _ _ s;rw[if_pos hyes];refine vB ?_;unfold Builtin.Tuple.tupleIsExact;refine vB (wpAny_typeOf ht.typeIs (vL ?_));rw[if_pos (by decide)];exact vB (wpAny_rule (vL ⟨_,rfl,vL h⟩))
theorem ZE8:SlR X (λx lo hi H Q=>∃a xs,x=.ref a/\SqT X.K H a xs/\(HT.sIx xs.length 0 lo=0/\HT.sIx xs.length xs.length hi=xs.length)/\Q (.ref a) H):=by
 intro pins s σ H x v vl vu lo hi sl Q I rx hs pl pu h;obtain⟨a,xs,rfl,hx,hw,q⟩:=h;cases rx;obtain⟨its,r,ht,hz⟩:=I.tuple hx;have hlen:its.toArray.size=xs.length:=by rw[zx];exact r.length.symm
 exact⟨"tuple",_,PyProof.Rows.slot_tuple_getitem.lookup,ht.typeIs,ZKE ht hs pl pu (by rw[hlen];exact hw) ⟨.ref a,H,I,rfl,q⟩⟩
def Mv(E:XK)(a:Wd)(r:R (Option Int))(Q:Option Int->Hp->Prop):Prop:=match r with
 |.ok k G=>∀(b:Wd),Ext a b->Sim b G->Q k b.H
 |.err x G=>XOk E a x G
 |.bad=>False
def QO(X:Cx)(E:XK)(e:Option xY)(t:Option DE):Prop:=PO X e (λσ H Q=>∃(a:Wd)(S:DSt)(G:DH),a.K=X.K/\a.H=H/\Sim a G/\RepS a S σ/\Mv E a (Kq t S G) Q)
theorem _root_._L.PO.mono{e:Option xY}{t t':TO}(h:PO X e t)(w:∀σ H Q,t' σ H Q->t σ H Q):PO X e t':=λpins s σ H Q I q=>h pins s σ H Q I (w σ H Q q)
theorem N6:QO X E vS vS:=ZMJ.mono λσ H Q h=>by obtain⟨a,S,G,hk,rfl,s,r,h⟩:=h;exact h a (Ext.refl a) s
theorem K4(he:QE X E e t):QO X E (vR e) (vR t):=(ZIS he).mono λσ H Q h=>by
 obtain⟨a,S,G,hk,rfl,s,r,h⟩:=h;refine⟨a,S,G,hk,rfl,s,r,?_⟩
 have h':Mv E a ((t S G).bind λd G1=>match d with | .int i=>.ok (vR i) G1|_=>.bad) Q:=h
 cases ht:t S G with
 |ok d G1=>
  rw[ht]at h';intro b v x sb rv;cases d with
  |int i=>exact⟨i,rv,h' b x sb⟩
  |_=>exact h'.elim
 |err x G1=>rw[ht]at h';exact h'
 |bad=>rw[ht]at h';exact h'
theorem Reps.cutD(r:Reps a ds vs)(lo hi:Option Int):Reps a (_D.cutD ds lo hi) (Jz vs lo hi):=by unfold _D.cutD Jz;rw[r.length];exact(r.drop _).take _
theorem Mv.imp{r:R (Option Int)}{Q Q':Option Int->Hp->Prop}(h:Mv E a r Q)(w:∀v H,Q v H->Q' v H):Mv E a r Q':=by
 cases r with
 |ok d G=>exact λb x s=>w _ _ (h b x s)
 |err e G=>exact h
 |bad=>exact h
theorem ZCN{r:R (Option Int)}{f:Option Int->DH->R D}(h:out E a (r.bind f) Q):
  Mv E a r (λk H=>∃(b:Wd)(G:DH),b.H=H/\Ext a b/\Sim b G/\r=.ok k G/\out E b (f k G) Q):=by
 cases r with
 |ok d G=>exact λb x s=>⟨b,G,rfl,x,s,rfl,out.mono x h⟩
 |err e G=>exact h
 |bad=>exact h
theorem Kr{lo hi:Option xY}{tl th:Option DE}{p2 pos:Pos}(he:QE X E e te)(hl:QO X E lo tl)(hu:QO X E hi th):QE X E (.Subscript e (.Slice lo hi vS p2) pos) (dSl te tl th):=
 (ZE1 (ZKv.or (ZGt.or (ZE8.or ZKz))) he hl hu).mono λσ H Q h=>by
 obtain⟨a,S,G,hk,rfl,s,r,h⟩:=h;refine⟨a,S,G,hk,rfl,s,r,(Dj h).imp ?_⟩;rintro v _ ⟨b,d,G1,rfl,x,s1,q,_,h1⟩;refine⟨b,S,G1,x.k.trans hk,rfl,s1,r.mono x,(ZCN h1).imp ?_⟩;rintro l _ ⟨c,G2,rfl,y,s2,_,h2⟩;refine⟨c,S,G2,y.k.trans (x.k.trans hk),rfl,s2,(r.mono x).mono y,(ZCN h2).imp ?_⟩;rintro u _ ⟨c3,G3,rfl,y3,s3,_,h3⟩;have hk3:=y3.k.trans (y.k.trans (x.k.trans hk));have q3:=(q.mono y).mono y3
 have lst:out E c3 (match Gp d G3 with |some xs=>.ok (.ref G3.length) (G3++[.lst (cutD xs l u)])|none=>.bad) Q->rSlL X.K v l u c3.H Q:=λh3=>by
  split at h3
  ·rename_i xs hx;obtain⟨p,vs,e1,q1,r1⟩:=Wx s3 q3 hx;exact⟨p,vs,e1,by rw[<-hk3];exact q1,λp hp=>Nf s3 (Reps.cutD r1 l u) h3 p hp⟩
  ·exact h3.elim
 cases d with
 | str z=>
  have h4:out E c3 (if z.length<=1000000 then .ok (.str (O7 z l u)) G3 else .bad) Q:=h3;split at h4
  ·rename_i hl
   cases(show v=V.str z from q3)
   exact .inr (.inr (.inr ⟨z,rfl,z0 hl size6,h4 c3 _ (Ext.refl _) s3 rfl⟩))
  ·exact h4.elim
 | tup xs=>
  have h4:out E c3 (.ok (.tup (cutD xs l u)) G3) Q:=h3;obtain⟨p,vs,e1,q1,r1⟩:=q3;by_cases hw:HT.sIx vs.length 0 l=0/\HT.sIx vs.length vs.length u=vs.length
  ·refine .inr (.inr (.inl ⟨p,vs,e1,by rw[<-hk3];exact q1,hw,h4 c3 _ (Ext.refl _) s3 ⟨p,vs,rfl,q1,?_⟩⟩));have:cutD xs l u=xs:=by unfold cutD;rw[r1.length,hw.1,hw.2,<-r1.length];simp
   rw[this];exact r1
  ·exact .inr (.inl ⟨p,vs,e1,by rw[<-hk3];exact q1,hw,λp hp=>ZCT s3 (Reps.cutD r1 l u) h4 p hp⟩)
 |fl xs=>exact .inl (lst h3)
 |ref i=>exact .inl (lst h3)
 |non=>exact(show False from h3).elim
 |bl _=>exact(show False from h3).elim
 |int _=>exact(show False from h3).elim
 |ty _=>exact(show False from h3).elim
section
variable{name:Str}{id:String}{f:D->List D->DH->R D}{o e:xY}{es:List xY}{to:DE}{t:DA}{apos cpos:Pos}
end
end
section
variable{S:DSt}{G:DH}
@[simp]theorem ev_Sl{e:DE}{lo hi:Option DE}:dSl e lo hi S G=(e S G).bind λd G1=>(Kq lo S G1).bind λl G2=>(Kq hi S G2).bind λh G3=>Kf d l h G3:=id rfl
@[simp]theorem ZNC:Kq vS S G=.ok vS G:=id rfl
@[simp]theorem ZM4:Kq (vR t) S G=(t S G).bind λd G1=>match d with | .int i=>.ok (vR i) G1|_=>.bad:=id rfl
@[simp]theorem ZEf{lo hi:Option Int}:Kf (.fl xs) lo hi G=.ok (.ref G.length) (G++[.lst (cutD xs lo hi)]):=id rfl
@[simp]theorem ZNA:Dk [.fl xs] G=.ok (.ref G.length) (G++[.lst xs]):=id rfl
@[simp]theorem ZFD{ys:List D}:Bb (.fl xs) (.fl ys) G=if xs.length+ys.length<=1000000 then .ok (.ref G.length) (G++[.lst (xs++ys)])else .bad:=id rfl
end
end _D
namespace _D
open PySem PySem.Spec _L
open PyProof.Rows hiding St
open Builtin.Str
variable{g:DG}{c:DB}{te:DE}{S:DSt}{G:DH}
section
variable(p:Nat->Bool)(m:Nat)
end
def CStep(g:DG)(c:DB)(te:DE)(S:DSt)(G:DH)(x:D)(r:Option D):Prop:=
 ∃S1,g x S G=.ok S1 G/\((c S1 G=.ok vU G/\r=vS)∨(c S1 G=.ok vT G/\∃d,te S1 G=.ok d G/\r=vR d))
theorem Qe{F:D->Option D}:∀{xs:List D},(∀x∈xs,CStep g c te S G x (F x))->Cq g c te S xs G=.ok (xs.filterMap F) G
 |[],_=>rfl
 |x::xs,h=>by
  obtain⟨S1,h1,h2⟩:=h x (by simp);have ih:=Qe (λy hy=>h y (zZ _ hy));rw[ZAe,h1];rcases h2 with⟨h2,h3⟩|⟨h2,d,h3,h4⟩
  ·simp[h2,h3,ih,zN]
  ·simp[h2,h3,h4,ih,zN]
theorem ZC4{i:Nat}{F:D->Option D}{xs:List D}(hG:G[i]?=vR (.lst xs))(h:∀x∈xs,CStep g c te S G x (F x)):
  ∀(n j:Nat),j+n=xs.length->Ec i g c te S n j G=.ok ((xs.drop j).filterMap F) G
 |0,j,hj=>by
  unfold Ec;rw[hG];simp only;rw[if_pos (by lia),qk (by lia)]
  rfl
 |n+1,j,hj=>by
  have hlt:j<xs.length:=by lia
  have ih:=ZC4 hG h n (j+1) (by lia);obtain⟨S1,h1,h2⟩:=h xs[j] (qN hlt);unfold Ec;rw[hG];simp only;rw[zY hlt];simp only[h1,R.Jf];rw[qG hlt,zN];rcases h2 with⟨h2,h3⟩|⟨h2,d,h3,h4⟩
  ·simp[h2,h3,ih]
  ·simp[h2,h3,h4,ih]
theorem ZIk{i:Nat}{F:D->Option D}{xs:List D}(hG:G[i]?=vR (.lst xs))(h:∀x∈xs,CStep g c te S G x (F x)):
  Ec i g c te S xs.length 0 G=.ok (xs.filterMap F) G:=ZC4 hG h xs.length 0 (by lia)
end _D
namespace _D
open PySem PySem.Spec _L
open PyProof.Rows hiding St
variable{h h':Heap}{p z:xW}{k i:Nat}{old:xB}{os:List xB}
inductive Src where
 |l (a:xW)
 |t (a:xW)
variable{sr:Src}{l:List (Src×xW)}
noncomputable def Src.itn:Src->String
 |.l _=>"list_iterator"
 |.t _=>"tuple_iterator"
noncomputable def Src.adr:Src->xW
 |.l a=>a
 |.t a=>a
def Src.it(h:Heap)(p:xW)(k:Nat)(sr:Src):Prop:=∃o,h.get? p=vR o/\o.cls=.type sr.itn/\o.data=.fields #[.ref sr.adr,.int k 0]
def Src.val(h:Heap)(xs:Array xB):Src->Prop
 |.l a=>h.IsList a xs
 |.t a=>h.IsTuple a xs
theorem Src.it.at(x:sr.it h p k)(e:∀o,h.get? p=vR o->h'.get? p=vR o):sr.it h' p k:=let⟨o,ho,r⟩:=x;⟨o,e o ho,r⟩
theorem Src.val.at{xs:Array xB}(x:sr.val h xs)(e:∀o,h.get? sr.adr=vR o->h'.get? sr.adr=vR o):sr.val h' xs:=by
 cases sr with
 |l a=>obtain⟨o,ho,r⟩:=x;exact⟨o,e o ho,r⟩
 |t a=>obtain⟨o,ho,r⟩:=x;exact⟨o,e o ho,r⟩
theorem Src.it.lt(x:sr.it h p k):p<h.objs.size:=let⟨_,ho,_⟩:=x;zW ho
section
variable{prog:xj}{w:xC}{A:xK}{E:xB->xy->Prop}{s:xy}
theorem Src.val.obj{xs:Array xB}(x:sr.val h xs):∃o n,h.get? sr.adr=vR o/\o.data=.seq xs n:=by
 cases sr with
 |l a=>obtain⟨o,ho,_,n,hd⟩:=x;exact⟨o,n,ho,hd⟩
 |t a=>obtain⟨o,ho,_,n,hd⟩:=x;exact⟨o,n,ho,hd⟩
theorem Src.next_item{xs:Array xB}{x:xB}{Q:xB->xy->Prop}(hit:sr.it s.heap p k)(hv:sr.val s.heap xs)(hx:xs[k]?=vR x)
  (hQ:∀h',sr.it h' p (k+1)->qx p s.heap h'->Q x {s with heap:=h'}):vk (vK prog w) A (Builtin.SmallTypes.nextOf (.ref p)) Q E s:=by
 cases sr with
 |l a=>exact wpAny_nextOf_list_item (show s.heap.IsListIter p a k from hit) hv hx hQ
 |t a=>
  obtain⟨o,ho,hc,hd⟩:=id hit;obtain⟨ol,hol,_,nl,hdl⟩:=hv;have hT:s.TypeIs (.ref p) "tuple_iterator":=⟨o,ho,hc⟩;unfold Builtin.SmallTypes.nextOf;refine vB (vC (name:=Str.ofString "__next__") hT PySem.F.slot_tuple_iterator_next (vD PySem.F.slot_tuple_iterator_next hT PySem.F.entry_tuple_iterator_next ?_ (PySem.F.args_tuple_iterator_next_1 _)));refine vB (m:=field (.ref p) 0) (vE ho hd (x:=.ref a) rfl ?_)
  show vk _ _ (if(Value.ref a==Value.none)=vT then _ else(field (.ref p) 1 >>=_)) _ _ s
  rw[if_neg (show¬((Value.ref a==Value.none)=vT)from zy)]
  refine vB (m:=field (.ref p) 1) (vE ho hd (x:=.int k 0) rfl (vB (m:=seqItems? (.ref a)) (wpAny_seqItems hol hdl ?_)));simp only[Int.toNat_natCast,hx];refine vB (wpAny_setField ho hd (by simp) (vL ⟨x,rfl,vL (hQ _ ⟨_,qV _ ho (Obj.isFreed_of_fields (Obj.data_mapFields hd _)),(Obj.cls_mapFields ..).trans hc,?_⟩ (qx.update ..))⟩))
  rw[Obj.data_mapFields hd];simp[vY,Src.adr]
theorem Src.next_end{xs:Array xB}{Q:xB->xy->Prop}(hh:A.handled=vS)(hit:sr.it s.heap p k)(hv:sr.val s.heap xs)(hx:xs[k]?=vS)
  (hE:∀h' e,Heap.ExtBut p s.heap h'->(∃o,h'.get? e=vR o/\o.cls=.type "StopIteration")->E (.ref e) {s with heap:=h'}):vk (vK prog w) A (Builtin.SmallTypes.nextOf (.ref p)) Q E s:=by
 cases sr with
 |l a=>exact wpAny_nextOf_list_end hh (show s.heap.IsListIter p a k from hit) hv hx hE
 |t a=>
  obtain⟨o,ho,hc,hd⟩:=id hit;obtain⟨ol,hol,_,nl,hdl⟩:=hv;have hT:s.TypeIs (.ref p) "tuple_iterator":=⟨o,ho,hc⟩;unfold Builtin.SmallTypes.nextOf;refine vB (vC (name:=Str.ofString "__next__") hT PySem.F.slot_tuple_iterator_next (vD PySem.F.slot_tuple_iterator_next hT PySem.F.entry_tuple_iterator_next ?_ (PySem.F.args_tuple_iterator_next_1 _)));refine vB (m:=field (.ref p) 0) (vE ho hd (x:=.ref a) rfl ?_)
  show vk _ _ (if(Value.ref a==Value.none)=vT then _ else(field (.ref p) 1 >>=_)) _ _ s
  rw[if_neg (show¬((Value.ref a==Value.none)=vT)from zy)]
  refine vB (m:=field (.ref p) 1) (vE ho hd (x:=.int k 0) rfl (vB (m:=seqItems? (.ref a)) (wpAny_seqItems hol hdl ?_)));simp only[Int.toNat_natCast,hx];refine vB (wpAny_rule (vB (wpAny_setField ho hd (by simp) (vB (m:=newExc (.type "StopIteration") []) ?_))));simp only[newExc,newTuple]
  refine vB (vH (vB (m:=firstArgMember _ _) (wpAny_of_eq (a:=Value.none) (by first|rfl|(simp only[firstArgMember];rfl)) (vH ?_ (by size_fits)))) (by size_fits))
  simp only[raiseNew];refine vB (wpAny_handled ?_)
  first|rw[show A.in1.handled=vS from hh]|rw[hh]
  exact vB (vL (wpAny_throw (hE _ _ (((qx.update ..).extBut.push _).push _) ⟨_,zj _ rfl,rfl⟩)))
theorem Src.iter{xs:Array xB}{Q:xB->xy->Prop}(hv:sr.val s.heap xs)
  (hQ:Q (.ref s.heap.objs.size) {s with heap:=s.heap.push {cls:=.type sr.itn,data:=.fields #[.ref sr.adr,.int 0 0]}}):vk (vK prog w) A (pyIter (.ref sr.adr)) Q E s:=by
 cases sr with
 |l a=>exact wpAny_pyIter_list hv hQ
 |t a=>exact wpAny_pyIter_tuple hv hQ
end
abbrev En(h:Heap)(e it:xW)(f0:xB)(i:Int)(g old:xB):Prop:=
 h.get? e=vR {cls:=.type "enumerate",dict:=vS,data:=.fields #[f0,.bool vU,.ref it,vY i,g,old],slots:= #[]}
def Gv(i:Int)(g:xB):Prop:=g=.none∨∃t,g=.int i t
section
variable{prog:xj}{w:xC}{A:xK}{E:xB->xy->Prop}{s:xy}
theorem ZIa{e it:xW}{i:Int}{xs:Array xB}{x g:xB}{Q:xB->xy->Prop}(he:En s.heap e it .none i g old)(hg:Gv i g)(hit:sr.it s.heap it k)(hv:sr.val s.heap xs)(hx:xs[k]?=vR x)(hne:e≠it)
  (hQ:∀h' t tk,En h' e it (vY s.heap.objs.size) (i+1) .none x->sr.it h' it (k+1)->h'.get? s.heap.objs.size=vR {cls:=.type "tuple",data:=.seq #[.int i t,x]}->h'.objs.size=s.heap.objs.size+1->
   (∀b o,b≠e->b≠it->s.heap.get? b=vR o->h'.get? b=vR o)->Q (.ref s.heap.objs.size) {s with heap:=h',toks:=tk}):
  vk (vK prog w) A (Builtin.«enumerate.__next__» ⟨[.ref e],[]⟩) (λfin s'=>∃v,fin=.done (.ret v)/\Q v s') E s:=by
 obtain⟨hp,gg,d,tk,os⟩:=s;refine vB (m:=field (.ref e) 2) (vE he rfl (x:=.ref it) rfl (vB (m:=Builtin.SmallTypes.nextOf (.ref it)) (Src.next_item hit hv hx λh₁ hit₁ hs₁=>?_)));have he₁:En h₁ e it .none i g old:=(hs₁.2 e hne).trans he;have k₁:∀b o,b≠e->b≠it->hp.get? b=vR o->h₁.get? b=vR o:=λb o _ hb q=>hs₁.extBut b o hb q
 have z₁:h₁.objs.size=hp.objs.size:=hs₁.1;refine vB (m:=field (.ref e) 3) (vE he₁ rfl (x:=vY i) rfl ?_);refine vB (m:=field (.ref e) 4) (vE he₁ rfl (x:=g) rfl ?_)
 have rest:∀(t:Tok)(tk':Nat),vk (vK prog w) A (do
   setField (.ref e) 3 (vY (i+1));setField (.ref e) 4 .none
   let result<-newTuple [.int i t,x]
   if<-Builtin.SmallTypes.ownedTupleIsFree (.ref e)then
    rule "enumerate.__next__.owned-tuple-again"
    let old<-field (.ref e) 5
    setField (.ref e) 5 x
    Builtin.SmallTypes.ownedTupleHandOut (.ref e) result
    PySem.letGo [old] [result]
   ret result) (λfin s'=>∃v,fin=.done (.ret v)/\Q v s') E ⟨h₁,gg,d,tk',os⟩:=by
  intro t tk';refine vB (vM he₁ (by simp) λh₂ he₂ hs₂=>?_);refine vB (vM he₂ (by simp) λh₃ he₃ hs₃=>?_)
  replace he₃:En h₃ e it .none (i+1) .none old:=he₃
  have z₃:h₃.objs.size=hp.objs.size:=by rw[hs₃.1];show h₂.objs.size=_;rw[hs₂.1];exact z₁
  have k₃:∀b o,b≠e->b≠it->hp.get? b=vR o->h₃.get? b=vR o:=λb o h1 h2 q=>hs₃.extBut b o h1 (hs₂.extBut b o h1 (k₁ b o h1 h2 q))
  have i₃:sr.it h₃ it (k+1):=(hit₁.at λo q=>hs₂.extBut it o (Ne.symm hne) q).at λo q=>hs₃.extBut it o (Ne.symm hne) q
  refine vB (wpAny_newTuple ?_);generalize hh₄:h₃.push {cls:=.type "tuple",data:=.seq [Value.int i t,x].toArray}=h₄;have he₄:En h₄ e it .none (i+1) .none old:=by rw[<-hh₄];exact zQ _ he₃
  have ht₄:h₄.get? hp.objs.size=vR {cls:=.type "tuple",data:=.seq #[.int i t,x]}:=by rw[<-hh₄,<-z₃];exact zj _ rfl
  have z₄:h₄.objs.size=hp.objs.size+1:=by rw[<-hh₄,qj,z₃]
  have k₄:∀b o,b≠e->b≠it->hp.get? b=vR o->h₄.get? b=vR o:=λb o h1 h2 q=>by rw[<-hh₄];exact zQ _ (k₃ b o h1 h2 q)
  have i₄:sr.it h₄ it (k+1):=i₃.at λo q=>by rw[<-hh₄];exact zQ _ q
  have ez:e<hp.objs.size:=zW he;refine vB (m:=Builtin.SmallTypes.ownedTupleIsFree (.ref e)) ?_;unfold Builtin.SmallTypes.ownedTupleIsFree;refine vB (vE he₄ rfl (x:=.none) rfl (vL ?_));simp only[if_true];refine vB (wpAny_rule (vB (vE he₄ rfl (x:=old) rfl (vB (vM he₄ (by simp) λh₅ he₅ hs₅=>?_)))))
  replace he₅:En h₅ e it .none (i+1) .none x:=he₅
  refine vB (m:=Builtin.SmallTypes.ownedTupleHandOut _ _) ?_;unfold Builtin.SmallTypes.ownedTupleHandOut;refine vB (vM he₅ (by simp) λh₆ he₆ hs₆=>?_);refine vM he₆ (by simp) λh₇ he₇ hs₇=>?_
  refine vB (wpAny_letGo (vL ⟨_,rfl,?_⟩));have up:∀b o,b≠e->h₄.get? b=vR o->h₇.get? b=vR o:=λb o hb q=>hs₇.extBut b o hb (hs₆.extBut b o hb (hs₅.extBut b o hb q))
  show Q (.ref h₃.objs.size) _;rw[z₃];rw[z₃]at he₇;exact hQ h₇ t tk' he₇ (i₄.at λo q=>up it o (Ne.symm hne) q) (up _ _ (qy ez) ht₄) (by rw[hs₇.1];show h₆.objs.size=_;rw[hs₆.1];show h₅.objs.size=_;rw[hs₅.1];exact z₄) λb o h1 h2 q=>up b o h1 (k₄ b o h1 h2 q)
 rcases hg with rfl|⟨t,rfl⟩
 ·exact vB (m:=mkInt i) (wpAny_mkInt (rest tk (tk+1)))
 ·exact vB (m:=(pure (Value.int i t):Sem xB)) (vL (rest t tk))
theorem ZMN{e it:xW}{i:Int}{xs:Array xB}{x g:xB}{Q:Option xB->xy->Prop}(he:En s.heap e it .none i g old)(hg:Gv i g)(hit:sr.it s.heap it k)(hv:sr.val s.heap xs)(hx:xs[k]?=vR x)(hne:e≠it)
  (hQ:∀h' t tk,En h' e it (vY s.heap.objs.size) (i+1) .none x->sr.it h' it (k+1)->h'.get? s.heap.objs.size=vR {cls:=.type "tuple",data:=.seq #[.int i t,x]}->h'.objs.size=s.heap.objs.size+1->
   (∀b o,b≠e->b≠it->s.heap.get? b=vR o->h'.get? b=vR o)->Q (vR (.ref s.heap.objs.size)) {s with heap:=h',toks:=tk}):
  vk (vK prog w) A (pyNext (.ref e)) Q E s:=by
 have hT:s.TypeIs (.ref e) "enumerate":=⟨_,he,rfl⟩;unfold pyNext;exact vB (wpAny_attempt (vC (name:=Str.ofString "__next__") hT PySem.F.slot_enumerate_next
  (vD PySem.F.slot_enumerate_next hT PySem.F.entry_enumerate_next (ZIa he hg hit hv hx hne λh' t tk a1 a2 a3 a4 a5=>vL (hQ h' t tk a1 a2 a3 a4 a5)) (PySem.F.args_enumerate_next_1 _))))
theorem ZHe{e it:xW}{i:Int}{xs:Array xB}{g:xB}{Q:Option xB->xy->Prop}(hh:A.handled=vS)(he:En s.heap e it .none i g old)(hit:sr.it s.heap it k)(hv:sr.val s.heap xs)(hx:xs[k]?=vS)
  (hQ:∀h',Heap.ExtBut it s.heap h'->Q vS {s with heap:=h'}):vk (vK prog w) A (pyNext (.ref e)) Q E s:=by
 have hT:s.TypeIs (.ref e) "enumerate":=⟨_,he,rfl⟩;unfold pyNext;refine vB (wpAny_attempt (vC (name:=Str.ofString "__next__") hT PySem.F.slot_enumerate_next
  (vD PySem.F.slot_enumerate_next hT PySem.F.entry_enumerate_next (vB (m:=field (.ref e) 2) (vE he rfl (x:=.ref it) rfl (vB (m:=Builtin.SmallTypes.nextOf (.ref it)) (Src.next_end hh hit hv hx λh' x he' hx'=>?_)))) (PySem.F.args_enumerate_next_1 _))))
 obtain⟨o,ho,hc⟩:=hx';exact vB (wpAny_isInstance (T:="StopIteration") (b:=vT) ⟨o,ho,hc⟩ isSubtype_stop (vL (hQ _ he')))
theorem ZKN{elts:List xY}{x1}{pos:Pos}{e it a:xW}{i:Int}{g:xB}{Q:Unit->xy->Prop}(he:En s.heap e it (vY a) i g old)
  (hQ:∀h',En h' e it .none i g old->qx e s.heap h'->Q () {s with heap:=h'}):vk (vK prog w) A (vV (.Tuple elts x1 pos) (.ref e) (.ref a)) Q E s:=by
 unfold vV;refine vB (wpAny_load he ?_);dsimp only;rw[if_pos (by simp)];exact vB (wpAny_rule (vM he (by simp) λh' he' hs'=>hQ h' he' hs'))
theorem ZBp{e it:xW}{f0:xB}{i:Int}{g:xB}{Q:xB->xy->Prop}(he:En s.heap e it f0 i g old)(h:Q (.ref e) s):vk (vK prog w) A (pyIter (.ref e)) Q E s:=by have hT:s.TypeIs (.ref e) "enumerate":=⟨_,he,rfl⟩;exact wpAny_pyIter_slot hT PySem.F.slot_enumerate_iter (vD PySem.F.slot_enumerate_iter hT PySem.F.entry_enumerate_iter (vL ⟨_,rfl,"enumerate",_,hT,PySem.F.slot_enumerate_next.lookup,h⟩) (PySem.F.args_enumerate_iter_1 _))
end
abbrev Tp(h:Heap)(T:xW)(xs:List xB):Prop:=h.get? T=vR {cls:=.type "tuple",data:=.seq xs.toArray}
inductive Drw (h:Heap) (i:Nat):List (Src×xW)->List xB->Prop where
 |nil:Drw h i [] []
 |cons {sr p r x us xs} (hit:Src.it h p i sr) (hv:sr.val h xs) (hx:xs[i]?=vR x) (t:Drw h i r us):Drw h i ((sr,p)::r) (x::us)
theorem Drw.length{us:List xB}(d:Drw h i l us):us.length=l.length:=by
 induction d with
 |nil=>rfl
 |cons _ _ _ _ ih=>simp[ih]
section
variable{prog:xj}{w:xC}{A:xK}{E:xB->xy->Prop}{s:xy}
theorem ZJZ{T:xW}{xs:List xB}{x:xB}{Q:Unit->xy->Prop}(hT:Tp s.heap T xs)(hz:xs.length<=1000000)
  (h:∀h',Tp h' T (xs.set k x)->qx T s.heap h'->Q () {s with heap:=h'}):vk (vK prog w) A (updateSeq T (·.setIfInBounds k x)) Q E s:=by
 have h1:xs.toArray.size<=sizeLine:=by rw[zx];exact z0 hz size6
 refine wpAny_updateSeq hT rfl (h _ ?_ (qx.update ..)) h1 (by rw[Array.size_setIfInBounds];exact Nat.le_succ_of_le h1);show(s.heap.update T _).get? T=_;rw[qV _ hT rfl];simp[Obj.mapSeq]
def ZS(prog:xj)(w:xC)(A:xK)(E:xB->xy->Prop)(z TO p:xW)(k:Nat)(R:xy->Prop)(s:xy):Prop:=
 vk (vK prog w) A (Builtin.SmallTypes.nextOf (.ref p)) (λx s1=>∃os,Tp s1.heap TO os/\os.length<=1000000/\∀h',Tp h' TO (os.set k x)->qx TO s1.heap h'->R {s1 with heap:=h'})
  (λe s'=>vk (vK prog w) A (setField (.ref z) 0 .none) (λ_ s''=>E e s'') E s') s
theorem ZD7{TO:xW}{xs:Array xB}{x:xB}{Q:xy->Prop}(hTO:Tp s.heap TO os)(hz:os.length<=1000000)(hit:sr.it s.heap p i)(hv:sr.val s.heap xs)(hx:xs[i]?=vR x)
  (h:∀h',Tp h' TO (os.set k x)->sr.it h' p (i+1)->(∀b o,b≠TO->b≠p->s.heap.get? b=vR o->h'.get? b=vR o)->h'.objs.size=s.heap.objs.size->Q {s with heap:=h'}):ZS prog w A E z TO p k Q s:=by
 have hne:TO≠p:=λe=>by
  obtain⟨o,ho,hc,_⟩:=hit;rw[<-e,hTO]at ho;cases ho
  cases sr<;>(simp[Src.itn]at hc)
 refine Src.next_item hit hv hx λh₁ it₁ sb₁=>⟨os,sb₁.extBut _ _ hne hTO,hz,λh₂ t₂ sb₂=>?_⟩
 exact h h₂ t₂ (it₁.at λo e=>sb₂.extBut _ _ (Ne.symm hne) e) (λb o b1 b2 e=>sb₂.extBut b o b1 (sb₁.extBut b o b2 e)) (by rw[sb₂.1];show h₁.objs.size=_;rw[sb₁.1])
theorem ZDw{TO:xW}{body:xB×Nat->Option Fin×PUnit->Sem (ForInStep (Option Fin×PUnit))}{R:Option Fin×PUnit->xy->Prop}
  (hb:∀(p:xW)(k:Nat)(s:xy)(R':ForInStep (Option Fin×PUnit)->xy->Prop),ZS prog w A E z TO p k (λs'=>R' (.yield (vS,⟨⟩)) s') s->
   vk (vK prog w) A (body (.ref p,k) (vS,⟨⟩)) R' E s):
  ∀(l:List (Src×xW))(us pre post:List xB)(s:xy),Drw s.heap i l us->Tp s.heap TO (pre++post)->post.length=l.length->(pre++post).length<=1000000->(l.map (·.2)).Nodup->(∀q∈l,q.1.adr≠TO)->(∀q∈l,∀r∈l,q.1.adr≠r.2)->
   (∀h',Tp h' TO (pre++us)->(∀q∈l,q.1.it h' q.2 (i+1))->(∀b o,b≠TO->b∉l.map (·.2)->s.heap.get? b=vR o->h'.get? b=vR o)->h'.objs.size=s.heap.objs.size->R (vS,⟨⟩) {s with heap:=h'})->
   vk (vK prog w) A (forIn ((l.map λq=>Value.ref q.2).zipIdx pre.length) (vS,⟨⟩) body) R E s
 | [],us,pre,post,s,d,hT,hl,hz,nd,na,np,hR=>by
  cases d;cases post with
  |cons _ _=>simp at hl
  |nil=>
   rw[jW,List.zipIdx_nil,List.forIn_nil];exact vL (hR s.heap hT (λq hq=>by cases hq) (λb o _ _ e=>e) rfl)
 | (sr,p)::l,us,pre,post,s,d,hT,hl,hz,nd,na,np,hR=>by
  cases d with
  |@cons _ _ _ x us xs hit hv hx d=>
  cases post with
  |nil=>simp at hl
  | cons y post=>
   rw[zA,jX,jB];refine vB (hb p pre.length s _ (ZD7 hT hz hit hv hx λh' hT' it' kp sz=>?_));have e1:(pre++y::post).set pre.length x=(pre++[x])++post:=by simp
   rw[e1]at hT';have e2:pre.length+1=(pre++[x]).length:=by simp
   dsimp only;rw[e2]
   have nd':p∉l.map (·.2)/\(l.map (·.2)).Nodup:=by simpa using nd
   have hTOp:∀q∈l,q.2≠TO:=λq hq e=>by
    have:∃sr k,Src.it s.heap q.2 k sr:=by
     clear hR na np nd nd' e1 e2 hl hT' hz
     induction d with
     |nil=>cases hq
     |cons hit _ _ _ ih=>
      rcases zq.mp hq with rfl|hq
      ·exact⟨_,_,hit⟩
      ·exact ih hq
    obtain⟨sr',k,o,ho,hc,_⟩:=this;rw[e,hT]at ho;cases ho
    cases sr'<;>(simp[Src.itn]at hc)
   have d':Drw h' i l us:=by
    have na':∀q∈l,q.1.adr≠TO:=λq hq=>na q (zZ _ hq)
    have np':∀q∈l,q.1.adr≠p:=λq hq=>np q (zZ _ hq) (sr,p) zV
    have pp:∀q∈l,q.2≠p:=λq hq e=>nd'.1 (zS.mpr ⟨q,hq,e⟩)
    clear hR na np nd nd' e1 e2 hl hT' hz
    induction d with
    |nil=>exact .nil
    |@cons sr1 p1 r1 x1 us1 xs1 hit1 hv1 hx1 t1 ih=>
     refine .cons (hit1.at λo e=>kp _ o (hTOp _ zV) (pp _ zV) e) (hv1.at λo e=>kp _ o (na' _ zV) (np' _ zV) e) hx1 ?_;exact ih (λq hq=>hTOp q (zZ _ hq)) (λq hq=>na' q (zZ _ hq)) (λq hq=>np' q (zZ _ hq)) (λq hq=>pp q (zZ _ hq))
   refine ZDw hb l us (pre++[x]) post {s with heap:=h'} d' hT' (by simpa using hl) (by simpa using hz) nd'.2 (λq hq=>na q (zZ _ hq)) (λq hq r hr=>np q (zZ _ hq) r (zZ _ hr)) λh'' t'' its'' kp'' sz''=>?_
   have hpTO:p≠TO:=λe=>by
    obtain⟨o,ho,hc,_⟩:=hit;rw[e,hT]at ho;cases ho
    cases sr<;>(simp[Src.itn]at hc)
   refine hR h'' (by simpa using t'') (λq hq=>?_) (λb o b1 b2 e=>?_) (sz''.trans sz)
   ·rcases zq.mp hq with rfl|hq
    ·exact it'.at λo e=>kp'' _ o hpTO nd'.1 e
    ·exact its'' q hq
   ·simp only[zA,zq,not_or]at b2;exact kp'' b o b1 b2.2 (kp b o b1 b2.1 e)
end
inductive DrwE (h:Heap) (i:Nat):List (Src×xW)->Prop where
 |here {sr p r xs} (hit:Src.it h p i sr) (hv:sr.val h xs) (hx:xs[i]?=vS):DrwE h i ((sr,p)::r)
 |there {sr p r x xs} (hit:Src.it h p i sr) (hv:sr.val h xs) (hx:xs[i]?=vR x) (t:DrwE h i r):DrwE h i ((sr,p)::r)
structure ApZ (TO:xW) (l:List (Src×xW)):Prop where
 nd:(l.map (·.2)).Nodup
 na:∀q∈l,q.1.adr≠TO
 np:∀q∈l,∀r∈l,q.1.adr≠r.2
 to:∀q∈l,q.2≠TO
theorem ApZ.tail{TO:xW}{q:Src×xW}(a:ApZ TO (q::l)):ApZ TO l:=
 ⟨(jz.mp (by simpa using a.nd)).2,λq hq=>a.na q (zZ _ hq),λq hq r hr=>a.np q (zZ _ hq) r (zZ _ hr),λq hq=>a.to q (zZ _ hq)⟩
section
variable{prog:xj}{w:xC}{A:xK}{E:xB->xy->Prop}{s:xy}
theorem DrwE.at{TO:xW}(a:ApZ TO ((sr,p)::l))(kp:∀b o,b≠TO->b≠p->h.get? b=vR o->h'.get? b=vR o)(d:DrwE h i l):DrwE h' i l:=by
 have pp:∀q∈l,q.2≠p:=λq hq e=>(jz.mp (by simpa using a.nd)).1 (zS.mpr ⟨q,hq,e⟩)
 have np:∀q∈l,q.1.adr≠p:=λq hq=>a.np q (zZ _ hq) (sr,p) zV
 have a':=a.tail;clear a
 induction d with
 |here hit hv hx=>exact .here (hit.at λo e=>kp _ o (a'.to _ zV) (pp _ zV) e) (hv.at λo e=>kp _ o (a'.na _ zV) (np _ zV) e) hx
 | there hit hv hx t ih=>
  exact .there (hit.at λo e=>kp _ o (a'.to _ zV) (pp _ zV) e) (hv.at λo e=>kp _ o (a'.na _ zV) (np _ zV) e) hx
   (ih (λq hq=>pp q (zZ _ hq)) (λq hq=>np q (zZ _ hq)) a'.tail)
theorem ZDf{TO:xW}{body:xB×Nat->Option Fin×PUnit->Sem (ForInStep (Option Fin×PUnit))}{R:Option Fin×PUnit->xy->Prop}(hh:A.handled=vS)
  (hb:∀(p:xW)(k:Nat)(s:xy)(R':ForInStep (Option Fin×PUnit)->xy->Prop),ZS prog w A E z TO p k (λs'=>R' (.yield (vS,⟨⟩)) s') s->
   vk (vK prog w) A (body (.ref p,k) (vS,⟨⟩)) R' E s):
  ∀(l:List (Src×xW))(os:List xB)(n:Nat)(s:xy),DrwE s.heap i l->Tp s.heap TO os->os.length<=1000000->ApZ TO l->
   (∀h' e,(∀b o,b≠TO->b∉l.map (·.2)->s.heap.get? b=vR o->h'.get? b=vR o)->(∃o,h'.get? e=vR o/\o.cls=.type "StopIteration")->vk (vK prog w) A (setField (.ref z) 0 .none) (λ_ s''=>E (.ref e) s'') E {s with heap:=h'})->
   vk (vK prog w) A (forIn ((l.map λq=>Value.ref q.2).zipIdx n) (vS,⟨⟩) body) R E s
 |[],os,n,s,d,hT,hz,a,hE=>by cases d
 | (sr,p)::l,os,n,s,d,hT,hz,a,hE=>by
  rw[zA,jX,jB];refine vB (hb p n s _ ?_);cases d with
  |here hit hv hx=>
   exact Src.next_end hh hit hv hx λh' e xb st=>hE h' e (λb o b1 b2 q=>xb b o (λz=>b2 (by rw[z];simp)) q) st
  |there hit hv hx t=>
   refine ZD7 hT hz hit hv hx λh' hT' it' kp sz=>?_
   refine ZDf hh hb l _ (n+1) {s with heap:=h'} (t.at a kp) hT' (by simpa using hz) a.tail λh'' e kp'' st=>?_
   refine hE h'' e (λb o b1 b2 q=>?_) st;simp only[zA,zq,not_or]at b2;exact kp'' b o b1 b2.2 (kp b o b1 b2.1 q)
theorem ZEI{TI TO:xW}{R:Fin->xy->Prop}(hz:IsZip s.heap z TI TO .none)(hTI:Tp s.heap TI (l.map λq=>Value.ref q.2))(hne:l≠[])
  (h:∀h₁,IsZip h₁ z TI TO .ellipsis->qx z s.heap h₁->∀body:xB×Nat->Option Fin×PUnit->Sem (ForInStep (Option Fin×PUnit)),
   (∀(p:xW)(k:Nat)(s:xy)(R':ForInStep (Option Fin×PUnit)->xy->Prop),ZS prog w A E z TO p k (λs'=>R' (.yield (vS,⟨⟩)) s') s->
    vk (vK prog w) A (body (.ref p,k) (vS,⟨⟩)) R' E s)->
   vk (vK prog w) A (forIn ((l.map λq=>Value.ref q.2).zipIdx 0) (vS,⟨⟩) body) (λr s'=>r.1=vS/\∃us,Tp s'.heap TO us/\us.length<=1000000/\IsZip s'.heap z TI TO .ellipsis/\
    ∀h',IsZip h' z TI TO (vY s'.heap.objs.size)->Tp h' s'.heap.objs.size us->h'.objs.size=s'.heap.objs.size+1->(∀b o,b≠z->s'.heap.get? b=vR o->h'.get? b=vR o)->R (.done (.ret (.ref s'.heap.objs.size))) {s' with heap:=h'}) E {s with heap:=h₁}):
  vk (vK prog w) A (Builtin.«zip.__next__» ⟨[.ref z],[]⟩) R E s:=by
 refine vB (m:=field (.ref z) 2) (vE hz rfl (x:=.bool vU) rfl (vB (m:=field (.ref z) 3) (vE hz rfl (x:=.ref TI) rfl (vB (m:=seqItems? (.ref TI)) (wpAny_seqItems hTI rfl ?_)))));dsimp only;have hemp:(l.map λq=>Value.ref q.2).toArray.isEmpty=vU:=by cases l with
  |nil=>exact absurd rfl hne
  |cons _ _=>simp
 rw[hemp];refine vB (m:=Builtin.SmallTypes.ownedTupleIsFree (.ref z)) ?_;unfold Builtin.SmallTypes.ownedTupleIsFree;refine vB (vE hz rfl (x:=.none) rfl (vL ?_));simp only[if_true];refine vB (wpAny_rule (vB (vE hz rfl (x:=.ref TO) rfl (vB (vM hz (by simp) λh₁ hz₁ hs₁=>?_)))));refine vB (vG (h h₁ hz₁ hs₁ _ λp k s R' hst=>?_) (λr s' hr=>?_) λ_ _ x=>x)
 ·refine vB (wpAny_onRaise ?_);show vk _ _ (Builtin.SmallTypes.nextOf (.ref p) >>=λv=>pure (vR v)) _ _ s;refine vB (vG hst (λx s1 hx=>vL ?_) λ_ _ x=>x);obtain⟨os,hT,hl,hR⟩:=hx;dsimp only;refine vB (wpAny_seqItems hT rfl ?_);dsimp only;exact vB (ZJZ hT hl λh' t' sb=>vB (wpAny_letGo (vL (hR h' t' sb))))
 ·obtain⟨hn,us,hT,hl,hzz,hR⟩:=hr;rw[hn];dsimp only;refine vB (wpAny_seqItems hT rfl ?_);dsimp only;refine vB (wpAny_newTuple ?_ (by show us.toArray.toList.length<=_;simpa using z0 hl size6));have hzlt:z<s'.heap.objs.size:=zW hzz;refine vB (m:=Builtin.SmallTypes.ownedTupleHandOut _ _) ?_;unfold Builtin.SmallTypes.ownedTupleHandOut;have e1:us.toArray.toList.toArray=us.toArray:=by simp
  rw[e1];have hz2:IsZip (s'.heap.push {cls:=.type "tuple",data:=.seq us.toArray}) z TI TO .ellipsis:=zQ _ hzz;refine vB (vM hz2 (by simp) λh₇ hz₇ hs₇=>?_);refine vM hz₇ (by simp) λh₈ hz₈ hs₈=>?_
  refine vL (hR h₈ hz₈ ?_ ?_ λb o hb q=>hs₈.extBut _ _ hb (hs₇.extBut _ _ hb (zQ _ q)))
  ·exact hs₈.extBut _ _ (qy hzlt) (hs₇.extBut _ _ (qy hzlt) (zj _ rfl))
  ·rw[hs₈.1];show h₇.objs.size=_;rw[hs₇.1,qj]
theorem ZMX{TI TO:xW}{us:List xB}{Q:Option xB->xy->Prop}(hz:IsZip s.heap z TI TO .none)(hTI:Tp s.heap TI (l.map λq=>Value.ref q.2))(hTO:Tp s.heap TO os)(hlen:os.length=l.length)(hsz:l.length<=1000000)(hne:l≠[])
  (a:ApZ TO l) (zz:z≠TO/\(∀q∈l,q.2≠z/\q.1.adr≠z)) (d:Drw s.heap i l us)
  (hQ:∀h',IsZip h' z TI TO (vY s.heap.objs.size)->Tp h' TO us->(∀q∈l,q.1.it h' q.2 (i+1))->Tp h' s.heap.objs.size us->h'.objs.size=s.heap.objs.size+1->
   (∀b o,b≠z->b≠TO->b∉l.map (·.2)->s.heap.get? b=vR o->h'.get? b=vR o)->Q (vR (.ref s.heap.objs.size)) {s with heap:=h'}):vk (vK prog w) A (pyNext (.ref z)) Q E s:=by
 have hT:s.TypeIs (.ref z) "zip":=⟨_,hz,rfl⟩;unfold pyNext;refine vB (wpAny_attempt (vC (name:=Str.ofString "__next__") hT PySem.F.slot_zip_next (vD PySem.F.slot_zip_next hT PySem.F.entry_zip_next ?_ (PySem.F.args_zip_next_1 _))));refine ZEI hz hTI hne λh₁ hz₁ hs₁ body hb=>?_
 have k₁:∀b o,b≠z->s.heap.get? b=vR o->h₁.get? b=vR o:=λb o hb q=>hs₁.extBut b o hb q
 have d₁:Drw h₁ i l us:=by
  have h1:∀q∈l,q.2≠z/\q.1.adr≠z:=zz.2;clear hTI hlen hsz hne a zz hQ
  induction d with
  |nil=>exact .nil
  |cons hit hv hx t ih=>exact .cons (hit.at λo e=>k₁ _ o (h1 _ zV).1 e) (hv.at λo e=>k₁ _ o (h1 _ zV).2 e) hx (ih λq hq=>h1 q (zZ _ hq))
 refine ZDw (z:=z) (TO:=TO) (i:=i) hb l us [] os {s with heap:=h₁} d₁ (k₁ _ _ (Ne.symm zz.1) hTO) hlen (by simpa[hlen]using hsz) a.nd a.na a.np λh₂ t₂ it₂ k₂ sz₂=>⟨rfl,us,t₂,by rw[d.length];exact hsz,?_,λh₃ z₃ p₃ s₃ k₃=>?_⟩
 ·refine k₂ _ _ zz.1 (λhm=>?_) hz₁;obtain⟨q,hq,e⟩:=zS.mp hm;exact(zz.2 q hq).1 e
 ·have e2:h₂.objs.size=s.heap.objs.size:=by rw[sz₂];exact hs₁.1
  refine⟨_,rfl,vL ?_⟩;show Q (vR (.ref h₂.objs.size)) _;have z₃':IsZip h₃ z TI TO (vY h₂.objs.size):=z₃;have p₃':Tp h₃ h₂.objs.size us:=p₃;have s₃':h₃.objs.size=h₂.objs.size+1:=s₃;have k₃':∀b o,b≠z->h₂.get? b=vR o->h₃.get? b=vR o:=k₃;rw[e2]at z₃' p₃' s₃'⊢;exact hQ h₃ z₃' (k₃' _ _ (Ne.symm zz.1) t₂) (λq hq=>(it₂ q hq).at λo e=>k₃' _ o (zz.2 q hq).1 e) p₃' s₃' λb o b1 b2 b3 q=>k₃' b o b1 (k₂ b o b2 b3 (k₁ b o b1 q))
theorem ZGJ{TI TO:xW}{Q:Option xB->xy->Prop}(hh:A.handled=vS)(hz:IsZip s.heap z TI TO .none)(hTI:Tp s.heap TI (l.map λq=>Value.ref q.2))(hTO:Tp s.heap TO os)(hlen:os.length=l.length)(hsz:l.length<=1000000)(hne:l≠[])
  (a:ApZ TO l) (zz:z≠TO/\(∀q∈l,q.2≠z/\q.1.adr≠z)) (d:DrwE s.heap i l)
  (hQ:∀h',(∀b o,b≠z->b≠TO->b∉l.map (·.2)->s.heap.get? b=vR o->h'.get? b=vR o)->Q vS {s with heap:=h'}):vk (vK prog w) A (pyNext (.ref z)) Q E s:=by
 have hT:s.TypeIs (.ref z) "zip":=⟨_,hz,rfl⟩;unfold pyNext;refine vB (wpAny_attempt (vC (name:=Str.ofString "__next__") hT PySem.F.slot_zip_next (vD PySem.F.slot_zip_next hT PySem.F.entry_zip_next ?_ (PySem.F.args_zip_next_1 _))));refine ZEI hz hTI hne λh₁ hz₁ hs₁ body hb=>?_
 have k₁:∀b o,b≠z->s.heap.get? b=vR o->h₁.get? b=vR o:=λb o hb q=>hs₁.extBut b o hb q
 have d₁:DrwE h₁ i l:=by
  have h1:∀q∈l,q.2≠z/\q.1.adr≠z:=zz.2;clear hTI hlen hsz hne a zz hQ
  induction d with
  |here hit hv hx=>exact .here (hit.at λo e=>k₁ _ o (h1 _ zV).1 e) (hv.at λo e=>k₁ _ o (h1 _ zV).2 e) hx
  |there hit hv hx t ih=>exact .there (hit.at λo e=>k₁ _ o (h1 _ zV).1 e) (hv.at λo e=>k₁ _ o (h1 _ zV).2 e) hx (ih λq hq=>h1 q (zZ _ hq))
 refine ZDf (A:=A.in1) (z:=z) (TO:=TO) (i:=i) (show A.in1.handled=vS from hh) hb l os 0 {s with heap:=h₁} d₁ (k₁ _ _ (Ne.symm zz.1) hTO) (by rw[hlen];exact hsz) a λh₂ e k₂ st=>?_
 have hz₂:IsZip h₂ z TI TO .ellipsis:=by refine k₂ _ _ zz.1 (λhm=>?_) hz₁;obtain⟨q,hq,e⟩:=zS.mp hm;exact(zz.2 q hq).1 e
 obtain⟨o,ho,hc⟩:=st;have hez:e≠z:=λx=>by subst x;rw[hz₂]at ho;cases ho;simp at hc
 refine vM hz₂ (by simp) λh₃ _ hs₃=>?_
 refine vB (wpAny_isInstance (T:="StopIteration") (b:=vT) ⟨o,hs₃.extBut _ _ hez ho,hc⟩ isSubtype_stop (vL ?_));exact hQ h₃ λb o b1 b2 b3 q=>hs₃.extBut _ _ b1 (k₂ b o b2 b3 (k₁ b o b1 q))
theorem ZC0:∀(ls:List Src)(pre:Array xB)(s:xy){Q:Array xB->xy->Prop},(∀sr∈ls,∃xs,sr.val s.heap xs)->
  (∀h',(∀q∈ls.zipIdx s.heap.objs.size,q.1.it h' q.2 0)->h'.objs.size=s.heap.objs.size+ls.length->(∀b o,s.heap.get? b=vR o->h'.get? b=vR o)->Q (pre++((ls.zipIdx s.heap.objs.size).map λq=>Value.ref q.2).toArray) {s with heap:=h'})->
  vk (vK prog w) A (forIn (ls.map λsr=>Value.ref sr.adr) pre λx r=>do let v<-holding r.toList (pyIter x);pure (ForInStep.yield (r.push v))) Q E s
 |[],pre,s,Q,hv,h=>by rw[jW,List.forIn_nil];refine vL ?_;have:=h s.heap (λq hq=>by cases hq) rfl (λ_ _ e=>e);simpa using this
 | sr::ls,pre,s,Q,hv,h=>by
  rw[zA,jB];obtain⟨xs,hx⟩:=hv sr zV;refine vB (vB (vF (Src.iter hx (vL ?_))));dsimp only;have z1:(s.heap.push {cls:=.type sr.itn,data:=.fields #[.ref sr.adr,.int 0 0]}).objs.size=s.heap.objs.size+1:=qj ..;refine ZC0 ls (pre.push (.ref s.heap.objs.size)) {s with heap:=s.heap.push {cls:=.type sr.itn,data:=.fields #[.ref sr.adr,.int 0 0]}} (λsr' hm=>?_) λh' hi hz kp=>?_
  ·obtain⟨ys,hy⟩:=hv sr' (zZ _ hm);exact⟨ys,hy.at λo e=>zQ _ e⟩
  ·dsimp only at hi hz kp⊢;rw[z1]at hi hz⊢;have:=h h' (λq hq=>?_) (by rw[hz,zR];lia) (λb o e=>kp b o (zQ _ e))
   ·rw[jX,zA]at this;simpa using this
   ·rw[jX]at hq;rcases zq.mp hq with rfl|hq
    ·exact⟨_,kp _ _ (zj _ rfl),rfl,rfl⟩
    ·exact hi q hq
theorem ZLL{ls:List Src}{Q:xB->xy->Prop}(hv:∀sr∈ls,∃xs,sr.val s.heap xs)(hl:ls.length<=1000000)
  (hct:checkTypeCall "zip" ⟨ls.map λsr=>Value.ref sr.adr,[]⟩=pure ()) (hcn:xN "zip.__new__" ⟨.type "zip"::ls.map λsr=>Value.ref sr.adr,[]⟩=pure ()) (hok:∀obj,argsOk "object.__init__" ⟨obj::ls.map λsr=>Value.ref sr.adr,[]⟩)
  (h:∀h' n,n=s.heap.objs.size+ls.length->IsZip h' (n+2) n (n+1) .none->Tp h' n ((ls.zipIdx s.heap.objs.size).map λq=>Value.ref q.2)->Tp h' (n+1) (ls.map λ_=>Value.none)->(∀q∈ls.zipIdx s.heap.objs.size,q.1.it h' q.2 0)->
   (∀b o,s.heap.get? b=vR o->h'.get? b=vR o)->Q (.ref (n+2)) {s with heap:=h'}):
  vk (vK prog w) A (call (.type "zip") (ls.map λsr=>Value.ref sr.adr)) Q E s:=by
 have g:Meets (Builtin.«zip.__new__» ⟨.type "zip"::ls.map λsr=>Value.ref sr.adr,[]⟩) (λ_ R s=>(∀sr∈ls,∃xs,sr.val s.heap xs)/\
   ∀h' n,n=s.heap.objs.size+ls.length->IsZip h' (n+2) n (n+1) .none->Tp h' n ((ls.zipIdx s.heap.objs.size).map λq=>Value.ref q.2)->Tp h' (n+1) (ls.map λ_=>Value.none)->(∀q∈ls.zipIdx s.heap.objs.size,q.1.it h' q.2 0)->
    (∀b o,s.heap.get? b=vR o->h'.get? b=vR o)->R (.ok (.ret (.ref (n+2)))) {s with heap:=h'}):=
  .of_wp λprog w A R s hh=>by
   obtain⟨hv,hR⟩:=hh;have hsub:=sub_zip;unfold Builtin.«zip.__new__» Builtin.SmallTypes.newClass
   wp_walk
   refine ZC0 ls #[] s hv λh1 hi hz kp=>vL ?_
   have e1:(#[]++((ls.zipIdx s.heap.objs.size).map λq=>Value.ref q.2).toArray:Array xB).toList=(ls.zipIdx s.heap.objs.size).map λq=>Value.ref q.2:=by simp
   rw[e1];have hlen:((ls.zipIdx s.heap.objs.size).map λq=>Value.ref q.2).length=ls.length:=by simp
   refine vB (wpAny_newTuple ?_ (by rw[hlen];exact z0 hl size6));refine vB (wpAny_newTuple ?_ (by rw[zO,hlen];exact z0 hl size6));refine vB ?_;unfold Builtin.SmallTypes.newRecord;dsimp only;refine vH (vL ⟨_,rfl,?_⟩) (by simp[sizeOk,Builtin.SmallTypes.ownedTupleFields,vq]);generalize e2:s.heap.objs.size+ls.length=n at*
   have e3:((ls.zipIdx s.heap.objs.size).map λq=>Value.ref q.2).map (λ_=>Value.none)=ls.map λ_=>Value.none:=by refine qO (by simp) λi h1 h2=>by simp
   dsimp only;rw[e3];generalize((ls.zipIdx s.heap.objs.size).map λq=>Value.ref q.2)=us at*;generalize(ls.map λ_=>Value.none)=ns at*;have s1:(h1.push {cls:=.type "tuple",data:=.seq us.toArray}).objs.size=n+1:=by rw[qj,hz]
   have s2:((h1.push {cls:=.type "tuple",data:=.seq us.toArray}).push {cls:=.type "tuple",data:=.seq ns.toArray}).objs.size=n+2:=by rw[qj,s1]
   show R (.ok (.ret (.ref ((h1.push {cls:=.type "tuple",data:=.seq us.toArray}).push {cls:=.type "tuple",data:=.seq ns.toArray}).objs.size))) _;rw[s2];refine hR _ n rfl ?_ (zQ _ (zQ _ (by rw[<-hz];exact zj _ rfl))) (zQ _ (by rw[<-s1];exact zj _ rfl)) (λq hq=>(hi q hq).at λo e=>zQ _ (zQ _ (zQ _ e))) λb o e=>zQ _ (zQ _ (zQ _ (kp b o e)))
   have:=zj ((h1.push {cls:=.type "tuple",data:=.seq us.toArray}).push {cls:=.type "tuple",data:=.seq ns.toArray}) (o:={cls:=.type "zip",data:=.fields #[.none,.bool vU,.bool vU,.ref h1.objs.size,.ref (h1.push {cls:=.type "tuple",data:=.seq us.toArray}).objs.size]}) rfl;rw[s2]at this;rw[hz,s1]at this;show _=_;rw[hz,s1];exact this
 refine callType_new PySem.F.called_zip (by decide) hct hcn hok PySem.F.entry_zip_new g ⟨hv,λh' n hn hz hTI hTO hi kp=>⟨⟨_,hz,rfl⟩,h h' n hn hz hTI hTO hi kp⟩⟩
end
end _D
namespace _D
open PySem PySem.W PyProof.Rows
section
def Hl(lt:Nat->Nat->Bool){α:Type}:KasT α->α
 |.ret a=>a
 |.ask i j k=>Hl lt (k (lt i j))
variable{lt:Nat->Nat->Bool}
noncomputable abbrev pt(p:Array Nat)(j:Nat):Nat:=p.getD j 0
end
end _D
namespace _D
open PySem PySem.Spec _L
open PyProof.Rows hiding St
variable{pins:List (xW×Obj)}{σ:St}{H:Hp}{s:xy}{w:xC}{K:PySem.W.Frag}{elts:List xY}{i:Nat}{a:Wd}{ta:DA}
section
variable{X:Cx}{pins:List (xW×Obj)}{σ:St}{H:Hp}{s:xy}{h':Heap}
theorem Yn{t':Nat}{fp:List xW}(I:Inv X pins σ H s)(k:∀b o,b∉fp->s.heap.get? b=vR o->h'.get? b=vR o)(hf:∀b∈fp,FpOk X pins H b):Inv X pins σ H {s with heap:=h',toks:=t'}:=by
 have nit:∀b u,H b=vR u->b∉fp:=λb u e z=>by rw[(hf b z).1]at e;cases e
 refine I.step (g':=s.gens) (d':=s.drawn) (ch:=fp) (λb hb=>?_) (λb o _ _ hc e _=>k b o hc e) (λb o _ _ hc e _=>⟨o.slots,k b o hc e⟩) (λ_ _ _ _ n=>n)
  (λb o hc e=>⟨o,k b o hc e⟩) (λ_ _ e=>e) (λ_ _ _ e=>e) (λb ps e=>⟨#[],by rw[e];simp⟩) (λm hm=>?_) (λb u e=>?_) I.bare
 ·obtain⟨f0,f1,f2,f3,f4,f5⟩:=hf b hb;exact⟨f3,f1,f4,f5⟩
 ·obtain⟨o,es,ep,ho,r⟩:=hm;exact⟨o,es,ep,k _ o (λz=>(hf _ z).2.1 rfl) ho,r⟩
 ·refine(I.hok b u e).stay (λc v hc q=>k c v ?_ q) (λ_ q=>q) λ_ _ q=>q
  rcases hc with z|z
  ·rw[z];exact nit b u e
  ·exact nit c _ z
theorem ZEZ{t':Nat}{fp:List xW}{p:xW}{xs:List V}{its:List xB}(I:Inv X pins σ H s)(k:∀b o,b∉fp->s.heap.get? b=vR o->h'.get? b=vR o)(hf:∀b∈fp,FpOk X pins H b)(hp:s.heap.objs.size<=p)
  (hz:xs.length<=sizeLine) (r:Vals xs its) (ht:Tp h' p its):Inv X pins σ (upd H p (.tup xs)) {s with heap:=h',toks:=t'}:=by
 obtain⟨g0,g1,g2,g3,g4,g5⟩:=I.I8 (H':=H) hp (I.hok.fresh hp);exact Yh (Yn I k hf) g0 (z0 I.sz hp) g1 g4 g5 ⟨hz,its,r,_,ht,rfl,_,rfl⟩
end
def Src.sq(K:PySem.W.Frag)(H:Hp)(xs:List V):Src->Prop
 |.l a=>SqL K H a xs
 |.t a=>SqT K H a xs
variable{sr:Src}{ls:List Src}
theorem Src.sq.val{X:Cx}{xs:List V}(I:Inv X pins σ H s)(h:sr.sq X.K H xs):∃its:List xB,Vals xs its/\sr.val s.heap its.toArray/\xs.length<=sizeLine:=by
 cases sr with
 |l a=>obtain⟨its,r,p,hz⟩:=I.list h;exact⟨its,r,p.isList,hz⟩
 |t a=>obtain⟨its,r,p,hz⟩:=I.tuple h;exact⟨its,r,p,hz⟩
theorem Src.sq.inj{X:Cx}{xs ys:List V}(I:Inv X pins σ H s)(h:sr.sq X.K H xs)(h':sr.sq X.K H ys):xs=ys:=by
 cases sr with
 |l a=>exact I.Xd h h'
 |t a=>exact I.Uy h h'
def Ite(K:PySem.W.Frag)(sr:Src)(n:Int):It:=
 ⟨λi H=>∃xs x,sr.sq K H xs/\xs[i]?=vR x,λi H v H'=>∃p x,v=.ref p/\H p=vS/\H'=upd H p (.tup [.int (n+i),x])/\∀xs,sr.sq K H xs->xs[i]?=vR x,λi H=>∃xs,sr.sq K H xs/\xs.length<=i⟩
theorem ZFR{P:xj}{x1}{pos:Pos}(sr:Src)(n:Int)(e it:xW)(hne:e≠it):
  Turn P w K (.Tuple elts x1 pos) (Ite K sr n) [e,it] e (λi h=>∃g old,En h e it .none (n+i) g old/\Gv (n+i) g/\sr.it h it i) where
 mem:=by simp
 obj:=λi h st b hb=>by
  obtain⟨g,old,he,_,o,ho,_,hd⟩:=st;rcases(show b=e∨b=it by simpa using hb)with rfl|rfl
  ·exact⟨_,he,λv z=>by cases z⟩
  ·exact⟨o,ho,λv z=>by rw[hd]at z;cases z⟩
 keep:=λi h h' st k=>by obtain⟨g,old,he,hg,hi⟩:=st;exact⟨g,old,k e (by simp) _ he,hg,hi.at λo q=>k it (by simp) o q⟩
 item:=by
  intro X hP hw hK hc i pins s σ H E I hf st hg;subst hP hw hK;obtain⟨xs,x,hq,hx⟩:=hg;obtain⟨its,rv,hv,hz⟩:=Src.sq.val I hq;obtain⟨u,hu,ru⟩:=rv.get hx;obtain⟨g,old,he,hgv,hi⟩:=st;refine ZMN he hgv hi hv (x:=u) (by simpa using hu) hne λh1 t tk e1 i1 t1 z1 k1=>⟨_,rfl,?_⟩
  refine ZKN (s:={s with heap:=h1,toks:=tk}) e1 λh2 e2 sb=>?_
  have hpe:s.heap.objs.size≠e:=qy (zW he);have I2:Inv X pins σ (upd H s.heap.objs.size (.tup [.int (n+i),x])) {s with heap:=h2,toks:=tk}:=
   ZEZ (fp:=[e,it]) (its:=[.int (n+i) t,u]) I (λb o hb q=>by
    have hb':b≠e/\b≠it:=by simpa using hb
    exact sb.extBut b o hb'.1 (k1 b o hb'.1 hb'.2 q)) hf (zK _) (by show 2<=sizeLine;decide) (.cons ⟨t,rfl⟩ (.cons ru .nil)) (sb.extBut _ _ hpe t1)
  have hfr:H s.heap.objs.size=vS:=I.hok.fresh (zK _);refine⟨.ref s.heap.objs.size,_,I2,rfl,⟨_,x,rfl,hfr,rfl,λys hy=>by rw[Src.sq.inj I hy hq];exact hx⟩,⟨.none,u,?_,.inl rfl,i1.at λo q=>sb.extBut _ _ (Ne.symm hne) q⟩,λb hb=>?_⟩
  ·have ee:n+(i:Int)+1=n+((i+1:Nat):Int):=by lia
   rw[<-ee];exact e2
  ·have hb':b=e∨b=it:=by simpa using hb
   rw[Aq (λz=>?_)]
   ·exact(hf b hb).1
   ·rcases hb' with rfl|rfl
    ·exact hpe z.symm
    ·have hlt:=Src.it.lt hi;rw[z]at hlt;exact zT _ hlt
 done:=by
  intro X hP hw hK hc i pins s σ H E I hf st hg;subst hP hw hK;obtain⟨xs,hq,hx⟩:=hg;obtain⟨its,rv,hv,hz⟩:=Src.sq.val I hq;obtain⟨g,old,he,hgv,hi⟩:=st;have hl:=rv.length;refine ZHe (I.ok.hd hc) he hi hv (by simp;lia) λh1 xb=>⟨rfl,?_⟩
  exact Yn (t':=s.toks) (fp:=[e,it]) I (λb o hb q=>xb b o (λz=>hb (by simp[z])) q) hf
 self:=λ_ _ _ _ _ st h=>by obtain⟨g,old,he,_⟩:=st;exact ZBp he h
section
variable{X:Cx}{E:XK}
theorem ZJ6{prog:xj}{A:xK}{E:xB->xy->Prop}{xs:Array xB}{Q:xB->xy->Prop}(hv:sr.val s.heap xs)
  (h:∀h',En h' (s.heap.objs.size+1) s.heap.objs.size .none 0 .none .none->sr.it h' s.heap.objs.size 0->(∀b o,s.heap.get? b=vR o->h'.get? b=vR o)->Q (.ref (s.heap.objs.size+1)) {s with heap:=h'}):
  vk (vK prog w) A (call (.type "enumerate") [.ref sr.adr]) Q E s:=by
 have g:Meets (Builtin.«enumerate.__new__» ⟨[.type "enumerate",.ref sr.adr],[]⟩) (λ_ R s=>sr.val s.heap xs/\
   R (.ok (.ret (.ref (s.heap.push {cls:=.type sr.itn,data:=.fields #[.ref sr.adr,.int 0 0]}).objs.size)))
    {s with heap:=(s.heap.push {cls:=.type sr.itn,data:=.fields #[.ref sr.adr,.int 0 0]}).push {cls:=.type "enumerate",data:=.fields #[.none,.bool vU,.ref s.heap.objs.size,vY 0,.none,.none]}}):=
  .of_wp λprog w A R s h=>by
   obtain⟨hp,g,d,tk,os⟩:=s;obtain⟨hl,h⟩:=h;have hsub:=sub_enumerate;have hL:sr.val (Shared.heap ⟨hp,g,d,tk,os⟩) xs:=hl
   wp_walk
   refine wpAny_stack_any λst=>vL ?_
   split
   ·rename_i c _ _ _ _ _
    cases(c==Value.type "enumerate")<;>(wp_walk using Src.iter hL;exact⟨_,rfl,h⟩)
   ·wp_walk using Src.iter hL
    exact⟨_,rfl,h⟩
 refine callType_new PySem.F.called_enumerate (by decide) (PySem.F.typeCall_enumerate_1 _) (PySem.F.newCall_enumerate_1 _) (λobj=>PySem.F.args_object_init_2 obj _) PySem.F.entry_enumerate_new g ⟨hv,?_⟩;have hz:(s.heap.push {cls:=.type sr.itn,data:=.fields #[.ref sr.adr,.int 0 0]}).objs.size=s.heap.objs.size+1:=qj ..;show _/\_;rw[hz];have he:En ((s.heap.push {cls:=.type sr.itn,data:=.fields #[.ref sr.adr,.int 0 0]}).push {cls:=.type "enumerate",data:=.fields #[.none,.bool vU,.ref s.heap.objs.size,vY 0,.none,.none]}) (s.heap.objs.size+1) s.heap.objs.size .none 0 .none .none:=by
  have:=zj (s.heap.push {cls:=.type sr.itn,data:=.fields #[.ref sr.adr,.int 0 0]}) (o:={cls:=.type "enumerate",data:=.fields #[.none,.bool vU,.ref s.heap.objs.size,vY 0,.none,.none]}) rfl;rw[hz]at this;exact this
 exact⟨⟨_,he,rfl⟩,h _ he ⟨_,zQ _ (zj _ rfl),rfl,rfl⟩ λb o x=>zQ _ (zQ _ x)⟩
def ZFS(K:PySem.W.Frag)(ta:TA):TI:=λσ H R=>ta σ H λvs H1=>∃sr xs,vs=[.ref (Src.adr sr)]/\sr.sq K H1 xs/\R (Ite K sr 0) H1
theorem ZFh{elts:List xY}{x1}{tp:Pos}{a:xY}{ta:TA}{p pos:Pos}(hg:Gl X "enumerate")(hm:X.mg "enumerate"=vS)(ha:PA X [a] ta)(hs:vj [a] X.env=[(vU,eval a X.env)]:=by rfl):PI X (.Tuple elts x1 tp) (.Call (.Name "enumerate" p) [a] [] pos) (ZFS X.K ta):=by
 intro pins s σ H R I h;refine Call_ (Il I hg hm PyProof.Rows.boot_enumerate (PyProof.Rows.callWith_type1 (thn (ha pos pins s σ H _ I h) λus s1 ⟨vs,H1,I1,r1,q1⟩=>?_) hs rfl));obtain⟨sr,xs,e,hq,q⟩:=q1;subst e;cases r1 with
 |cons r rr=>
  cases rr;cases r;obtain⟨its,rv,hv,hz⟩:=Src.sq.val I1 hq;refine ZJ6 hv λh' he hi kp=>?_
  refine ZBp he ?_;have I2:Inv X pins σ H1 {s1 with heap:=h'}:=I1.kept (t':=s1.toks) kp;refine⟨s1.heap.objs.size+1,[s1.heap.objs.size+1,s1.heap.objs.size],_,_,H1,rfl,I2,ZFR sr 0 _ _ (Nat.succ_ne_self _),⟨.none,.none,by simpa using he,.inl rfl,hi⟩,λb hb=>?_,q⟩;have hb':b=s1.heap.objs.size+1∨b=s1.heap.objs.size:=by simpa using hb
  have hle:s1.heap.objs.size<=b:=by rcases hb' with rfl|rfl<;>lia
  exact I1.I8 hle (I1.hok.fresh hle)
end
inductive DrV (K:PySem.W.Frag) (H:Hp) (i:Nat):List Src->List V->Prop where
 |nil:DrV K H i [] []
 |cons {sr r v us xs} (hq:Src.sq K H xs sr) (hx:xs[i]?=vR v) (t:DrV K H i r us):DrV K H i (sr::r) (v::us)
inductive StV (K:PySem.W.Frag) (H:Hp) (i:Nat):List Src->Prop where
 |here {sr r xs} (hq:Src.sq K H xs sr) (hx:xs.length<=i):StV K H i (sr::r)
 |there {sr r v xs} (hq:Src.sq K H xs sr) (hx:xs[i]?=vR v) (t:StV K H i r):StV K H i (sr::r)
def Itz(K:PySem.W.Frag)(ls:List Src):It:=
 ⟨λi H=>∃us,DrV K H i ls us,λi H v H'=>∃p us,v=.ref p/\H p=vS/\H'=upd H p (.tup us)/\∀us',DrV K H i ls us'->us'=us,λi H=>StV K H i ls⟩
theorem DrV.length{us:List V}(d:DrV K H i ls us):us.length=ls.length:=by
 induction d with
 |nil=>rfl
 |cons _ _ _ ih=>simp[ih]
section
variable{X:Cx}{pins:List (xW×Obj)}{σ:St}{H:Hp}{s:xy}
theorem DrV.inj(I:Inv X pins σ H s):∀{ls:List Src}{us us':List V},DrV X.K H i ls us->DrV X.K H i ls us'->us=us'
 |[],_,_,d,d'=>by cases d;cases d';rfl
 | sr::ls,_,_,d,d'=>by
  cases d with
  | cons hq hx t=>
   cases d' with
   |cons hq' hx' t'=>
    have e:=Src.sq.inj I hq hq';subst e;rw[hx]at hx';cases hx';rw[DrV.inj I t t']
theorem DrV.drw(I:Inv X pins σ H s):∀{l:List (Src×xW)}{us:List V},DrV X.K H i (l.map (·.1)) us->(∀q∈l,q.1.it s.heap q.2 i)->∃ws,Drw s.heap i l ws/\Vals us ws
 |[],us,d,h=>by cases d;exact⟨[],.nil,.nil⟩
 | (sr,p)::l,us,d,h=>by
  cases d with
  |cons hq hx t=>
   obtain⟨its,rv,hv,hz⟩:=Src.sq.val I hq;obtain⟨u,hu,ru⟩:=rv.get hx;obtain⟨ws,d',r'⟩:=DrV.drw I t λq hq=>h q (zZ _ hq)
   exact⟨u::ws,.cons (h (sr,p) zV) hv (by simpa using hu) d',.cons ru r'⟩
theorem StV.drw(I:Inv X pins σ H s):∀{l:List (Src×xW)},StV X.K H i (l.map (·.1))->(∀q∈l,q.1.it s.heap q.2 i)->DrwE s.heap i l
 |[],d,h=>by cases d
 | (sr,p)::l,d,h=>by
  cases d with
  |here hq hx=>
   obtain⟨its,rv,hv,hz⟩:=Src.sq.val I hq;have hl:=rv.length;exact .here (h (sr,p) zV) hv (by simp;lia)
  |there hq hx t=>
   obtain⟨its,rv,hv,hz⟩:=Src.sq.val I hq;obtain⟨u,hu,ru⟩:=rv.get hx;exact .there (h (sr,p) zV) hv (by simpa using hu) (StV.drw I t λq hq=>h q (zZ _ hq))
end
theorem ZGd{P:xj}{x1}{pos:Pos}(l:List (Src×xW))(z TI TO:xW)(a:ApZ TO l)(zz:z≠TO/\(∀q∈l,q.2≠z/\q.1.adr≠z))(tt:TI≠z/\TI≠TO/\∀q∈l,q.2≠TI)(hsz:l.length<=1000000)(hne:l≠[]):
  Turn P w K (.Tuple elts x1 pos) (Itz K (l.map (·.1))) (z::TI::TO::l.map (·.2)) z
   (λi h=>IsZip h z TI TO .none/\Tp h TI (l.map λq=>Value.ref q.2)/\(∃os,Tp h TO os/\os.length=l.length)/\∀q∈l,q.1.it h q.2 i) where
 mem:=by simp
 obj:=λi h st b hb=>by
  obtain⟨hz,hTI,⟨os,hTO,_⟩,hi⟩:=st;rcases zq.mp hb with rfl|hb
  ·exact⟨_,hz,λv z=>by cases z⟩
  ·rcases zq.mp hb with rfl|hb
   ·exact⟨_,hTI,λv z=>by cases z⟩
   ·rcases zq.mp hb with rfl|hb
    ·exact⟨_,hTO,λv z=>by cases z⟩
    ·obtain⟨q,hq,rfl⟩:=zS.mp hb;obtain⟨o,ho,_,hd⟩:=hi q hq;exact⟨o,ho,λv z=>by rw[hd]at z;cases z⟩
 keep:=λi h h' st k=>by obtain⟨hz,hTI,⟨os,hTO,ho⟩,hi⟩:=st;exact⟨k z (by simp) _ hz,k TI (by simp) _ hTI,⟨os,k TO (by simp) _ hTO,ho⟩,λq hq=>(hi q hq).at λo e=>k q.2 (by simp only[zq];exact .inr (.inr (.inr (zS.mpr ⟨q,hq,rfl⟩)))) o e⟩
 item:=by
  intro X hP hw hK hc i pins s σ H E I hf st hg;subst hP hw hK;obtain⟨us,dv⟩:=hg;obtain⟨hz,hTI,⟨os,hTO,ho⟩,hi⟩:=st;obtain⟨ws,dw,rv⟩:=DrV.drw I dv hi;refine ZMX hz hTI hTO ho hsz hne a zz dw λh1 z1 t1 i1 p1 s1 k1=>⟨_,rfl,?_⟩
  refine wpAny_letOwnedTupleGo_zip (s:={s with heap:=h1}) z1 λh2 z2 sb=>?_
  have hpz:s.heap.objs.size≠z:=qy (zW hz);have hul:us.length<=sizeLine:=by rw[dv.length,zO];exact z0 hsz size6
  have I2:Inv X pins σ (upd H s.heap.objs.size (.tup us)) {s with heap:=h2}:=
   ZEZ (t':=s.toks) (fp:=z::TI::TO::l.map (·.2)) (its:=ws) I (λb o hb q=>by simp only[zq,not_or]at hb;exact sb.extBut b o hb.1 (k1 b o hb.1 hb.2.2.1 hb.2.2.2 q)) hf (zK _) hul rv (sb.extBut _ _ hpz p1)
  have hfr:H s.heap.objs.size=vS:=I.hok.fresh (zK _)
  have up:∀b o,b≠z->b≠TO->b∉l.map (·.2)->s.heap.get? b=vR o->h2.get? b=vR o:=λb o b1 b2 b3 q=>sb.extBut b o b1 (k1 b o b1 b2 b3 q)
  refine⟨.ref s.heap.objs.size,_,I2,rfl,⟨_,us,rfl,hfr,rfl,λus' d'=>DrV.inj I d' dv⟩,⟨z2,up TI _ tt.1 tt.2.1 (λhm=>?_) hTI,⟨ws,sb.extBut _ _ (Ne.symm zz.1) t1,dw.length⟩,λq hq=>(i1 q hq).at λo e=>sb.extBut _ _ (zz.2 q hq).1 e⟩,λb hb=>?_⟩
  ·obtain⟨q,hq,e⟩:=zS.mp hm;exact tt.2.2 q hq e
  ·rw [Aq (λe=>?_)]
   ·exact(hf b hb).1
   ·have lt:b<s.heap.objs.size:=by
     rcases zq.mp hb with rfl|hb
     ·exact zW hz
     ·rcases zq.mp hb with rfl|hb
      ·exact zW hTI
      ·rcases zq.mp hb with rfl|hb
       ·exact zW hTO
       ·obtain⟨q,hq,rfl⟩:=zS.mp hb;exact(hi q hq).lt
    rw[e]at lt;exact zT _ lt
 done:=by
  intro X hP hw hK hc i pins s σ H E I hf st hg;subst hP hw hK;obtain⟨hz,hTI,⟨os,hTO,ho⟩,hi⟩:=st;have dw:=StV.drw I hg hi;refine ZGJ (I.ok.hd hc) hz hTI hTO ho hsz hne a zz dw λh1 k1=>⟨rfl,?_⟩
  exact Yn (t':=s.toks) (fp:=z::TI::TO::l.map (·.2)) I (λb o hb q=>by simp only[zq,not_or]at hb;exact k1 b o hb.1 hb.2.2.1 hb.2.2.2 q) hf
 self:=λ_ _ _ _ _ st h=>wpAny_pyIter_zip st.1 h
def Hj (G:DH) (j:Nat):List D->Option (Option (List D))
 |[]=>vR (vR [])
 | d::r=>match Bp d G with
  |none=>vS
  | some xs=>match xs[j]? with
   |none=>vR vS
   |some x=>match Hj G j r with
    |some (vR ys)=>vR (vR (x::ys))
    |o=>o
def Jb(ds:List D)(j:Nat)(G:DH):Option (Option D):=(Hj G j ds).map λo=>o.map D.tup
def lenOf(G:DH)(d:D):Nat:=match Bp d G with
 |some xs=>xs.length
 |none=>0
def Ob(G:DH)(d:D):Bool:=(Bp d G).isSome
def Hw(n:Int)(d:D)(j:Nat)(G:DH):Option (Option D):=match Bp d G with
 |none=>vS
 |some xs=>vR (xs[j]?.map λx=>.tup [.int (n+j),x])
def Q3(ds:List D)(G:DH):R ItD:=match ds with
 |[d]=>if Ob G d=vT then .ok (.fn (lenOf G d) (Hw 0 d)) G else .bad
 |_=>.bad
def Ln(n:Nat)(ds:List D)(G:DH):R ItD:=if ds.all (Ob G)=vT/\ds.length=n then .ok (.fn (lenOf G (ds.headD .non)) (Jb ds)) G else .bad
section
variable{X:Cx}{E:XK}
theorem ZDB{G:DH}{d:D}{v:V}{xs:List D}(s:Sim a G)(r:Rep a d v)(h:Bp d G=vR xs):
  ∃sr:Src,v=.ref sr.adr/\(∃vs,sr.sq a.K a.H vs)/\∀b:Wd,Ext a b->∀G',Sim b G'->∀ys,Bp d G'=vR ys->∃us,sr.sq b.K b.H us/\Reps b ys us:=by
 cases d with
 |tup ds=>
  obtain⟨p,vs,rfl,hq,rv⟩:=r;refine⟨.t p,rfl,⟨vs,hq⟩,λb x G' s' ys hy=>?_⟩
  cases(show vR ds=vR ys from hy)
  exact⟨vs,x.sqT hq,rv.mono x⟩
 |fl ds=>
  obtain⟨p,vs,rfl,hq,rv⟩:=r;refine⟨.l p,rfl,⟨vs,hq.sq⟩,λb x G' s' ys hy=>?_⟩
  cases(show vR ds=vR ys from hy)
  exact⟨vs,(x.fzL hq).sq,rv.mono x⟩
 | ref i=>
  obtain⟨hi,rfl⟩:=r;have hx:∃zs,G[i]?=vR (.lst zs):=by
   unfold Bp at h;dsimp only at h;split at h
   ·rename_i zs hz;exact⟨zs,hz⟩
   ·cases h
  obtain⟨zs,hz⟩:=hx;obtain⟨vs,e1,_⟩:=s.lst hz;refine⟨.l (a.m i),rfl,⟨vs,.of e1⟩,λb x G' s' ys hy=>?_⟩;unfold Bp at hy;dsimp only at hy;split at hy
  ·rename_i zs' hz';cases hy;obtain⟨us,e2,r2⟩:=s'.lst hz';rw[x.m i hi]at e2;exact⟨us,.of e2,r2⟩
  ·cases hy
 |_=>cases h
theorem ZMT{G:DH}{d:D}{v:V}(hk:a.K=X.K)(rd:∀b:Wd,Ext a b->∀G',Sim b G'->∀ys,Bp d G'=vR ys->∃us,sr.sq b.K b.H us/\Reps b ys us)(n:Nat):RepI a (.fn n (Hw 0 d)) (Ite X.K sr 0):=by
 intro b x G' s' i;have kb:b.K=X.K:=x.k.trans hk;constructor
 ·intro e he;unfold Hw at he;split at he
  ·cases he
  ·rename_i ys hy;obtain⟨us,hq,ru⟩:=rd b x G' s' ys hy;rw[kb]at hq;cases hyi:ys[i]? with
   |none=>rw[hyi]at he;cases he
   |some y=>
    rw[hyi]at he;have he':D.tup [.int (0+i),y]=e:=by simpa using he
    subst he';obtain⟨u,hu,rx⟩:=ru.get hyi;refine⟨⟨us,u,hq,hu⟩,?_⟩;rintro w H' ⟨p,u',rfl,hp,rfl,hu'⟩;refine⟨b.put p (.tup [.int (0+i),u']),rfl,Ext.put hp,s'.put hp,p,_,rfl,.of Do,?_⟩;have e1:=hu' us hq;rw[hu]at e1;cases e1;exact⟨_,_,rfl,rfl,Reps.cons (rx.mono (Ext.put hp)) rfl⟩
 ·intro he;unfold Hw at he;split at he
  ·cases he
  ·rename_i ys hy;obtain⟨us,hq,ru⟩:=rd b x G' s' ys hy;rw[kb]at hq;cases hyi:ys[i]? with
   |none=>exact⟨us,hq,by rw[<-ru.length];exact jQ.mp hyi⟩
   |some y=>rw[hyi]at he;cases he
theorem ZGY{elts:List xY}{x1}{tp:Pos}{e:xY}{p pos:Pos}(hg:Gl X "enumerate")(hm:X.mg "enumerate"=vS)(ha:QA X E [e] ta)(hs:vj [e] X.env=[(vU,eval e X.env)]:=by rfl):
  QI X E (.Tuple elts x1 tp) (.Call (.Name "enumerate" p) [e] [] pos) (Dw Q3 ta):=(ZFh hg hm ha hs).mono λσ H Q h=>by
 obtain⟨a,S,G,hk,rfl,s,r,h⟩:=h;refine⟨a,S,G,hk,rfl,s,r,(U0 h).imp ?_⟩;rintro vs _ ⟨b,ds,G1,rfl,x,s1,q,-,h1⟩;unfold Q3 at h1;split at h1
 ·rename_i d;split at h1
  ·rename_i hok;obtain⟨v,r,e1,q1,q2⟩:=q
   cases(show r=[]from q2)
   subst e1
   obtain⟨xs,hx⟩:=jE.mp (show(Bp d G1).isSome=vT from hok)
   obtain⟨sr,rfl,⟨us,hq⟩,rd⟩:=ZDB s1 q1 hx;have kb:b.K=X.K:=x.k.trans hk;exact⟨sr,us,rfl,by rw[<-kb];exact hq,h1 b _ (Ext.refl b) s1 (ZMT (G:=G1) (v:=.non) kb rd _)⟩
  ·exact h1.elim
 ·exact h1.elim
theorem ZBY{G:DH}(s:Sim a G):∀{ds:List D}{vs:List V},Reps a ds vs->ds.all (Ob G)=vT->∃ls:List Src,vs=ls.map (λsr=>V.ref sr.adr)/\(∀sr∈ls,∃us,sr.sq a.K a.H us)/\
   ∀b:Wd,Ext a b->∀G',Sim b G'->∀i,(∀ys,Hj G' i ds=vR (vR ys)->∃us,DrV b.K b.H i ls us/\Reps b ys us)/\(Hj G' i ds=vR vS->StV b.K b.H i ls)
 |[],vs,r,_=>by
  cases(show vs=[]from r)
  refine⟨[],rfl,(λ_ h=>nomatch h),λb x G' s' i=>⟨λys h=>?_,λh=>?_⟩⟩
  ·cases h;exact⟨[],.nil,rfl⟩
  ·cases h
 | d::ds,vs,r,h=>by
  rw[qU,zB]at h;obtain⟨v,vr,rfl,q1,q2⟩:=r
  obtain⟨xs,hx⟩:=jE.mp (show(Bp d G).isSome=vT from h.1)
  obtain⟨sr,rfl,hq,rd⟩:=ZDB s q1 hx;obtain⟨ls,rfl,hqs,rds⟩:=ZBY s q2 h.2;refine⟨sr::ls,rfl,λsr' hm=>?_,λb x G' s' i=>⟨λys hy=>?_,λhy=>?_⟩⟩
  ·rcases zq.mp hm with rfl|hm
   ·exact hq
   ·exact hqs sr' hm
  ·unfold Hj at hy;split at hy
   ·cases hy
   ·rename_i zs hz;obtain⟨us,hu,ru⟩:=rd b x G' s' zs hz;split at hy
    ·cases hy
    ·rename_i y hyi;obtain⟨u,hui,rx⟩:=ru.get hyi;split at hy
     ·rename_i ys' hys;cases hy;obtain⟨us',d',r'⟩:=(rds b x G' s' i).1 ys' hys;exact⟨u::us',.cons hu hui d',Reps.cons rx r'⟩
     ·rename_i hno;exact absurd hy (hno _)
  ·unfold Hj at hy;split at hy
   ·cases hy
   ·rename_i zs hz;obtain⟨us,hu,ru⟩:=rd b x G' s' zs hz;split at hy
    ·rename_i hyi;exact .here hu (by rw[<-ru.length];exact jQ.mp hyi)
    ·rename_i y hyi;obtain⟨u,hui,rx⟩:=ru.get hyi;split at hy
     ·cases hy
     ·exact .there hu hui ((rds b x G' s' i).2 hy)
theorem ZG2{ds:List D}(hk:a.K=X.K)(rd:∀b:Wd,Ext a b->∀G',Sim b G'->∀i,(∀ys,Hj G' i ds=vR (vR ys)->∃us,DrV b.K b.H i ls us/\Reps b ys us)/\(Hj G' i ds=vR vS->StV b.K b.H i ls))(n:Nat):
  RepI a (.fn n (Jb ds)) (Itz X.K ls):=by
 intro b x G' s' i;have kb:b.K=X.K:=x.k.trans hk;constructor
 ·intro e he;unfold Jb at he;cases hz:Hj G' i ds with
  |none=>rw[hz]at he;cases he
  | some o=>
   cases o with
   |none=>rw[hz]at he;cases he
   |some ys=>
    rw[hz]at he;have he':D.tup ys=e:=by simpa using he
    subst he';obtain⟨us,d,ru⟩:=(rd b x G' s' i).1 ys hz;rw[kb]at d;refine⟨⟨us,d⟩,?_⟩;rintro w H' ⟨p,us',rfl,hp,rfl,hu'⟩;cases hu' us d;exact⟨b.put p (.tup us),rfl,Ext.put hp,s'.put hp,p,us,rfl,.of Do,ru.mono (Ext.put hp)⟩
 ·intro he;unfold Jb at he;cases hz:Hj G' i ds with
  |none=>rw[hz]at he;cases he
  | some o=>
   cases o with
   |none=>
    have:=(rd b x G' s' i).2 hz;rw[kb]at this;exact this
   |some ys=>rw[hz]at he;cases he
def iZip(n:Nat)(K:PySem.W.Frag)(ta:TA):TI:=λσ H R=>ta σ H λvs H1=>∃ls:List Src,vs=ls.map (λsr=>V.ref sr.adr)/\(∀sr∈ls,∃us,sr.sq K H1 us)/\ls.length=n/\R (Itz K ls) H1
theorem ZEh:∀{ls:List Src}{us:List xB},Vals (ls.map λsr=>V.ref sr.adr) us->us=ls.map λsr=>Value.ref sr.adr
 |[],us,h=>by cases h;rfl
 | sr::ls,us,h=>by
  rw[zA]at h;cases h with
  |cons r rr=>
   cases r;rw[ZEh rr]
   rfl
theorem T7{n:Nat}{q:Src×Nat}(h:q∈ls.zipIdx n):q.1∈ls/\n<=q.2/\q.2<n+ls.length:=by obtain⟨i,hi,rfl⟩:=List.getElem_of_mem h;simp only[List.length_zipIdx]at hi;simp only[List.getElem_zipIdx];exact⟨qN hi,by lia,by lia⟩
theorem ZLP{x1}{tp:Pos}{R:It->Hp->Prop}(I:Inv X pins σ H s)(hq:∀sr∈ls,∃us,sr.sq X.K H us)(hne:ls≠[])(hl:ls.length<=1000000)
  (hct:checkTypeCall "zip" ⟨ls.map λsr=>Value.ref sr.adr,[]⟩=pure ()) (hcn:xN "zip.__new__" ⟨.type "zip"::ls.map λsr=>Value.ref sr.adr,[]⟩=pure ()) (hok:∀obj,argsOk "object.__init__" ⟨obj::ls.map λsr=>Value.ref sr.adr,[]⟩)
  (q:R (Itz X.K ls) H):vk (vK X.prog X.w) X.A (call (.type "zip") (ls.map λsr=>Value.ref sr.adr)) (λv s1=>vk (vK X.prog X.w) X.A (pyIter v) (PIE X pins σ (.Tuple elts x1 tp) R) X.xe s1) X.xe s:=by
 have hv:∀sr∈ls,∃xs,sr.val s.heap xs:=λsr hm=>by obtain⟨us,h⟩:=hq sr hm;obtain⟨its,_,h',_⟩:=Src.sq.val I h;exact⟨_,h'⟩
 have hlt:∀sr∈ls,sr.adr<s.heap.objs.size:=λsr hm=>by obtain⟨xs,h⟩:=hv sr hm;obtain⟨o,n,ho,_⟩:=h.obj;exact zW ho
 refine ZLL hv hl hct hcn hok λh' n hn hz hTI hTO hi kp=>?_
 refine wpAny_pyIter_zip hz ?_;have I2:Inv X pins σ H {s with heap:=h'}:=I.kept (t':=s.toks) kp
 have em:(ls.zipIdx s.heap.objs.size).map (·.1)=ls:=by refine qO (by simp) λi h1 h2=>by simp
 have e2:(ls.zipIdx s.heap.objs.size).map (·.2)=List.range' s.heap.objs.size ls.length:=by refine qO (by simp) λi h1 h2=>by simp[Nat.add_comm]
 have qb:∀q∈ls.zipIdx s.heap.objs.size,q.1.adr<s.heap.objs.size/\s.heap.objs.size<=q.2/\q.2<n:=λq hm=>⟨hlt _ (T7 hm).1,(T7 hm).2.1,by rw[hn];exact(T7 hm).2.2⟩
 have hsn:s.heap.objs.size<=n:=by rw[hn];exact jP _ _
 have ap:ApZ (n+1) (ls.zipIdx s.heap.objs.size):=⟨by rw[e2];exact List.nodup_range',λq hm=>zF (zX (qb q hm).1 (Nat.le_succ_of_le hsn)),λq hm r hr=>zF (zX (qb q hm).1 (qb r hr).2.1),λq hm=>zF (jy (qb q hm).2.2)⟩;have T:=ZGd (P:=X.prog) (w:=X.w) (K:=X.K) (elts:=elts) (x1:=x1) (pos:=tp) (ls.zipIdx s.heap.objs.size) (n+2) n (n+1) ap ⟨Nat.succ_ne_self (n+1),λq hm=>⟨zF (zX (qb q hm).2.2 (jP n 2)),zF (zX (qb q hm).1 (z0 hsn (jP n 2)))⟩⟩
  ⟨zF (Nat.lt_add_of_pos_right (by decide)),zF (zU n),λq hm=>zF (qb q hm).2.2⟩ (by simpa using hl) (by intro e;apply hne;rw[<-em,e];rfl)
 rw [em]at T;refine⟨n+2,_,_,_,H,rfl,I2,T,⟨hz,hTI,⟨_,hTO,by simp⟩,hi⟩,λb hb=>?_,q⟩;have hle:s.heap.objs.size<=b:=by
  rcases zq.mp hb with rfl|hb
  ·exact z0 hsn (jP n 2)
  ·rcases zq.mp hb with rfl|hb
   ·exact hsn
   ·rcases zq.mp hb with rfl|hb
    ·exact Nat.le_succ_of_le hsn
    ·obtain⟨q,hq,rfl⟩:=zS.mp hb;exact(T7 hq).2.1
 exact I.I8 hle (I.hok.fresh hle)
theorem ZHT{elts:List xY}{x1}{tp:Pos}{a b:xY}{ta:TA}{p pos:Pos}(hg:Gl X "zip")(hm:X.mg "zip"=vS)(ha:PA X [a,b] ta)(hs:vj [a,b] X.env=[(vU,eval a X.env),(vU,eval b X.env)]:=by rfl)(hs2:vj [b] X.env=[(vU,eval b X.env)]:=by rfl):
  PI X (.Tuple elts x1 tp) (.Call (.Name "zip" p) [a,b] [] pos) (iZip 2 X.K ta):=by
 intro pins s σ H R I h;refine Call_ (Il I hg hm PyProof.Rows.boot_zip (PyProof.Rows.callWith_type1 (thn (ha pos pins s σ H _ I h) λus s1 ⟨vs,H1,I1,r1,q1⟩=>?_) (by rw[hs,hs2]) (by rw[hs2];rfl)));obtain⟨ls,rfl,hq,hl,q⟩:=q1;cases ZEh r1
 match ls,hl with
 |[x,y],_=>exact ZLP I1 hq (by simp) (by simp) (PySem.F.typeCall_zip_2 _ _) (PySem.F.newCall_zip_2 _ _) (λobj=>PySem.F.args_object_init_3 obj _ _) q
theorem ZJf{n:Nat}{Q:It->Hp->Prop}(hK:K=X.K)(h:lI K E (Dw (Ln n) ta) σ H Q):iZip n K (lA K E ta) σ H Q:=by
 subst hK;obtain⟨a,S,G,hk,rfl,s,r,h⟩:=h;refine⟨a,S,G,hk,rfl,s,r,(U0 h).imp ?_⟩;rintro vs _ ⟨b,ds,G1,rfl,x,s1,q,-,h1⟩;unfold Ln at h1;split at h1
 ·rename_i hok;obtain⟨ls,e,hq,rd⟩:=ZBY s1 q hok.1;have kb:b.K=X.K:=x.k.trans hk;have hl:ls.length=n:=by have:=q.length;rw[e,zO]at this;lia
  exact⟨ls,e,λsr hm=>by rw[<-kb];exact hq sr hm,hl,h1 b _ (Ext.refl b) s1 (ZG2 kb rd _)⟩
 ·exact h1.elim
theorem ZGS{elts:List xY}{x1}{tp:Pos}{a b:xY}{p pos:Pos}(hg:Gl X "zip")(hm:X.mg "zip"=vS)(ha:QA X E [a,b] ta)(hs:vj [a,b] X.env=[(vU,eval a X.env),(vU,eval b X.env)]:=by rfl)(hs2:vj [b] X.env=[(vU,eval b X.env)]:=by rfl):
  QI X E (.Tuple elts x1 tp) (.Call (.Name "zip" p) [a,b] [] pos) (Dw (Ln 2) ta):=(ZHT hg hm ha hs hs2).mono λσ H Q h=>ZJf rfl h
end
def ixL:D->D->DH->R D
 | .ref p,.int k,G=>match G[p]? with
  |some (.lst xs)=>match atI xs k with
   |some v=>.ok v G
   |none=>.bad
  |_=>.bad
 |_,_,_=>.bad
def Mg(to ti te:DE)(f:D->D->DH->R D):DS:=λS G=>(to S G).toS λo G1=>(ti S G1).toS λi G2=>(ixL o i G2).toS λx G3=>(te S G3).toS λy G4=>(f x y G4).toS λz G5=>(G9 o i z G5).toS λ_ G6=>.nx S G6
section
variable{X:Cx}{E:XK}
theorem Ul{o i e:xY}{op:Operator}{to ti te:DE}{f:D->D->DH->R D}{tpos pos:Pos}(ho:QE X E o to)(hi:QE X E i ti)(he:QE X E e te)(hop:OpR X (inplaceOp op) (lR2 X.K E f))
  (ha:∀ov iv new,augStore i ov iv new=(do holding [new,ov,iv] (setItem ov iv new);release [new,ov,iv] [];pure .next):=by intros;rfl):QS X E (.AugAssign (.Subscript o i tpos) op e pos) (Mg to ti te f):=by
 intro pins s σ H W I h;obtain⟨a,S,G,hk,rfl,sm,r,h⟩:=h;refine wpAny_AugAssign_SubscriptAny (thn (ho pins s σ a.H _ I ⟨a,S,G,hk,rfl,sm,r,Gz h⟩) ?_) ha;rintro ov s1 ⟨vo,H1,I1,ro,b1,o,G1,rfl,x1,m1,q1,_,h1⟩;have k1:=x1.k.trans hk;refine thn (hi pins s1 σ b1.H _ I1 ⟨b1,S,G1,k1,rfl,m1,r.mono x1,Gz h1⟩) ?_;rintro iv s2 ⟨vi,H2,I2,ri,b2,i,G2,rfl,x2,m2,q2,_,h2⟩;have k2:=x2.k.trans k1;have q1':=q1.mono x2;cases i with
 | int k=>
  cases o with
  | ref p=>
   obtain⟨hp,rfl⟩:=q1'
   cases(show vi=V.int k from q2)
   cases ro;obtain⟨t,rfl⟩:=ri;unfold ixL at h2;dsimp only at h2;split at h2
   ·rename_i xs hx';obtain⟨vs,e1,r1⟩:=m2.lst hx';split at h2
    ·rename_i d hd;obtain⟨v,ev,rd⟩:=ZD5 r1 hd;have h2':Bm E b2 ((te S G2).toS λy G4=>(f d y G4).toS λz G5=>(G9 (.ref p) (.int k) z G5).toS λ_ G6=>.nx S G6) W:=h2;obtain⟨its,rv,pl,hz⟩:=I2.list (.of e1);obtain⟨j,g1,g2,g3,g4,g5⟩:=Rj ev;obtain⟨w,ew,rw'⟩:=rv.get g2;have hl:=rv.length;have hn:=line63;have fin:vk (vK X.prog X.w) X.A (getItem (.ref (b2.m p)) (.int k t)) (λold s3=>old=w/\s3=s2) X.xe s2:=by
      by_cases h0:0<=k
      ·have hj:k.toNat=j:=by rw[seqIndex_of h0 g5]at g1;exact Option.some.inj g1
       exact wpAny_getItem_list pl.isList h0 (by lia) (by rw[hj];simpa using ew) ⟨rfl,rfl⟩
      ·have hj:(k+(its.toArray.size:Int)).toNat=j:=by rw[seqIndex_neg (by lia) g4]at g1;rw[zx,<-hl];exact Option.some.inj g1
       exact wpAny_getItem_list_neg pl.isList (by lia) (by rw[zx]<;>lia) (by lia) (by rw[hj];simpa using ew) ⟨rfl,rfl⟩
     refine thn fin ?_;rintro old s3 ⟨rfl,rfl⟩;refine thn (he pins s3 σ b2.H _ I2 ⟨b2,S,G2,k2,rfl,m2,(r.mono x1).mono x2,Gz h2'⟩) ?_;rintro yv s4 ⟨vy,H4,I4,ry,b4,y,G4,rfl,x4,m4,q4,_,h4⟩;have k4:=x4.k.trans k2;refine thn (hop pins s4 σ b4.H v vy old yv _ I4 rw' ry ⟨b4,G4,d,y,k4,rfl,m4,rd.mono x4,q4,Gz h4⟩) ?_;rintro new s5 ⟨vn,H5,I5,rn,b5,z,G5,rfl,x5,m5,q5,_,h5⟩;unfold G9 at h5;dsimp only at h5;split at h5
     ·rename_i ys hy;split at h5
      ·rename_i jj hjj;obtain⟨ws,e5,r5⟩:=m5.lst hy;have hp5:p<b5.n:=zX hp (z0 x4.n x5.n);have em:b5.m p=b2.m p:=(x5.m p (zX hp x4.n)).trans (x4.m p hp);obtain⟨x6,m6⟩:=Zj m5 hp5 e5 (r5.set q5 jj);refine thn (set_list pins s5 σ b5.H (.ref (b2.m p)) (.int k) vn (.ref (b2.m p)) (.int k t) new (λH'=>W.nx σ H') I5 rfl ⟨t,rfl⟩ rn ⟨b5.m p,ws,k,jj,by rw[em],rfl,e5,by rw[<-r5.length];exact hjj,?_⟩) ?_
       ·exact h5 _ σ x6 m6 (((((r.mono x1).mono x2).mono x4).mono x5).mono x6)
       ·rintro _ s6 ⟨H6,I6,q6⟩;exact⟨σ,H6,I6,q6⟩
      ·exact h5.elim
     ·exact h5.elim
    ·exact h2.elim
   ·exact h2.elim
  |_=>exact(show False from h2).elim
 |_=>cases o<;>exact(show False from h2).elim
end
section
variable{X:Cx}{E:XK}
end
end _D
namespace _D
open PySem PySem.W PyProof.Rows
variable{n:Nat}
def Safe(n:Nat){α:Type}(P:α->Prop):KasT α->Prop
 |.ret a=>P a
 |.ask i j k=>i<n/\j<n/\∀b,Safe n P (k b)
theorem Safe.bind{α β:Type}{f:α->KasT β}{P:α->Prop}{Q:β->Prop}(h2:∀a,P a->Safe n Q (f a)):∀{t:KasT α},Safe n P t->Safe n Q (t.bind f)
 |.ret a,h=>h2 a h
 |.ask _ _ _,h=>⟨h.1,h.2.1,λb=>Safe.bind h2 (h.2.2 b)⟩
def Ents(n:Nat)(p:Array Nat):Prop:=0<n/\p.Perm (zJ n).toArray
theorem Ents.lt{p:Array Nat}(h:Ents n p){x:Nat}(hx:x∈p):x<n:=by have:=h.2.mem_iff.mp hx;simpa using this
theorem Ents.pt{p:Array Nat}(h:Ents n p)(k:Nat):p.getD k 0<n:=by
 by_cases hk:k<p.size
 ·have:p.getD k 0=p[k]:=by simp[Array.getD,hk]
  rw[this];exact h.lt (Array.getElem_mem hk)
 ·have:p.getD k 0=0:=by simp[Array.getD,hk]
  rw[this];exact h.1
theorem Ents.perm{p q:Array Nat}(h:Ents n p)(e:q.Perm p):Ents n q:=⟨h.1,e.trans h.2⟩
theorem Vt{p:Array Nat}(h:Ents n p):∀f m,Safe n (λ_=>True) (kas_asc p f m)
 |0,m=>trivial
 | f+1,m=>⟨h.pt _,h.pt _,λb=>by
   cases b with
   |true=>exact trivial
   |false=>exact Vt h f (m+1)⟩
theorem Te:∀f{p:Array Nat}m q,Ents n p->Safe n (λr=>Ents n r.1) (kas_desc f p m q)
 |0,p,m,q,h=>h
 | f+1,p,m,q,h=>⟨h.pt _,h.pt _,λb=>by
   cases b with
   |true=>
    by_cases hq:q>0
    ·simp only[if_true,if_pos hq];exact Te f _ _ (h.perm (mirror_perm ..))
    ·simp only[if_true,if_neg hq];exact Te f _ _ h
   |false=>
    refine⟨h.pt _,h.pt _,λd=>?_⟩;cases d with
    |true=>exact h
    |false=>exact Te f _ _ h⟩
theorem ZD1{p:Array Nat}(h:Ents n p)(m k:Nat):Safe n (λr=>Ents n r.2) (kas_tail3 m k p):=by unfold kas_tail3;refine Safe.bind (P:=λ_=>True) (λa _=>?_) (Vt (h.perm (mirror_perm ..)) _ _);exact h.perm (mirror_perm ..)
theorem ZCb{p:Array Nat}(h:Ents n p)(m k:Nat):Safe n (λr=>Ents n r.2) (kas_descPart m k p):=
 Safe.bind (P:=λr=>Ents n r.1) (λa ha=>by
  split
  ·exact ZD1 (ha.perm (mirror_perm ..)) _ _
  ·exact ZD1 ha _ _) (Te _ _ _ h)
theorem ZMa{p:Array Nat}(h:Ents n p)(k:Nat):Safe n (λr=>Ents n r.2) (kas_count k p):=
 Safe.bind (P:=λ_=>True) (λa _=>by
  split
  ·exact h
  ·split
   ·refine⟨h.pt _,h.pt _,λc=>?_⟩;cases c with
    |true=>exact h
    |false=>exact ZCb (h.perm (mirror_perm ..)) _ _
   ·exact ZCb h _ _) (Vt h _ _)
theorem Xh{p:Array Nat}(h:Ents n p)(k:Nat):∀f l r,Safe n (λ_=>True) (kas_place p k f l r)
 |0,l,r=>trivial
 | f+1,l,r=>by
  unfold kas_place;split
  ·trivial
  ·refine⟨h.pt _,h.pt _,λc=>?_⟩;cases c with
   |true=>exact Xh h k f _ _
   |false=>exact Xh h k f _ _
end _D
namespace _D
open PySem PySem.Spec _L
open PyProof.Rows hiding St
variable{n k:Nat}{a:Wd}{xs:List D}{vs:List V}{te:DE}{d:D}{us:List (Str×V)}{G:DH}{F:List D->DH->R D}{CX:CXT}{fd:xq}{ps:List Str}
theorem ZAu{cmp:Nat->Nat->(Bool->xy->Prop)->xy->Prop}{lt:Nat->Nat->Bool}{s:xy}(h:∀i j,i<n->j<n->∀C:Bool->xy->Prop,C (lt i j) s->cmp i j C s){α:Type}{P:α->Prop}{Q:α->xy->Prop}:
  ∀{t:PySem.W.KasT α},Safe n P t->Q (Hl lt t) s->t.kasWp cmp Q s
 |.ret _,_,hq=>hq
 |.ask i j k,hs,hq=>h i j hs.1 hs.2.1 _ (ZAu h (hs.2.2 (lt i j)) hq)
section
variable{prog:xj}{w:xC}{A:xK}{s:xy}
end
section
variable{X:Cx}{E:XK}{pins:List (xW×Obj)}{σ:St}{s:xy}{H:Hp}{h':Heap}
theorem ZGj{t':Nat}(I:Inv X pins σ H s)(k:∀b o,b≠X.env.locals->s.heap.get? b=vR o->h'.get? b=vR o)(ns:∀m,s.heap.Ns X.env.locals m->h'.Ns X.env.locals m):Inv X pins σ H {s with heap:=h',toks:=t'}:=by
 refine I.step (g':=s.gens) (d':=s.drawn) (ch:=[]) (λ_ z=>nomatch z) (λb o hL _ _ e _=>k b o hL e) (λb o hL _ _ e _=>⟨o.slots,k b o hL e⟩) (λ_ _ _ _ n=>n) (λb o _ e=>?_) (λ_ _ e=>e) (λ_ _ _ e=>e)
  (λb ps e=>⟨#[],by rw[e];simp⟩) ns (λb u e=>?_) I.bare
 ·by_cases hb:b=X.env.locals
  ·obtain⟨m,hn,_⟩:=I.loc;obtain⟨o',_,_,ho',_⟩:=ns m hn;exact⟨o',by rw[hb];exact ho'⟩
  ·exact⟨o,k b o hb e⟩
 ·have nL:∀c w,H c=vR w->c≠X.env.locals:=λc w e z=>by rw[z,I.free]at e;cases e
  refine(I.hok b u e).stay (λc v hc q=>k c v ?_ q) (λ_ q=>q) λ_ _ q=>q
  rcases hc with z|z
  ·rw[z];exact nL b u e
  ·exact nL c _ z
end
section
variable{prog:xj}{w:xC}{A:xK}{E:xB->xy->Prop}{s:xy}
end
theorem ZFt:xL "sorted"=vR (.builtin "sorted"):=by decide +kernel
section
variable{X:Cx}{E:XK}{pins:List (xW×Obj)}{σ:St}{s:xy}{H:Hp}
end
section
variable{X:Cx}{E:XK}
theorem ZDW(r:Reps a xs vs):∀l:List Nat,(∀i∈l,i<xs.length)->Reps a (l.map λi=>xs.getD i .non) (l.map λi=>vs.getD i .non)
 |[],_=>rfl
 |i::l,h=>by
  have hi:i<xs.length:=h i zV;obtain⟨v,ev,rv⟩:=r.get (i:=i) (d:=xs[i]) (zY hi);refine⟨vs.getD i .non,_,rfl,?_,ZDW r l λj hj=>h j (zZ _ hj)⟩;have e1:xs.getD i .non=xs[i]:=by simp[hi]
  have e2:vs.getD i .non=v:=by rw[zD,ev];rfl
  show Rep a (xs.getD i .non) (vs.getD i .non);rw[e1,e2];exact rv
theorem ZA3{us:List xB}(r:Vals vs us):∀l:List Nat,(∀i∈l,i<vs.length)->Vals (l.map λi=>vs.getD i .non) (l.map λi=>us.getD i .none)
 |[],_=>.nil
 |i::l,h=>by
  have hi:i<vs.length:=h i zV;obtain⟨u,eu,ru⟩:=r.get (i:=i) (x:=vs[i]) (zY hi);rw[zA,zA];have e1:vs.getD i .non=vs[i]:=by simp[hi]
  have e2:us.getD i .none=u:=by rw[zD,eu];rfl
  rw[e1,e2];exact .cons ru (ZA3 r l λj hj=>h j (zZ _ hj))
theorem W9{lt:Nat->Nat->Bool}{P:Array Nat->Prop}:∀{t:PySem.W.KasT (Array Nat)},Safe n P t->P (Hl lt t)
 |.ret _,h=>h
 |.ask i j k,h=>W9 (t:=k (lt i j)) (h.2.2 (lt i j))
theorem ZEs:∀f{p:Array Nat}k,Ents n p->Safe n (Ents n) (PySem.W.kas_bin f p k)
 |0,p,k,h=>h
 |f+1,p,k,h=>Safe.bind (P:=λ_=>True) (λa _=>ZEs f _ (h.perm (bubble_perm ..))) (Xh h k _ _ _)
theorem Zv(hn:0<n):Safe n (Ents n) (PySem.W.kas_sort n):=
 Safe.bind (P:=λr=>Ents n r.2) (λa ha=>by
  split
  ·exact ZEs _ _ ha
  ·exact ha) (ZMa ⟨hn,Array.Perm.refl _⟩ _)
end
section
variable{S:DSt}{G:DH}
@[simp]theorem ZMv{to ti:DE}{f:D->D->DH->R D}:Mg to ti te f S G=(to S G).toS λo G1=>(ti S G1).toS λi G2=>(ixL o i G2).toS λx G3=>(te S G3).toS λy G4=>(f x y G4).toS λz G5=>(G9 o i z G5).toS λ_ G6=>.nx S G6:=id rfl
theorem ZHR{p:Nat}{k:Int}(h:G[p]?=vR (.lst xs))(e:atI xs k=vR d):ixL (.ref p) (.int k) G=.ok d G:=by unfold ixL;simp only;rw[h];simp only;rw[e]
noncomputable def Io(xs:List D):List D:=xs.zipIdx.map λq=>.tup [.int q.2,q.1]
noncomputable def Oj(xs ys:List D):List D:=(xs.zip ys).map λq=>.tup [q.1,q.2]
theorem ZLk(j:Nat)(G:DH):Hw 0 (.fl xs) j G=vR (Io xs)[j]? :=by
 unfold Hw Io;simp only[Bp,zC,List.getElem?_zipIdx]
 cases xs[j]?<;>simp
theorem ZJp:(Io xs).length=xs.length:=by simp[Io]
theorem ZDZ{f:Nat->DH->Option (Option D)}{g:DG}{c:DB}{F:D->Option D}(hf:∀j,f j G=vR xs[j]?)(h:∀x∈xs,CStep g c te S G x (F x)):
  ∀(n j:Nat),xs.length<=j+n->Cw f g c te S n j G=.ok ((xs.drop j).filterMap F) G
 |0,j,hj=>by
  unfold Cw;rw[hf,zH (by lia)];simp only;rw[qk (by lia)]
  rfl
 | n+1,j,hj=>by
  unfold Cw;rw[hf];by_cases hlt:j<xs.length
  ·have ih:=ZDZ hf h n (j+1) (by lia);obtain⟨S1,h1,h2⟩:=h xs[j] (qN hlt);rw[zY hlt];simp only[h1,R.Jf];rw[qG hlt,zN];rcases h2 with⟨h2,h3⟩|⟨h2,d,h3,h4⟩
   ·simp[h2,h3,ih]
   ·simp[h2,h3,h4,ih]
  ·rw[zH (by lia),qk (by lia)]
   rfl
theorem ZBx{f:Nat->DH->Option (Option D)}{g:DG}{c:DB}{F:D->Option D}(hf:∀j,f j G=vR xs[j]?)(h:∀x∈xs,CStep g c te S G x (F x))(hn:xs.length<=n):
  Cw f g c te S n 0 G=.ok (xs.filterMap F) G:=ZDZ hf h n 0 (by lia)
theorem ZF2{e:D}{ys:List D}(hd:Bp d G=vR xs)(he:Bp e G=vR ys)(j:Nat):Jb [d,e] j G=vR (Oj xs ys)[j]? :=by
 unfold Jb Oj;simp only[Hj,hd,he,zC,List.getElem?_zip_eq_some]
 have ez:(xs.zip ys)[j]?=match xs[j]?,ys[j]? with
  |some x,vR y=>vR (x,y)
  |_,_=>vS:=by
  rw[List.zip,List.getElem?_zipWith]
  cases xs[j]?<;>cases ys[j]?<;>rfl
 rw[ez];cases xs[j]? with
 |none=>rfl
 |some x=>
  cases ys[j]? with
  |none=>rfl
  |some y=>rfl
theorem ZGf{e:D}{ys:List D}(hd:Bp d G=vR xs)(he:Bp e G=vR ys):Ln 2 [d,e] G=.ok (.fn xs.length (Jb [d,e])) G:=by simp[Ln,Ob,hd,he,lenOf]
@[simp]theorem Tn:Bp (.fl xs) G=vR xs:=id rfl
theorem ZJw{i:Nat}(h:G[i]?=vR (.lst xs)):Bp (.ref i) G=vR xs:=by simp[Bp,h]
end
section
variable{X:Cx}{E:XK}
end
section
variable{i j:Int}{G:DH}
end
section
variable{X:Cx}{E:XK}
end
def Ib(f:Str)(v:D):List (Str×D)->List (Str×D)
 |[]=>[(f,v)]
 |(g,x)::r=>if g=f then(g,v)::r else(g,x)::Ib f v r
theorem RepF.mono{b:Wd}(x:Ext a b){fs:List (Str×D)}(h:RepF a fs us):RepF b fs us:=⟨h.1,h.2.mono x⟩
theorem RepF.cons{g:Str}{v:V}{fs:List (Str×D)}(h:Rep a d v)(r:RepF a fs us):RepF a ((g,d)::fs) ((g,v)::us):=
 ⟨by simp[r.1],v,us.map (·.2),rfl,h,r.2⟩
theorem RepF.uncons{g:Str}{fs:List (Str×D)}(h:RepF a ((g,d)::fs) us):∃v us',us=(g,v)::us'/\Rep a d v/\RepF a fs us':=by
 obtain⟨h1,h2⟩:=h;cases us with
 |nil=>simp at h1
 |cons q us=>
  obtain⟨g',y⟩:=q;simp only[zA,List.cons.injEq]at h1;obtain⟨rfl,h1⟩:=h1;obtain⟨v,r,e1,r1,r2⟩:=h2;simp only[zA,List.cons.injEq]at e1;obtain⟨rfl,rfl⟩:=e1;exact⟨y,us,rfl,r1,h1,r2⟩
theorem RepF.nil'(h:RepF a [] us):us=[]:=by
 obtain⟨h1,_⟩:=h;cases us with
 |nil=>rfl
 |cons q us=>simp at h1
theorem lkc{α:Type}{f g:Str}{x:α}{fs:List (Str×α)}:q0 f ((g,x)::fs)=if(f==g)=vT then vR x else fs.lookup f:=by
 show(match f==g with
  |true=>vR x
  |false=>q0 f fs)=_
 cases f==g<;>rfl
theorem RepF.look{f:Str}:∀{fs:List (Str×D)}{us:List (Str×V)},RepF a fs us->fs.lookup f=vR d->∃u,us.lookup f=vR u/\Rep a d u
 |[],us,h,e=>by simp at e
 |(g,x)::fs,us,h,e=>by
  obtain⟨v,us',rfl,hv,hr⟩:=h.uncons;rw[lkc]at e⊢;by_cases q:(f==g)=vT
  ·rw[if_pos q]at e⊢;cases e;exact⟨v,rfl,hv⟩
  ·rw[if_neg q]at e⊢;exact RepF.look hr e
theorem RepF.Zr{f:Str}:∀{fs:List (Str×D)}{us:List (Str×V)},RepF a fs us->fs.lookup f=vS->us.lookup f=vS
 |[],us,h,e=>by rw[h.nil'];rfl
 |(g,x)::fs,us,h,e=>by
  obtain⟨v,us',rfl,hv,hr⟩:=h.uncons;rw[lkc]at e⊢;by_cases q:(f==g)=vT
  ·rw[if_pos q]at e;cases e
  ·rw[if_neg q]at e⊢;exact RepF.Zr hr e
theorem RepF.put{f:Str}{v:V}(q:Rep a d v):∀{fs:List (Str×D)}{us:List (Str×V)},RepF a fs us->RepF a (Ib f d fs) (Dl f v us)
 |[],us,h=>by rw[h.nil'];exact RepF.cons (fs:=[]) (us:=[]) q ⟨rfl,rfl⟩
 |(g,x)::fs,us,h=>by
  obtain⟨w,us',rfl,hv,hr⟩:=h.uncons;unfold Ib Dl;by_cases e:g=f
  ·rw[if_pos e,if_pos e];exact .cons q hr
  ·rw[if_neg e,if_neg e];exact .cons hv (RepF.put q hr)
theorem RepF.len{fs:List (Str×D)}(h:RepF a fs us):us.length=fs.length:=by have:=congrArg xJ h.1;simpa using this.symm
theorem Ext.wrI{p C dx:xW}{ho:HO}(h:a.H p=vR (.ins C dx us)):Ext a (a.put p ho):=
 ⟨rfl,zK _,λ_ _=>rfl,λq xs e=>by
  show upd a.H p ho q=_;rw[Aq (λz=>by subst z;rw[h]at e;cases e)];exact e,λq o u e=>by
  show upd a.H p ho q=_;rw[Aq (λz=>by subst z;rw[h]at e;cases e)];exact e,λ_ t=>t.mono (λq ps e=>by show upd a.H p ho q=_;rw[Aq (λz=>by subst z;rw[h]at e;cases e)];exact e) (λq o u e=>by show upd a.H p ho q=_;rw[Aq (λz=>by subst z;rw[h]at e;cases e)];exact e)⟩
theorem Sim.wrI(s:Sim a G){i:Nat}(hi:i<a.n){c:Str}{C dx:xW}{us':List (Str×V)}{fs':List (Str×D)}(hn:PySem.W.nsIn a.K vW c=vR (vR (.ref C)))(h:a.H (a.m i)=vR (.ins C dx us))(r:RepF (a.put (a.m i) (.ins C dx us')) fs' us'):
  Sim (a.put (a.m i) (.ins C dx us')) (G.set i (.ins c fs')):=by
 refine⟨by rw[qD];exact s.len,s.inj,λj o e=>?_,λj hj=>?_⟩
 ·rw[qA]at e;show ORep _ o (upd a.H (a.m i) (.ins C dx us') (a.m j));by_cases hij:i=j
  ·subst hij;rw[if_pos rfl,if_pos (by rw[s.len];exact hi)]at e;cases e;rw[Do];exact⟨C,dx,us',hn,rfl,r⟩
  ·rw[if_neg hij]at e;rw[Aq λz=>hij (s.inj _ _ (s.lt e) hi z).symm];exact(s.obj j o e).mono (Ext.wrI h)
 ·show upd a.H (a.m i) (.ins C dx us') (a.m j)≠vS;by_cases hij:a.m j=a.m i
  ·rw[hij,Do];simp
  ·rw[Aq hij];exact s.tr j hj
def Hx(c:Str)(d:D)(G:DH):Option (List (Str×D)):=match d with
 |.ref i=>match G[i]? with
  |some (.ins c' fs)=>if c'=c then vR fs else vS
  |_=>vS
 |_=>vS
theorem Sim.ins{x:V}{c:Str}{fs:List (Str×D)}(s:Sim a G)(r:Rep a d x)(h:Hx c d G=vR fs):
  ∃i C dx us,d=.ref i/\i<a.n/\x=.ref (a.m i)/\G[i]?=vR (.ins c fs)/\PySem.W.nsIn a.K vW c=vR (vR (.ref C))/\a.H (a.m i)=vR (.ins C dx us)/\RepF a fs us:=by
 unfold Hx at h;split at h
 ·rename_i i;split at h
  ·rename_i c' fs' e;split at h
   ·rename_i hc;subst hc;cases h;obtain⟨l,ev⟩:=r;obtain⟨C,dx,us,n,e1,r1⟩:=s.obj i _ e;exact⟨i,C,dx,us,rfl,l,ev,e,n,e1,r1⟩
   ·cases h
  ·cases h
 ·cases h
def Bk(c:Str)(t:DE)(f:Str):DE:=λS G=>(t S G).bind λd G1=>match Hx c d G1 with
 |some fs=>match fs.lookup f with
  |some v=>.ok v G1
  |none=>.bad
 |none=>.bad
def Eh(c:Str)(to tv:DE)(f:Str):DS:=λS G=>(tv S G).toS λd G1=>(to S G1).toS λo G2=>match o with
 |.ref i=>match Hx c o G2 with
  |some fs=>if fs.length<1000 then .nx S (G2.set i (.ins c (Ib f d fs)))else .bad
  |none=>.bad
 |_=>.bad
def Fv(c:Str)(m:Str)(F:List D->DH->R D)(to:DE)(t:DA):DE:=λS G=>(to S G).bind λo G1=>match Hx c o G1 with
 |some fs=>match fs.lookup m with
  |none=>(t S G1).bind λds G2=>F (o::ds) G2
  |some _=>.bad
 |none=>.bad
def Yc(c:Str)(F:List D->DH->R D)(t:DA):DE:=λS G=>(t S G).bind λds G1=>(F (.ref G1.length::ds) (G1++[.ins c []])).bind λv G2=>match v with
 |.non=>.ok (.ref G1.length) G2
 |_=>.bad
section
variable{X:Cx}{E:XK}{c f m:Str}{C:xW}{e o:xY}{es:List xY}{t ta tv:DE}{tr:DA}{pos apos pos':Pos}
theorem Ce(hn:PySem.W.nsIn X.K vW c=vR (vR (.ref C)))(hc:Cls X.K C)(hf:NoAttr X.K C f)(ha:QE X E e t)(hb:xE e f X.env (eval e X.env)=eval e X.env:=by rfl):QE X E (.Attribute e f pos) (Bk c t f):=
 (ZIR ha hb).mono λσ H Q h=>by
  obtain⟨a,S,G,hk,rfl,s,r,h⟩:=h;refine⟨a,S,G,hk,rfl,s,r,(Dj h).imp ?_⟩;rintro v _ ⟨b,d,G1,rfl,x,s1,q,-,h1⟩;split at h1
  ·rename_i fs hi;obtain⟨i,C',dx,us,rfl,_,rfl,_,n',e1,r1⟩:=s1.ins q hi;have hCC:C'=C:=by
    rw[x.k,hk,hn]at n';cases n'
    rfl
   subst hCC;split at h1
   ·rename_i d' hd;obtain⟨u,eu,ru⟩:=r1.look hd;exact⟨b.m i,C',dx,us,u,rfl,e1,hc,hf,eu,h1 b u (Ext.refl b) s1 ru⟩
   ·exact h1.elim
  ·exact h1.elim
theorem My(hn:PySem.W.nsIn X.K vW c=vR (vR (.ref C)))(hc:Cls X.K C)(hf:NoAttr X.K C f)(ha:QE X E o ta)(hv:QE X E e tv)(hs:swapsWith e (vR (.Attribute o f pos')) pos.line X.env=pure vU:=by rfl):
  QS X E (.Assign [.Attribute o f pos'] e pos) (Eh c ta tv f):=
 (ZGX ha hv hs).mono λW σ H h=>by
  obtain⟨a,S,G,hk,rfl,s,r,h⟩:=h;refine⟨a,S,G,hk,rfl,s,r,(Gz h).imp ?_⟩;rintro v _ ⟨b,d,G1,rfl,x,s1,q,-,h1⟩;refine⟨b,S,G1,x.k.trans hk,rfl,s1,r.mono x,(Gz h1).imp ?_⟩;rintro v2 _ ⟨b2,d2,G2,rfl,x2,s2,q2,-,h2⟩;split at h2
  ·rename_i i;split at h2
   ·rename_i fs hi;split at h2
    ·rename_i hl;obtain⟨i',C',dx,us,ei,li,rfl,eg,n',e1,r1⟩:=s2.ins q2 hi;cases ei;have hCC:C'=C:=by
      rw[x2.k,x.k,hk,hn]at n';cases n'
      rfl
     subst hCC;have x3:Ext b2 (b2.put (b2.m i) (.ins C' dx (Dl f v us))):=Ext.wrI e1;have s3:=s2.wrI (fs':=Ib f d fs) li n' e1 (RepF.put ((q.mono x2).mono x3) (r1.mono x3));exact⟨b2.m i,C',dx,us,rfl,e1,hc,hf,by rw[r1.len];exact hl,h2 _ σ x3 s3 (((r.mono x).mono x2).mono x3)⟩
    ·exact h2.elim
   ·exact h2.elim
  ·exact h2.elim
theorem ZKF{sp:List D->DH->R D}{σ:St}{H:Hp}{Q:VK}(hn:PySem.W.nsIn X.K vW c=vR (vR (.ref C)))(h:lE X.K E0 (Fv c m F ta tr) σ H Q):Xp C m (lF X.K F) [] E0 (lE X.K E0 ta) (lA X.K E0 tr) σ H Q:=by
 obtain⟨a,S,G,hk,rfl,s,r,h⟩:=h;refine⟨a,S,G,hk,rfl,s,r,(Dj h).imp ?_⟩;rintro v _ ⟨b,d,G1,rfl,x,s1,q,-,h1⟩;split at h1
 ·rename_i fs hi;obtain⟨i,C',dx,us,rfl,_,rfl,_,n',e1,r1⟩:=s1.ins q hi;have hCC:C'=C:=by
   rw[x.k,hk,hn]at n';cases n'
   rfl
  subst hCC;split at h1
  ·rename_i hm;refine⟨b.m i,dx,us,rfl,e1,r1.Zr hm,b,S,G1,x.k.trans hk,rfl,s1,r.mono x,(Kh h1).imp ?_⟩;rintro vs _ ⟨b2,ds,G2,rfl,x2,s2,q2,-,h2⟩;exact⟨b2,G2,.ref i::ds,(x2.k.trans x.k).trans hk,rfl,s2,⟨.ref (b.m i),vs,by rw[zP],q.mono x2,q2⟩,h2⟩
  ·exact h1.elim
 ·exact h1.elim
theorem Kl{g:xW}{pl:Sem Bool}(hn:PySem.W.nsIn X.K vW c=vR (vR (.ref C)))(hc:Cls X.K C)(hm:Meth X.K C m g)(FF:FnOk X.prog X.w X.K X.mg X.base CX k g fd ps (lF X.K F))(hr:Room k X.A)(hb:Binds X.K fd ps [])
  (hx:Passes CX X E0) (ho:QE X E0 o ta) (ha:QA X E0 (e::es) tr) (he:notStar e=vT:=by rfl) (hpl:es.all notStar=vT:=by rfl)
  (ht:eval (.Call (.Attribute o m apos) (e::es) [] pos) X.env=(do
   let ov<-eval o X.env
   standAt apos.atName
   let(f,first)<-holding [ov] (getMethod ov m pl)
   callWith pos f first (xF pos (vj (e::es) X.env)) (xG pos (vX [] X.env))):=by rfl):QE X E0 (.Call (.Attribute o m apos) (e::es) [] pos) (Fv c m F ta tr):=
 (ZJd (pl:=pl) ho hc hm FF hr hb .nil hx ha (Dz e es X.env he) (Hr pos X.env es hpl) ht).mono λσ H Q h=>ZKF (sp:=F) hn h
theorem Wv{g:xW}{pl:Sem Bool}(hn:PySem.W.nsIn X.K vW c=vR (vR (.ref C)))(hc:Cls X.K C)(hm:Meth X.K C m g)(FF:FnOk X.prog X.w X.K X.mg X.base CX k g fd ps (lF X.K F))(hr:Room k X.A)(hb:Binds X.K fd ps [])
  (hx:Passes CX X E0) (ho:QE X E0 o ta)
  (ht:eval (.Call (.Attribute o m apos) [] [] pos) X.env=(do
   let ov<-eval o X.env
   standAt apos.atName
   let(f,first)<-holding [ov] (getMethod ov m pl)
   callWith pos f first (xF pos (vj [] X.env)) (xG pos (vX [] X.env))):=by rfl):QE X E0 (.Call (.Attribute o m apos) [] [] pos) (Fv c m F ta Ag):=
 (ZH1 (pl:=pl) ho hc hm FF hr hb .nil hx ht).mono λσ H Q h=>by
  obtain⟨a,S,G,hk,rfl,s,r,h⟩:=h;refine⟨a,S,G,hk,rfl,s,r,(Dj h).imp ?_⟩;rintro v _ ⟨b,d,G1,rfl,x,s1,q,-,h1⟩;split at h1
  ·rename_i fs hi;obtain⟨i,C',dx,us,rfl,_,rfl,_,n',e1,r1⟩:=s1.ins q hi;have hCC:C'=C:=by
    rw[x.k,hk,hn]at n';cases n'
    rfl
   subst hCC;split at h1
   ·rename_i hm;exact⟨b.m i,dx,us,rfl,e1,r1.Zr hm,b,G1,[.ref i],x.k.trans hk,rfl,s1,⟨.ref (b.m i),[],rfl,q,rfl⟩,h1⟩
   ·exact h1.elim
  ·exact h1.elim
theorem ZE7{ds:List D}{Q:VK}(hk:a.K=X.K)(hn:PySem.W.nsIn X.K vW c=vR (vR (.ref C)))(s:Sim a G)(q:Reps a ds vs)
  (h:out E0 a ((F (.ref G.length::ds) (G++[.ins c []])).bind λv G2=>match v with
   |.non=>.ok (.ref G.length) G2
   |_=>.bad) Q):∀x dx,a.H x=vS->a.H dx=vS->dx≠x->lF X.K F (.ref x::(vs++[])) (upd (upd a.H dx (.own x)) x (.ins C dx [])) (λv H2=>v=.non/\Q (.ref x) H2) E:=λp dx hp hdx hne=>by
 have x1:Ext a (a.put dx (.own p)):=Ext.put hdx;have s1:Sim (a.put dx (.own p)) G:=s.put hdx;have hp1:(a.put dx (.own p)).H p=vS:=by show upd a.H dx (.own p) p=vS;rw[Aq λz=>hne z.symm];exact hp
 have x2:Ext (a.put dx (.own p)) ((a.put dx (.own p)).push p (.ins C dx [])):=Ext.push hp1;have s2:Sim ((a.put dx (.own p)).push p (.ins C dx [])) (G++[.ins c []]):=s1.push hp1 ⟨C,dx,[],by show PySem.W.nsIn a.K vW c=_;rw[hk];exact hn,rfl,rfl,rfl⟩;have hgl:G.length=a.n:=s.len;have mnew:((a.put dx (.own p)).push p (.ins C dx [])).m a.n=p:=by show(if a.n=a.n then p else a.m a.n)=p;rw[if_pos rfl]
 have rp:Rep ((a.put dx (.own p)).push p (.ins C dx [])) (.ref G.length) (.ref p):=by rw[hgl];exact⟨zU _,by rw[mnew]⟩
 refine⟨(a.put dx (.own p)).push p (.ins C dx []),_,.ref G.length::ds,hk,rfl,s2,⟨.ref p,vs,by rw[zP],rp,(q.mono x1).mono x2⟩,(Dj (out.mono (x1.trans x2) h)).imp ?_⟩;rintro v _ ⟨b,d,G1,rfl,x3,s3,q3,-,h3⟩;split at h3
 ·have:v=.non:=q3;exact⟨this,h3 b _ (Ext.refl b) s3 (rp.mono x3)⟩
 ·exact h3.elim
theorem ZIQ{g:xW}{p:Pos}(hn:PySem.W.nsIn X.K vW c=vR (vR (.ref C)))(M:Mk X.K C g)(FF:FnOk X.prog X.w X.K X.mg X.base CX k g fd ps (lF X.K F))(hr:Room (k+1) X.A)(hg:Gl X c)(hm:X.mg c=vR (.ref C))(hb:Binds X.K fd ps [])
  (hx:Passes CX X E0) (ha:QA X E0 (e::es) tr) (hdb:(c==("__debug__":Str))=vU:=by decide) (he:notStar e=vT:=by rfl) (hpl:es.all notStar=vT:=by rfl):QE X E0 (.Call (.Name c p) (e::es) [] pos) (Yc c F tr):=
 (ZGG M FF hr hg hm hb .nil hx ha hdb (Dz e es X.env he) (Hr pos X.env es hpl)).mono λσ H Q h=>by obtain⟨a,S,G,hk,rfl,s,r,h⟩:=h;refine⟨a,S,G,hk,rfl,s,r,(Kh h).imp ?_⟩;rintro vs _ ⟨b,ds,G1,rfl,x,s1,q,-,h1⟩;exact ZE7 (x.k.trans hk) hn s1 q h1
end
theorem R5:∀{ns:List Int}{us:List xB},Vals (ns.map V.int) us->us.length=ns.length/\∀(j:Nat)(u:xB),us[j]?=vR u->∃t,∃h:j<ns.length,u=.int ns[j] t
 |[],us,h=>by cases h;exact⟨rfl,λj u e=>by simp at e⟩
 | n::ns,us,h=>by
  cases h with
  | cons r rr=>
   obtain⟨h1,h2⟩:=R5 rr;obtain⟨t,rfl⟩:=r;refine⟨by simp[h1],λj u e=>?_⟩;cases j with
   |zero=>simp at e;exact⟨t,by simp,by simpa using e.symm⟩
   |succ j=>
    obtain⟨t',hj,e'⟩:=h2 j u (by simpa using e);exact⟨t',by simpa using hj,by simpa using e'⟩
section
variable{X:Cx}{E:XK}
theorem ZIC{acc:Array xB}(h:ItemsOf (λi v=>∃t,v=.int ((0:Int)+i*1) t) acc n):Vals ((zJ n).map λ(i:Nat)=>V.int (i:Int)) acc.toList:=by
 obtain⟨h1,h2⟩:=h;refine Ys (by simp[h1]) λi v u hv hu=>?_
 have hi:i<n:=by have:=(zk.mp hv).1;simpa using this
 rw[zC,qq hi]at hv;have ev:v=V.int (i:Int):=by simpa using hv.symm
 obtain⟨t,e⟩:=h2 i u (by rw[<-jk];exact hu);subst ev;refine⟨t,?_⟩;rw[e]
 congr 1
 lia
noncomputable def Itd(lo:Int)(n:Nat):It:=⟨λi _=>i<n,λi H x H'=>H'=H/\x=.int (lo-i),λi _=>n<=i⟩
theorem ZKg{P:xj}{w:xC}{K:PySem.W.Frag}{tg:xY}(it:xW)(lo:Int)(n:Nat):Turn P w K tg (Itd lo n) [it] it (λi h=>IsRangeIter h it (lo+(i:Nat)*(-1)) ((n:Int)-(i:Nat)) (-1)) where
 mem:=by simp
 obj:=λi h st b hb=>by
  have e:b=it:=by simpa using hb
  subst e;exact⟨_,st,λv z=>by have z':Data.fields _=Data.cell v:=z;cases z'⟩
 keep:=λi h h' st k=>k it (by simp) _ st
 item:=by
  intro X hP hw hK hc i pins s σ H E I hf st hg;subst hP hw hK;obtain⟨f0,f1,f2,f3,f4,f5⟩:=hf it (by simp);have W:=Walks.range (prog:=X.prog) (w:=X.w) (I.ok.hd hc) it lo (-1) n;refine W.item i s _ _ hg st λv h' tk hv st' kk=>?_
  obtain⟨t,rfl⟩:=hv;have I1:Inv X pins σ H {s with heap:=h',toks:=tk}:=I.turned (λb o hb e=>kk b o (by simpa using hb) e) f0 f1 f3 f4 f5;refine⟨_,rfl,Ms (s:={s with heap:=h',toks:=tk}) (n:="range_iterator") st' rfl rfl (by decide) ⟨.int (lo-i),H,I1,⟨t,?_⟩,⟨rfl,rfl⟩,st',λb hb=>(hf b hb).1⟩⟩
  congr 1
  lia
 done:=by intro X hP hw hK hc i pins s σ H E I hf st hg;subst hP hw hK;obtain⟨f0,f1,f2,f3,f4,f5⟩:=hf it (by simp);exact wpAny_pyNext_range_end (I.ok.hd hc) st (by have:n<=i:=hg;lia) λh' eb=>⟨rfl,I.turned (t':=s.toks) (λb o hb e=>eb b o hb e) f0 f1 f3 f4 f5⟩
 self:=λ_ _ _ _ _ st h=>wpAny_pyIter_rangeiter st h
theorem rangeSize_down(a b:Int):Builtin.Range.rangeSize a b (-1)=if b<a then a-b else 0:=by
 unfold Builtin.Range.rangeSize;rw[if_neg (by decide)];have e:(- (-1:Int))=1:=by decide
 rw[e,Int.ediv_one]
 split <;> lia
theorem small_down{a b:Int}(ha: -(2^62)<=a)(ha':a<2^62)(hb: -(2^62)<=b)(hb':b<2^62):Builtin.Range.small a b (-1)=vT:=by
 unfold Builtin.Range.small;rw[rangeSize_down];simp only[Builtin.Range.rangeFitsLong,zB,Bool.or_eq_true,decide_eq_true_eq,beq_iff_eq,show¬((-1:Int)>0) by decide,if_false]
 split <;> lia
def iDn(ta:TA):TI:=λσ H R=>ta σ H λvs H1=>∃i j:Int,vs=[.int i,.int j,.int (-1)]/\(-(2^62)<=i/\i<2^62/\ -(2^62)<=j/\j<2^62)/\R (Itd i (i-j).toNat) H1
theorem ZH8{tg a b c:xY}{ta:TA}{p pos:Pos}(hg:Gl X "range")(hm:X.mg "range"=vS)(ha:PA X [a,b,c] ta)(hs:vj [a,b,c] X.env=(vU,eval a X.env)::vj [b,c] X.env:=by rfl)(hs2:(xF pos (vj [b,c] X.env)).any (·.1)=vU:=by rfl):
  PI X tg (.Call (.Name "range" p) [a,b,c] [] pos) (iDn ta):=by
 intro pins s σ H R I h;refine Call_ (Il I hg hm PyProof.Rows.boot_range (PyProof.Rows.callWith_type1 (thn (ha pos pins s σ H _ I h) λus s1 ⟨vs,H1,I1,r1,q1⟩=>?_) hs hs2));obtain⟨i,j,e,⟨q1,q2,q3,q4⟩,q⟩:=q1;subst e;cases r1 with
 | cons r rr=>
  cases rr with
  | cons r' rr=>
   cases rr with
   | cons r'' rr=>
    cases rr;obtain⟨t,rfl⟩:=r;obtain⟨t',rfl⟩:=r';obtain⟨t'',rfl⟩:=r'';refine call_range_3 (by decide) ?_ (.inl (PyProof.noPylong_small (by lia)));refine wpAny_pyIter_range (IsRange.new ..) (small_down q1 q2 q3 q4) ?_;have I2:Inv X pins σ H1 {s1 with heap:=s1.heap.push {cls:=.type "range",data:=.fields #[.int i t,.int j t',.int (-1) t'']},toks:=s1.toks}:=I1.kept λb o e=>zQ _ e
    refine⟨(s1.heap.push {cls:=.type "range",data:=.fields #[.int i t,.int j t',.int (-1) t'']}).objs.size,[(s1.heap.push {cls:=.type "range",data:=.fields #[.int i t,.int j t',.int (-1) t'']}).objs.size],_,_,H1,rfl,
     I2.kept (t':=s1.toks) λb o e=>zQ _ e,ZKg _ i (i-j).toNat,?_,λb hb=>?_,q⟩
    ·have e1:i+((0:Nat):Int)*(-1)=i:=by simp
     have e2:(((i-j).toNat:Nat):Int)-((0:Nat):Int)=Builtin.Range.rangeSize i j (-1):=by rw[rangeSize_down];split <;> lia
     show IsRangeIter _ _ (i+((0:Nat):Int)*(-1)) ((((i-j).toNat:Nat):Int)-((0:Nat):Int)) (-1);rw[e1,e2];exact zj _ rfl
    ·have e:b=(s1.heap.push {cls:=.type "range",data:=.fields #[.int i t,.int j t',.int (-1) t'']}).objs.size:=by simpa using hb
     subst e;exact I2.I8 (zK _) (I2.hok.fresh (zK _))
noncomputable def Iu(lo:Int)(n:Nat):List D:=(zJ n).map λ(k:Nat)=>D.int (lo-(k:Int))
def rng3(ds:List D)(G:DH):R ItD:=match ds with
 |[.int i,.int j,.int k]=>if inR i/\inR j/\k= -1 then .ok (.pure (Iu i (i-j).toNat)) G else .bad
 |_=>.bad
theorem ZLG(lo:Int)(n:Nat):RepI a (.pure (Iu lo n)) (Itd lo n):=by
 refine⟨(zJ n).map λ(k:Nat)=>V.int (lo-(k:Int)),?_,λb x i=>⟨λv hv=>?_,λhl=>?_⟩⟩
 ·unfold Iu;generalize zJ n=l
  induction l with
  |nil=>exact rfl
  |cons k l ih=>exact⟨_,_,rfl,rfl,ih⟩
 ·rw[zC]at hv;by_cases hi:i<n
  ·rw[qq hi]at hv;have hv':V.int (lo-(i:Int))=v:=by simpa using hv
   exact⟨hi,λw H' y=>⟨y.2.trans hv',y.1⟩⟩
  ·rw[zH (by simpa using hi)]at hv;cases hv
 ·show n<=i;simpa using hl
theorem ZIl{tg e e' e'':xY}{ta:DA}{p pos:Pos}(hg:Gl X "range")(hm:X.mg "range"=vS)(ha:QA X E [e,e',e''] ta)(hs:vj [e,e',e''] X.env=(vU,eval e X.env)::vj [e',e''] X.env:=by rfl)(hs2:(xF pos (vj [e',e''] X.env)).any (·.1)=vU:=by rfl):
  QI X E tg (.Call (.Name "range" p) [e,e',e''] [] pos) (Dw rng3 ta):=
 (ZH8 hg hm ha hs hs2).mono λσ H Q h=>by
  obtain⟨a,S,G,hk,rfl,s,r,h⟩:=h;refine⟨a,S,G,hk,rfl,s,r,(U0 h).imp ?_⟩;rintro vs _ ⟨b,ds,G1,rfl,x,s1,q,-,h1⟩;unfold rng3 at h1;split at h1
  ·rename_i i j k;split at h1
   ·rename_i hj;obtain⟨hi,hj,rfl⟩:=hj;obtain⟨v,r,e1,q1,v2,r2,e2,q2,v3,r3,e3,q3,q4⟩:=q
    cases(show v=V.int i from q1)
    cases(show v2=V.int j from q2)
    cases(show v3=V.int (-1)from q3)
    cases(show r3=[]from q4)
    subst e3;subst e2;exact⟨i,j,e1,⟨hi.1,hi.2,hj.1,hj.2⟩,h1 b _ (Ext.refl b) s1 (ZLG i (i-j).toNat)⟩
   ·exact h1.elim
  ·exact h1.elim
end
section
variable{prog:xj}{w:xC}{A:xK}{E:xB->xy->Prop}{s:xy}
end
section
variable{X:Cx}{E:XK}
end
end _D
namespace _D
open PySem PySem.Spec _L
def Et(c f:Str)(d:D)(G:DH):R D:=match Hx c d G with
 |some fs=>match fs.lookup f with
  |some v=>.ok v G
  |none=>.bad
 |none=>.bad
def Ka(c f:Str)(o d:D)(S:DSt)(G:DH):SR:=match o with
 |.ref i=>match Hx c o G with
  |some fs=>if fs.length<1000 then .nx S (G.set i (.ins c (Ib f d fs)))else .bad
  |none=>.bad
 |_=>.bad
def J0(c m:Str)(F:List D->DH->R D)(t:DA)(S:DSt)(o:D)(G:DH):R D:=match Hx c o G with
 |some fs=>match fs.lookup m with
  |none=>(t S G).bind λds G2=>F (o::ds) G2
  |some _=>.bad
 |none=>.bad
def ZEQ(F:List D->DH->R D)(c:Str)(ds:List D)(G1:DH):R D:=(F (.ref G1.length::ds) (G1++[.ins c []])).bind λv G2=>match v with
 |.non=>.ok (.ref G1.length) G2
 |_=>.bad
section
variable{S:DSt}{G:DH}{c f m:Str}{t to tv:DE}{ta:DA}{F:List D->DH->R D}{i:Nat}{fs:List (Str×D)}{v d:D}
@[simp]theorem ev_fld:Bk c t f S G=(t S G).bind λd G1=>Et c f d G1:=id rfl
@[simp]theorem ZGD:Eh c to tv f S G=(tv S G).toS λd G1=>(to S G1).toS λo G2=>Ka c f o d S G2:=id rfl
@[simp]theorem ZMz:Fv c m F to ta S G=(to S G).bind λo G1=>J0 c m F ta S o G1:=id rfl
@[simp]theorem ZMt:Yc c F ta S G=(ta S G).bind λds G1=>ZEQ F c ds G1:=id rfl
theorem Zc(h:G[i]?=vR (.ins c fs)):Hx c (.ref i) G=vR fs:=by unfold Hx;simp only[h,if_true]
theorem Ge(h:G[i]?=vR (.ins c fs))(h2:fs.lookup f=vR v):Et c f (.ref i) G=.ok v G:=by unfold Et;rw[Zc h];simp only[h2]
theorem ZKA(h:G[i]?=vR (.ins c fs))(hl:fs.length<1000):Ka c f (.ref i) d S G=.nx S (G.set i (.ins c (Ib f d fs))):=by unfold Ka;simp only[Zc h,hl,if_true]
theorem ZIv(h:G[i]?=vR (.ins c fs))(h2:fs.lookup m=vS):J0 c m F ta S (.ref i) G=(ta S G).bind λds G2=>F (.ref i::ds) G2:=by unfold J0;rw[Zc h];simp only[h2]
@[simp]theorem ZCX{i j:Int}(hi:inR i)(hj:inR j):rng3 [.int i,.int j,.int (-1)] G=.ok (.pure (Iu i (i-j).toNat)) G:=by simp[rng3,hi,hj]
theorem ZIb{lo:Int}:Iu lo 0=[]:=rfl
theorem ZLo{lo:Int}{n:Nat}:Iu lo (n+1)=.int lo::Iu (lo-1) n:=by
 unfold Iu;rw[qE,zA,qY]
 congr 1
 ·simp
 ·refine qL λk _=>?_
  simp only[Function.comp]
  congr 1
  lia
theorem R8{d:D}{G G':DH}(hl:G'.length=G.length)(hb:bel G.length d=vT):tidy G (.ok d G')=.ok d G':=by
 unfold tidy;simp only[hb,if_true];split
 ·rename_i h;rw[jL (by lia)]at h;rw[h]
 ·rfl
theorem ZI5{d:D}{G G':DH}(h:G'.take G.length≠G):tidy G (.ok d G')=.ok d G':=by unfold tidy;simp only[h,if_false]
end
end _D
namespace _D
open PySem PySem.Spec _L
open PyProof.Rows hiding St
variable{a:Wd}{v:V}{c':xW}{pos:Pos}
section
variable{X:Cx}{E:XK}
end
section
variable{i j:Int}{G:DH}
end
section
variable{X:Cx}{E:XK}{e st:xY}{te:TE}{ts:TO}{p2 pos:Pos}
end
theorem Reps.rev:∀{ds:List D}{vs:List V},Reps a ds vs->Reps a ds.reverse vs.reverse
 |[],vs,r=>by cases r;exact Reps.nil
 |d::ds,vs,r=>by obtain⟨v,vs',rfl,h,r'⟩:=r;rw[jZ,jZ];exact Reps.append (Reps.rev r') (Reps.cons h Reps.nil)
section
variable{S:DSt}{G:DH}
end
section
variable{X:Cx}{E:XK}
end
section
variable{S:DSt}{G:DH}
end
noncomputable abbrev Ly(X:Cx)(qual:Str)(scope:xk)(f:xW)(cd:xB)(L:xW):Env:=PySem.W.envX qual scope L f cd (Ck X.env scope.names [])
def Ml(X:Cx)(N:List Str)(qual:Str)(scope:xk)(f:xW)(cd:xB)(A:xK)(s:xy)(H:Hp):Cx where
 prog:=X.prog
 w:=X.w
 K:=X.K
 mg:=X.mg
 base:=X.base
 A:=A.deeper (Ly X qual scope f cd s.heap.objs.size)
 N:=N
 s₀:=s
 H₀:=H
 env:=Ly X qual scope f cd s.heap.objs.size
 outer:=X.stack
 stack:=Ly X qual scope f cd s.heap.objs.size::X.stack
 ex:=[]
 fn:=λ_=>vU
 calm:=vT
 pn:=[]
 xe:=λ_ _=>False
noncomputable def I9(caps:List Nat)(d:D)(S:DSt):DSt:=vR d::caps.map λj=>(S[j]?).join
section
variable{X:Cx}{pins:List (xW×Obj)}{σ:St}{H:Hp}{s:xy}{N:List Str}{scope:xk}{caps:List Nat}{x qual:Str}{f:xW}{cd:xB}{A:xK}
theorem ZLl(cs:CompSc X N scope 1 caps)(hN:N[0]?=vR x)(hx:scope.names.lookup x=vR .local)(I:Inv X pins σ H s)(hA:A.handled=vS)(hfr:A.frames=vR X.stack){u:xB}(ru:RelV v u){h₁:Heap}{tk:Nat}
  (hns:h₁.Ns s.heap.objs.size (λy=>q0 y [(x,u)].reverse)) (old:∀b o,s.heap.get? b=vR o->h₁.get? b=vR o):
  Inv (Ml X N qual scope f cd A s H) [] (vR v::caps.map λj=>(σ[j]?).join) H {s with heap:=h₁,toks:=tk}:=by
 have noA:∀b:xW,b∉(Ml X N qual scope f cd A s H).ex:=λb z=>absurd (show b∈([]:List xW)from z) (by simp)
 refine⟨⟨I.ok.mod,cs.kind,rfl,rfl,zK _,λy z c h1 h2=>I.ok.inj y z c (cs.cl I.ok h1) (cs.cl I.ok h2),λy hy=>?_,λy c h=>absurd (show(vU:Bool)=vT from h) (by decide),λ_=>hA,Around.frames_deeper hfr,.inr ⟨rfl,rfl⟩,λb z=>absurd z (noA b),I.bs,z0 I.ok.bsz I.sz,λb _ _=>noA b,λb z=>absurd z (noA b),I.stack,I.Q7⟩,
  rfl,I.bare,Un.kept old,⟨_,hns,λi y v' e1 e2 e3=>?_⟩,λy d' e=>?_,I.hok.fresh (zK _),λy d' e=>I.Ey y d' (cs.cl I.ok e),λp hp=>absurd (show p∈([]:List (xW×Obj))from hp) (by simp),I.hok.kept old,?_⟩
 ·have hy':scope.names.lookup y=vR .cell∨scope.names.lookup y=vR .free:=hy;have hfree:scope.names.lookup y=vR .free:=by
   rcases hy' with z|z
   ·exact absurd rfl (cs.nocell _ (PySem.mem_of_lookup z))
   ·exact z
  obtain⟨d,hd⟩:=Mr (env:=X.env) (x:=y) (names:=scope.names) (cs:=[]) (.inl (PySem.mem_of_lookup hfree));exact P0 hd
 ·have e1':N[i]?=vR y:=e1;cases i with
  |zero=>
   rw[hN]at e1';cases e1';have e2':v=v':=by simpa using e2
   subst e2';exact⟨u,ru,.inl ⟨hx,by simp⟩⟩
  | succ i=>
   have e2':((caps.map λj=>(σ[j]?).join)[i]?)=vR (vR v'):=by simpa using e2
   rw[zC]at e2';cases ej:caps[i]? with
   |none=>rw[ej]at e2';cases e2'
   | some j=>
    rw[ej]at e2';have h1:(σ[j]?).join=vR v':=by simpa using e2'
    have h2:σ[j]?=vR (vR v'):=by
     cases q:σ[j]? with
     |none=>rw[q]at h1;cases h1
     |some o=>
      rw[q]at h1;have h1':o=vR v':=h1;rw[h1']
    obtain⟨y2,ey,en,ek⟩:=cs.cap i j ej;have exy:y=y2:=by rw[Nat.add_comm]at en;rw[e1']at en;exact Option.some.inj en
    subst exy;have kx:=cs.free (y,.free) (PySem.mem_of_lookup ek) rfl;have vis:Vis X.env.scope y:=by
     rcases kx with kx|kx
     ·exact .inr (.inl kx)
     ·exact .inr (.inr kx)
    obtain⟨m,hn,hl⟩:=I.loc;obtain⟨u2,ru2,lk⟩:=hl j y v' ey h2 vis;refine⟨u2,ru2,?_⟩;rcases lk with⟨k1,_⟩|⟨k1,c1,ec,hcell⟩
    ·rcases kx with kx|kx
     ·rw[k1]at kx;cases kx
     ·rw[k1]at kx;cases kx
    ·refine .inr ⟨.inr ek,c1,?_,?_⟩
     ·obtain⟨d1,hd1⟩:=Mr (env:=X.env) (x:=y) (names:=scope.names) (cs:=[]) (.inl (PySem.mem_of_lookup ek));obtain⟨d2,hd2⟩:=P0 hd1;have:=cs.cl I.ok hd2;rw[ec]at this;cases this;exact hd2
     ·obtain⟨o,e,dd⟩:=hcell;exact⟨o,old _ _ e,dd⟩
 ·obtain⟨v',o,e',dd⟩:=I.cell y d' (cs.cl I.ok e);exact⟨v',o,old _ _ e',dd⟩
 ·show(vR v::caps.map λj=>(σ[j]?).join).length=N.length;rw[cs.len];simp;lia
theorem ZL5{S:DSt}{d:D}(r:RepS a S σ)(rd:Rep a d v):RepS a (I9 caps d S) (vR v::caps.map λj=>(σ[j]?).join):=by
 refine⟨by simp[I9],λi e h=>?_⟩;unfold I9 at h;cases i with
 |zero=>
  have h':d=e:=by simpa using h
  subst h';exact⟨v,rfl,rd⟩
 | succ i=>
  have h':((caps.map λj=>(S[j]?).join)[i]?)=vR (vR e):=by simpa using h
  rw[zC]at h';cases ej:caps[i]? with
  |none=>rw[ej]at h';cases h'
  | some j=>
   rw[ej]at h';have h1:(S[j]?).join=vR e:=by simpa using h'
   have h2:S[j]?=vR (vR e):=by
    cases q:S[j]? with
    |none=>rw[q]at h1;cases h1
    |some o=>
     rw[q]at h1;have h1':o=vR e:=h1;rw[h1']
   obtain⟨v',ev,rv⟩:=r.get j e h2;exact⟨v',by simp[ej,ev],rv⟩
theorem ZK9{S:DSt}{G:DH}{body:xY}{te:DE}{params:Arguments}{pm ctv:xB}{ob:Obj}{d:D}{u:xB}{Q:VK}{E:XK}
  (cs:CompSc X N scope 1 caps) (hN:N[0]?=vR x) (hx:scope.names.lookup x=vR .local) (hco:scope.isCoroutine=vU) (hgen:scope.isGenerator=vU)
  (I:Inv X pins σ a.H s) (hk:a.K=X.K) (sm:Sim a G) (rS:RepS a S σ) (ho:s.heap.get? f=vR ob) (hd:ob.data=.func (PySem.W.kla_fn "<lambda>" qual params body scope (Ck X.env scope.names []) pm (.ref c') ctv)) (hcd:s.heap.CodeRec (.ref c') qual)
  (hbind:bindArgs (PySem.W.kla_fn "<lambda>" qual params body scope (Ck X.env scope.names []) pm (.ref c') ctv) ⟨[u],[]⟩=pure [(x,u)])
  {k:Nat} (hr:Room (k+1) A) (hfr:A.frames=vR X.stack) (he:Room k (A.deeper (Ly X qual scope f (.ref c') s.heap.objs.size))->QE (Ml X N qual scope f (.ref c') A s a.H) E0 body te)
  (ru:RelV v u) (rd:Rep a d v) (h:out E0 a (te (I9 caps d S) G) Q):
  codeAny (vK X.prog X.w) A (.call (.ref f) ⟨[u],[]⟩) (CR CX0 X.stack X.prog X.w a.H s Q E) s:=by
 refine PySem.W.kla_callFunE hr.depth ho hd hco hgen rfl hcd ?_;rw[hbind];refine vL (wpAny_newFunctionEnv cs.nocell (λy hy=>?_) (λh₁ hns hsb=>?_) cs.kind)
 ·have hy':y=(x,u):=by simpa using hy
  subst hy';exact hx
 have old:∀b o,s.heap.get? b=vR o->h₁.get? b=vR o:=λb o e=>hsb.extBut b o (zF (zW e)) (zQ _ e)
 refine⟨I.nolimit.keeps old,?_⟩;have J:=ZLl (qual:=qual) (f:=f) (cd:=.ref c') cs hN hx I hr.hd hfr ru (tk:=s.toks+1) hns old;refine PySem.W.kla_codeExpr (vG (he (hr.deeper _) [] _ _ a.H Q J ⟨a,I9 caps d S,G,hk,rfl,sm,ZL5 rS rd,h⟩) (λr s' hq=>?_) λ_ _ hF=>hF.elim);obtain⟨v',H',J',rv,q⟩:=hq;exact⟨v',H',J'.os,J'.bare,J'.base,J'.hok,rv,q⟩
end
def BMd(base:Heap)(mg:Str->Option xB):Prop:=∃(bm:xW)(ob:Obj),mg "__builtins__"=vR (.ref bm)/\bm≠builtinsNs/\base.get? bm=vR ob/\ob.cls=.type "module"/\ob.dict=vR builtinsNs/\ob.data=.plain
theorem ZKa{i j:Int}{t u:Tok}{c:xB}(l:List xB)(h:TriplesOk l):TriplesOk (l++[.int i t,.int j u,c]):=by
 fun_induction TriplesOk l with
 |case1=>simp[TriplesOk]
 |case2 a b c d x rest ih=>exact ih h
 |case3=>exact h.elim
theorem ZK5{i j:Int}{t u:Tok}{c cv:xB}(l:List xB)(h:TriplesOk l)(hc:codeAmong pos (l++[.int i t,.int j u,c])=vR cv):codeAmong pos l=vR cv∨cv=c:=by
 fun_induction TriplesOk l with
 |case1=>
  right
  simp only[jC,codeAmong]at hc;split at hc
  ·exact(Option.some.inj hc).symm
  ·cases hc
 |case2 a b c' d x rest ih=>
  simp only[jV,codeAmong]at hc⊢;split at hc
  ·rename_i e;rw[if_pos e];exact .inl hc
  ·rename_i e;rw[if_neg e];exact ih h hc
 |case3=>exact h.elim
section
variable{X:Cx}{pins:List (xW×Obj)}{σ:St}{s:xy}{scope:xk}{a:Wd}
theorem grown{P:xW}{ps more:Array xB}{oc:Obj}(hP:a.H P=vR (.tbl ps))(hc:a.H c'=vS):
  let H':=upd (upd a.H P (.tbl (ps++more))) c' (.frz oc (.own 0))
  (∀b u,a.H b=vR u->b≠P->H' b=vR u)/\H' P=vR (.tbl (ps++more))/\H' c'=vR (.frz oc (.own 0)):=by
 have h1:P≠c':=λz=>by rw[z,hc]at hP;cases hP
 refine⟨λb u e hb=>?_,?_,Do⟩
 ·rw[Aq (G7 e hc),Aq hb];exact e
 ·rw[Aq h1,Do]
theorem ZJ9{P:xW}{ps:Array xB}{i j:Int}{t u:Tok}{oc:Obj}{vs:Array xB}{tk:Tok}(T:TabOk a.H P)(hP:a.H P=vR (.tbl ps))(hc:a.H c'=vS)(hd:oc.data=.fields vs)(hv:vs[1]?=vR (.str Cy tk)):
  Ext a {a with H:=upd (upd a.H P (.tbl (ps++ #[.int i t,.int j u,.ref c']))) c' (.frz oc (.own 0))}:=by
 obtain⟨g1,g2,g3⟩:=grown (more:= #[.int i t,.int j u,.ref c']) (oc:=oc) hP hc;have ne:∀b(w:HO),a.H b=vR w->(∀q,w≠ .tbl q)->b≠P:=λb w e n z=>by rw[z,hP]at e;exact n _ (Option.some.inj e).symm
 refine⟨rfl,zK _,λ_ _=>rfl,λb xs e=>g1 b _ e (ne b _ e (by intro q z;cases z)),λb o w e=>g1 b _ e (ne b _ e (by intro q z;cases z)),λp tp=>?_⟩;by_cases e:p=P
 ·subst e;obtain⟨ps',e1,e2,e3⟩:=tp;rw[hP]at e1;cases e1;refine⟨_,g2,by simpa using ZKa ps.toList e2,λpos cv hcv=>?_⟩;have hcv':codeAmong pos (ps.toList++[.int i t,.int j u,.ref c'])=vR cv:=by simpa using hcv
  rcases ZK5 ps.toList e2 hcv' with z|z
  ·obtain⟨c,oc',vs',t',q1,q2,q3,q4⟩:=e3 pos cv z;exact⟨c,oc',vs',t',q1,g1 c _ q2 (ne c _ q2 (by intro q z;cases z)),q3,q4⟩
  ·exact⟨c',oc,vs,tk,z,g3,hd,hv⟩
 ·obtain⟨ps',e1,e2,e3⟩:=tp;refine⟨ps',g1 p _ e1 e,e2,λpos cv hcv=>?_⟩;obtain⟨c,oc',vs',t',q1,q2,q3,q4⟩:=e3 pos cv hcv;exact⟨c,oc',vs',t',q1,g1 c _ q2 (ne c _ q2 (by intro q z;cases z)),q3,q4⟩
theorem ZHQ{b:Wd}{G:DH}(sm:Sim a G)(x:Ext a b)(hn:b.n=a.n)(hm:b.m=a.m){P:xW}{ps:Array xB}(hP:a.H P=vR (.tbl ps))(h1:∀p u,a.H p=vR u->p≠P->b.H p=vR u)(h2:b.H P≠vS):Sim b G:=by
 refine⟨by rw[hn];exact sm.len,by rw[hn,hm];exact sm.inj,λi o e=>?_,λi hi=>?_⟩
 ·have q:=sm.obj i o e;rw[hm];have same:∀w:HO,a.H (a.m i)=vR w->(∀z,w≠ .tbl z)->b.H (a.m i)=a.H (a.m i):=λw e n=>by rw[h1 _ _ e (λz=>by rw[z,hP]at e;exact n _ (Option.some.inj e).symm),e]
  cases o with
  |lst ds=>
   obtain⟨us,e1,r1⟩:=q;rw[same _ e1 (by intro z y;cases y)];exact⟨us,e1,r1.mono x⟩
  |dct kvs=>
   obtain⟨us,e1,k1,r1⟩:=q;rw[same _ e1 (by intro z y;cases y)];exact⟨us,e1,k1,r1.mono x⟩
  |exc c fs=>
   obtain⟨C,oe,u,vs,n1,e1,k1,k2,z⟩:=q;rw[same _ e1 (by intro z y;cases y)];exact⟨C,oe,u,vs,by rw[x.k];exact n1,e1,k1,k2,z.mono x⟩
  |ins c fs=>
   obtain⟨C,dx,us,n1,e1,k1,r1⟩:=q;rw[same _ e1 (by intro z y;cases y)];exact⟨C,dx,us,by rw[x.k];exact n1,e1,k1,r1.mono x⟩
  |tab C m=>obtain⟨c1,P1,e1,t1⟩:=q;exact⟨c1,P1,by rw[x.k];exact e1,x.tab _ t1⟩
  |gone=>trivial
 ·rw[hn]at hi;rw[hm];have z:=sm.tr i hi;cases e:a.H (a.m i)with
  |none=>exact absurd e z
  |some w=>
   by_cases hp:a.m i=P
   ·rw[hp];exact h2
   ·rw[h1 _ _ e hp];intro y;cases y
theorem ZKh{params:Arguments}{body:xY}{c P:xW}{clos:List (Str×xW)}(I:Inv X pins σ a.H s)(hcl:closureFor scope X.env=pure clos)(hcode:X.env.code=.ref c)(hhd:PySem.W.codeHdIn X.K c P=vT)(T:TabOk a.H P)(B:BMd X.base X.mg)
  (hq:X.env.qual++"<lambda>"=Cy) (hdef:defaultsOf params X.env=([],[])) {R:xB->xy->Prop}
  (h:∀(b:Wd)(f c':xW)(ctv:xB)(ob oc:Obj)(vs:Array xB)(t:Tok)(s':xy),Ext a b->(∀G,Sim a G->Sim b G)->Inv X ((f,ob)::pins) σ b.H s'->ob.data=.func (PySem.W.kla_fn "<lambda>" Cy params body scope clos ((X.mg "__name__").getD .none) (.ref c') ctv)->
   b.H c'=vR (.frz oc (.own 0))->oc.data=.fields vs->vs[1]?=vR (.str Cy t)->R (.ref f) s'):
  vk (vK X.prog X.w) X.A (eval (.Lambda params body scope pos) X.env) R X.xe s:=by
 refine PySem.W.kla_eval hdef ?_;rw[hq];obtain⟨ps,hPs,tr,ent⟩:=id T;have hobj:s.heap.get? P=vR (PySem.W.tabObj ps):=I.hok P _ hPs;have hCH:PySem.W.CodeHd s.heap c P:=PySem.W.codeHd_of_K I.kIn hhd;have G:s.heap.Ns vW X.mg:=I.ok.mod.glob.keeps I.bk;have hgP:vW≠P:=λq=>by obtain⟨o,es,ep,e,hd,_⟩:=G;rw[q,hobj]at e;cases e;cases hd
 obtain⟨bm,ob,b1,b2,b3,b4,b5,b6⟩:=B;have b3':=I.bk _ _ b3;have hbP:bm≠P:=λq=>by rw[q,hobj]at b3';cases b3';cases b4
 have hbG:bm≠vW:=λq=>by obtain⟨o,es,ep,e,hd,_⟩:=G;rw[q,e]at b3';cases b3';rw[hd]at b6;cases b6
 have BA:s.heap.BuiltinsAt X.mg P:=⟨bm,ob,b1,b2,hbG,hbP,b3',b4,b5,b6⟩;have hLP:X.env.locals≠P:=λz=>by have:=I.free;rw[z,hPs]at this;cases this
 cases hca:codeAmong pos ps.toList with
 |some cv=>
  obtain⟨c',oc,vs,t,rfl,hfz,e3,e4⟩:=ent pos cv hca;refine PySem.W.kla_makeFunctionHit hcl I.ok.glob G hcode hCH hobj tr hca BA λctv h' tk hk hsz=>?_
  have k2:∀b o,s.heap.get? b=vR o->(h'.push {cls:=.type "function",data:=.func (PySem.W.kla_fn "<lambda>" Cy params body scope clos ((X.mg "__name__").getD .none) (.ref c') ctv)}).get? b=vR o:=λb o e=>zQ _ (hk b o e)
  have I2:=I.kept (t':=tk) k2;refine h a h'.objs.size c' ctv {cls:=.type "function",data:=.func (PySem.W.kla_fn "<lambda>" Cy params body scope clos ((X.mg "__name__").getD .none) (.ref c') ctv)} oc vs t _ (Ext.refl a) (λ_ z=>z) (I2.Gs λp hp=>?_) rfl hfz e3 e4;rcases zq.mp hp with rfl|hp
  ·exact⟨zj _ rfl,I.hok.fresh hsz,qy (zX I.lt hsz),I.nofs hsz,λv z=>by cases z⟩
  ·exact I2.pin p (zE _ hp)
 | none=>
  refine PySem.W.kla_makeFunction hcl I.ok.glob G hcode hCH hobj tr hca hgP BA λc' ctv h' tk hx hge hlt hrec htb=>?_
  obtain⟨c2,oc,vs,t,e2,hoc,hd,hv⟩:=hrec;cases e2;have hcn:a.H c'=vS:=I.hok.fresh hge;obtain⟨g1,g2,g3⟩:=grown (more:= #[vY pos.line,vY pos.col,.ref c']) (oc:=oc) hPs hcn;have x:Ext a {a with H:=upd (upd a.H P (.tbl (ps++ #[vY pos.line,vY pos.col,.ref c']))) c' (.frz oc (.own 0))}:=ZJ9 T hPs hcn hd hv;generalize hHe:upd (upd a.H P (.tbl (ps++ #[vY pos.line,vY pos.col,.ref c']))) c' (.frz oc (.own 0))=H' at*
  generalize hfo:PySem.W.kla_obj "<lambda>" Cy params body scope clos ((X.mg "__name__").getD .none) c' ctv=fo;have old:∀b o,b≠P->s.heap.get? b=vR o->(h'.push fo).get? b=vR o:=λb o hb e=>zQ _ (hx b o hb e)
  have hP2:(h'.push fo).get? P=vR (PySem.W.tabObj (ps++ #[vY pos.line,vY pos.col,.ref c'])):=zQ _ htb;have nP:∀b,a.H b=vS->b≠P:=λb e z=>by rw[z,hPs]at e;cases e
  have nf:∀b,a.H b=vS->b≠c'->H' b=vS:=λb e hb=>by rw[<-hHe,Aq hb,Aq (nP b e)];exact e
  have hsz:s.heap.objs.size<=h'.objs.size:=z0 hge (j5 hlt);have I2:Inv X pins σ H' {s with heap:=h'.push fo,toks:=tk}:=by
   refine I.step (g':=s.gens) (d':=s.drawn) (ch:=[]) (λ_ z=>nomatch z) (λb o _ _ _ e n=>old b o (nP b n) e) (λb o _ _ _ e n=>⟨o.slots,old b o (nP b n) e⟩) (λb o _ e n=>nf b n (zF (zX (zW e) hge))) (λb o _ e=>?_)
    x.tup x.frz (λb q e=>?_) (λm hn=>(hn.extBut hx hLP).push _) (λb u e=>?_) I.bare
   ·by_cases hb:b=P
    ·subst hb;exact⟨_,hP2⟩
    ·exact⟨o,old b o hb e⟩
   ·by_cases hb:b=P
    ·subst hb;rw[hPs]at e;cases e;exact⟨_,g2⟩
    ·exact⟨#[],by rw[g1 b _ e hb];simp⟩
   ·by_cases hb:b=c'
    ·subst hb;rw[g3]at e;cases e;exact⟨zQ _ hoc,_,zQ _ hoc⟩
    ·by_cases hb2:b=P
     ·subst hb2;rw[g2]at e;cases e;exact hP2
     ·have e':a.H b=vR u:=by rw[<-hHe,Aq hb,Aq hb2]at e;exact e
      refine(I.hok b u e').stay (λb' o' hb' q=>old b' o' ?_ q) (λb' q=>g1 b' _ q ?_) λb' xs q=>x.tup b' xs q
      ·rcases hb' with rfl|hb'
       ·exact hb2
       ·intro z;rw[z,hPs]at hb';cases hb'
      ·intro z;rw[z,hPs]at q;cases q
  refine h _ h'.objs.size c' ctv fo oc vs t _ x (λG sm=>ZHQ sm x rfl rfl hPs g1 (by show H' P≠vS;rw[g2];intro z;cases z)) (I2.Gs λp hp=>?_) (by rw[<-hfo]) g3 hd hv;rcases zq.mp hp with rfl|hp
  ·refine⟨zj _ (by rw[<-hfo];rfl),nf _ (I.hok.fresh hsz) (qy hlt),qy (zX I.lt hsz),I.nofs hsz,λv z=>by rw[<-hfo]at z;cases z⟩
  ·exact I2.pin p (zE _ hp)
end
noncomputable def ltK(ks:List Int)(i j:Nat):Bool:=decide (ks.getD i 0<ks.getD j 0)
def Eu(ks:List Int):List D:=
 if ks.length<2 then Bd 0 ks.length else((Hl (ltK ks.reverse) (PySem.W.kas_sort ks.length)).toList.map λi=>(Bd 0 ks.length).reverse.getD i .non).reverse
section
variable{prog:xj}{w:xC}{A:xK}{E:xB->xy->Prop}{s:xy}
theorem ZIA{r:xW}{j:Int}{t u v:Tok}{n:Nat}{Q:List xB->xy->Prop}(hh:A.handled=vS)(hr:IsRange s.heap r 0 j 1 t u v)(hsmall:Builtin.Range.small 0 j 1=vT)(hn:Builtin.Range.rangeSize 0 j 1=n)(hlen:n<=2^24)
  (h:∀h' tk vs,(∀b o,s.heap.get? b=vR o->h'.get? b=vR o)->s.heap.objs.size<h'.objs.size->Vals ((zJ n).map λ(i:Nat)=>V.int (i:Int)) vs->Q vs {s with heap:=h',toks:=tk}):
  vk (vK prog w) A (collect (.ref r)) Q E s:=by
 have key:∀R:Result->xy->Prop,(∀h' tk acc' c',(∀b o,b≠s.heap.objs.size->(s.heap.push (seqObj "list" #[] 0)).get? b=vR o->h'.get? b=vR o)->h'.get? s.heap.objs.size=vR {cls:=.type "list",dict:=vS,data:=.seq acc' c',slots:= #[]}->
   ItemsOf (λi v=>∃t,v=.int (0+i*1) t) acc' n->R (.ok (.ret (.ref s.heap.objs.size))) {s with heap:=h',toks:=tk})->codeAny (vK prog w) A (.builtin "list.__iadd__" ⟨[.ref s.heap.objs.size,.ref r],[]⟩) R {s with heap:=s.heap.push (seqObj "list" #[] 0)}:=λR hR=>by
  refine codeAny_builtin entry_list_iadd' ?_;rw[Around.under_plainId PySem.F.plain_list_iadd _];exact wpAny_extend_range (R:=R) (s:={s with heap:=s.heap.push (seqObj "list" #[] 0)}) hh (zQ _ hr) hsmall hn hlen s.heap.objs.size (.ref s.heap.objs.size) 0 (zj _ rfl) hR
 unfold collect;refine vB (wpAny_runValue (codeAny_builtin entry_proto_collect' ?_))
 show vk _ _ (do again (.builtin "list.__iadd__" ⟨[<-newList [],.ref r],[]⟩)) _ _ s
 refine vB (wpAny_newList (vL ⟨Code.quiet_builtin _ (by decide +kernel),key _ λh' tk acc' c' hk hS' hacc=>?_⟩))
 show vk (vK prog w) A (do
   let o<-load s.heap.objs.size
   match o.data with
   |.seq xs _=>pure xs.toList
   |_=>unsupported "internal:collect") Q E {s with heap:=h',toks:=tk}
 refine vB (wpAny_load hS' ?_);exact vL (h h' tk acc'.toList (λb o e=>hk b o (zF (zW e)) (zQ _ e)) (zW hS') (ZIC hacc))
theorem ZGu{M:Model}{A:xK}{E:xB->xy->Prop}{s:xy}{env:Env}{T:String}{e:xY}{rest:List xY}{kws:List Keyword}{Q:xB->xy->Prop}
  (hall:(xG pos (vX kws env)).all (·.1.isSome)=vT)
  (h:vk M A (spliced (xF pos (vj (e::rest) env))) (λvs s₁=>vk M A (evalAll ((xG pos (vX kws env)).map (·.2)))
   (λks s₂=>vk M A (call (.builtin T) vs (((xG pos (vX kws env)).filterMap (·.1)).zip ks)) Q E s₂) E s₁) E s)
  (hplain:(xF pos (vj (e::rest) env)).any (·.1)=vU) (hkw:(xG pos (vX kws env)).any (·.1.isNone)=vU) (he:vj (e::rest) env=(vU,eval e env)::vj rest env):
  vk M A (callWith pos (.builtin T) [] (xF pos (vj (e::rest) env)) (xG pos (vX kws env))) Q E s:=by
 unfold callWith;refine vB (vF (vG (PyProof.Rows.evalArgs_kw2 (Q:=λa s₁=>vk M A (call (.builtin T) ([]++a.pos) a.kw) Q E s₁) hall h he) (λa s₁ h₁=>vB (wpAny_standAt ?_)) λ_ _ x=>x));simp only[hplain,hkw,Bool.or_false];refine vB (vL ?_);exact vB (vG h₁ (λr s₂ hr=>vB (vF (wpAny_point (vL hr)))) λ_ _ x=>x)
theorem ZLn{r q:xW}{j:Int}{t u v:Tok}{n:Nat}{Q:xB->xy->Prop}(hh:A.handled=vS)(hr:IsRange s.heap r 0 j 1 t u v)(hsmall:Builtin.Range.small 0 j 1=vT)(hn:Builtin.Range.rangeSize 0 j 1=n)(hlen:n<64)
  (h:∀D h1 tk vs,s.heap.objs.size<=D->h1.get? D=vR (seqObj "list" vs.toArray 0)->(∀b o,s.heap.get? b=vR o->h1.get? b=vR o)->Vals ((zJ n).map λ(i:Nat)=>V.int (i:Int)) vs->
   vk (vK prog w) A.in1.in1 (PyProof.Rows.ksk_tree D (.ref q) vT) (λfin s'=>fin=PySem.Fin.done (.ret .none)/\Q (.ref D) s') E {s with heap:=h1,toks:=tk}):
  vk (vK prog w) A (call (.builtin "sorted") [.ref r] [("key",.ref q),("reverse",.bool vT)]) Q E s:=by
 refine call_function_entry_kw kind_sorted plain_sorted entry_sorted (PyProof.Rows.ksk_s2 _ _ _) ?_;unfold Builtin.«sorted»;refine vB (m:=checkCount "sorted" 1 1 _) (vL ?_);refine vB (ZIA (A:=A.in1) hh hr hsmall hn (by lia) λh' tk vs kp hlt rv=>?_);have hvl:vs.length=n:=by have:=rv.length;simpa using this.symm
 refine vB (wpAny_newList ?_ (by rw[hvl,vq];lia));have hD:(h'.push (seqObj "list" vs.toArray 0)).get? h'.objs.size=vR (seqObj "list" vs.toArray 0):=zj _ rfl;have hq:=h h'.objs.size (h'.push (seqObj "list" vs.toArray 0)) tk vs (j5 hlt) hD (λb o e=>zQ _ (kp b o e)) rv;refine vB (vF (wpAny_call_entry_kw slot_list_sort ⟨_,hD,rfl⟩ entry_list_sort ?_ (PyProof.Rows.ksk_l2 _ _ _)))
 show vk (vK prog w) A.in1.in1 (Builtin.«list.sort» ⟨[.ref h'.objs.size],[(Str.ofString "key",.ref q),(Str.ofString "reverse",.bool vT)]⟩) _ _ _;rw[PyProof.Rows.ksk_t2];refine vG hq (λfin s' hf=>?_) λ_ _ x=>x
 exact⟨_,hf.1,vL ⟨_,rfl,hf.2⟩⟩
end
section
variable{X:Cx}{pins:List (xW×Obj)}{σ:St}{H:Hp}{s:xy}{h':Heap}{m:Str->Option xB}
theorem Wk{q:xW}(I:Inv X pins σ H s)(f:FpOk X pins H q)(k:∀b o,b≠X.env.locals->b≠q->s.heap.get? b=vR o->h'.get? b=vR o)(hq:∀o,s.heap.get? q=vR o->∃o',h'.get? q=vR o')(ns:∀m,s.heap.Ns X.env.locals m->h'.Ns X.env.locals m):Inv X pins σ H {s with heap:=h'}:=by
 have nL:∀c w,H c=vR w->c≠X.env.locals:=λc w e z=>by rw[z,I.free]at e;cases e
 have nq:∀c w,H c=vR w->c≠q:=λc w e z=>by rw[z,f.1]at e;cases e
 refine I.step (t':=s.toks) (g':=s.gens) (d':=s.drawn) (ch:=[q]) (λb hb=>?_) (λb o hL _ hc e _=>k b o hL (λz=>hc (by simp[z])) e) (λb o hL _ hc e _=>⟨o.slots,k b o hL (λz=>hc (by simp[z])) e⟩) (λ_ _ _ _ n=>n) (λb o hc e=>?_) (λ_ _ e=>e) (λ_ _ _ e=>e)
  (λb ps e=>⟨#[],by rw[e];simp⟩) ns (λb u e=>?_) I.bare
 ·have hb':b=q:=by simpa using hb
  subst hb';exact⟨f.2.2.2.1,f.2.1,f.2.2.2.2.1,f.2.2.2.2.2⟩
 ·by_cases hb:b=X.env.locals
  ·obtain⟨m,hn,_⟩:=I.loc;obtain⟨o',_,_,ho',_⟩:=ns m hn;exact⟨o',by rw[hb];exact ho'⟩
  ·by_cases hb2:b=q
   ·subst hb2;exact hq o e
   ·exact⟨o,k b o hb hb2 e⟩
 ·refine(I.hok b u e).stay (λc v hc z=>k c v ?_ ?_ z) (λ_ z=>z) λ_ _ z=>z
  ·rcases hc with z|z
   ·rw[z];exact nL b u e
   ·exact nL c _ z
  ·rcases hc with z|z
   ·rw[z];exact nq b u e
   ·exact nq c _ z
theorem ZJe{H':Hp}{h2:Heap}(I:Inv X pins σ H s)(un:Un (frs X.stack) [] H H' s.heap h2)(hn:s.heap.Ns X.env.locals m):h2.Ns X.env.locals m:=by
 obtain⟨o,es,ep,e,hd,r⟩:=hn;by_cases hs:X.env.locals∈frs X.stack
 ·obtain⟨sl,e2⟩:=un.slot _ o e I.free hs (by simp);exact⟨_,es,ep,e2,hd,r⟩
 ·exact⟨o,es,ep,un.keep _ o e I.free hs (by simp),hd,r⟩
theorem ZCp{H':Hp}{h2:Heap}{q:xW}{o:Obj}(I:Inv X pins σ H s)(un:Un (frs X.stack) [] H H' s.heap h2)(f:FpOk X pins H q)(e:s.heap.get? q=vR o):h2.get? q=vR o/\FpOk X pins H' q:=by
 have hs:q∉frs X.stack:=λz=>by
  rcases zq.mp (I.Nz q z)with z|z
  ·exact f.2.1 z
  ·exact f.2.2.1 z
 exact⟨un.keep q o e f.1 hs (by simp),un.free q o e f.1 (by simp),f.2⟩
end
def Gj(te:DE)(caps:List Nat)(S:DSt):Nat->Nat->DH->R (List Int)
 |0,_,G=>.ok [] G
 |n+1,i,G=>(te (I9 caps (.int i) S) G).bind λd G1=>match d with
  |.int k=>(Gj te caps S n (i+1) G1).bind λks G2=>.ok (k::ks) G2
  |_=>.bad
structure KS (X:Cx) (pins:List (xW×Obj)) (σ:St) (D kS:xW) (e1:Nat) (m:Str->Option xB) (a b:Wd) (G:DH) (ks:List xB) (kz:List Int) (e:Nat) (s:xy):Prop where
 inv:Inv X pins σ b.H s
 ext:Ext a b
 sim:Sim b G
 ns:s.heap.Ns X.env.locals m
 k:s.heap.get? kS=vR (seqObj "list" ks.toArray e)
 d:s.heap.get? D=vR (seqObj "list" #[] e1)
 fk:FpOk X pins b.H kS
 fd:FpOk X pins b.H D
 ne:D≠kS
 dge:X.s₀.heap.objs.size<=D
 iz:IntsAre ks kz
section
variable{X:Cx}{pins:List (xW×Obj)}{σ:St}{N:List Str}{scope:xk}{caps:List Nat}{x:Str}{f:xW}{A:xK}{a:Wd}{S:DSt}{body:xY}{te:DE}{params:Arguments}{pm ctv:xB}{c':xW}{ob oc:Obj}{vs0:Array xB}{t0:Tok}{E:XK}
 {Dd kS:xW} {e1:Nat} {m:Str->Option xB} {h₀:Heap} {Q:VK}
theorem Ye(cs:CompSc X N scope 1 caps)(hN:N[0]?=vR x)(hx:scope.names.lookup x=vR .local)(hco:scope.isCoroutine=vU)(hgen:scope.isGenerator=vU)(hk:a.K=X.K)(rS:RepS a S σ)(hp:(f,ob)∈pins)
  (hd:ob.data=.func (PySem.W.kla_fn "<lambda>" Cy params body scope (Ck X.env scope.names []) pm (.ref c') ctv)) (hc1:a.H c'=vR (.frz oc (.own 0))) (hc2:oc.data=.fields vs0) (hc3:vs0[1]?=vR (.str Cy t0))
  (hbind:∀u,bindArgs (PySem.W.kla_fn "<lambda>" Cy params body scope (Ck X.env scope.names []) pm (.ref c') ctv) ⟨[u],[]⟩=pure [(x,u)])
  {k:Nat} (hr:Room (k+1) A) (hfr:A.frames=vR X.stack) (he:∀s H,Room k (A.deeper (Ly X Cy scope f (.ref c') s.heap.objs.size))->QE (Ml X N Cy scope f (.ref c') A s H) E0 body te)
  (h0:h₀=Att.Js h₀) {n0:Nat} {g:List Int->DH->R D} {Fin:List xB->Nat->xy->Prop}
  (fin:∀(b:Wd)(G:DH)(ks:List xB)(kz:List Int)(e:Nat)(s:xy),KS X pins σ Dd kS e1 m a b G ks kz e s->kz.length=n0->out E0 b (g kz G) Q->Fin ks e s):
  ∀(r:List xB)(i:Nat)(b:Wd)(G:DH)(ks:List xB)(kz:List Int)(e:Nat)(s:xy),KS X pins σ Dd kS e1 m a b G ks kz e s->kz.length+r.length=n0->(∀(t:Nat)(v:xB),r[t]?=vR v->∃tk,v=Value.int ((i+t:Nat):Int) tk)->
   out E0 b ((Gj te caps S r.length i G).bind λzs G2=>g (kz++zs) G2) Q->PySem.W.KatKeys X.prog X.w A h₀ X.env.locals m kS (.ref f) Fin r ks e s
 |[],i,b,G,ks,kz,e,s,K,hz,hv,h=>by refine PySem.W.KatKeys.nil (fin b G ks kz e s K hz ?_);have h':out E0 b (g (kz++[]) G) Q:=h;rw[zP]at h';exact h'
 | v::r,i,b,G,ks,kz,e,s,K,hz,hv,h=>by
  obtain⟨tk,rfl⟩:=hv 0 v rfl;have kb:b.K=X.K:=K.ext.k.trans hk;have ho:s.heap.get? f=vR ob:=(K.inv.pin _ (zE _ hp)).1;have hcr:s.heap.CodeRec (.ref c') Cy:=by obtain⟨e3,_⟩:=K.inv.hok c' _ (K.ext.frz _ _ _ hc1);exact⟨c',oc,vs0,t0,rfl,e3,hc2,hc3⟩
  have h1:out E0 b ((te (I9 caps (.int (i:Int)) S) G).bind λd G1=>(match d with
    |.int k=>(Gj te caps S r.length (i+1) G1).bind λzs G2=>g (kz++(k::zs)) G2
    |_=>.bad)) Q:=by
   have h2:out E0 b (((te (I9 caps (.int (i:Int)) S) G).bind λd G1=>(match d with
    |.int k=>(Gj te caps S r.length (i+1) G1).bind λks G2=>.ok (k::ks) G2
    |_=>.bad)).bind λzs G2=>g (kz++zs) G2) Q:=h
   rw[R.bind_assoc]at h2;refine cast (congrArg (λz=>out E0 b z Q) ?_) h2
   congr 1
   funext d G1
   cases d<;>first|rfl|(show((Gj te caps S r.length (i+1) G1).bind _).bind _=_;rw[R.bind_assoc];rfl)
  have rS':RepS b S σ:=rS.mono K.ext;refine PySem.W.KatKeys.cons (wpAny_call (xO (ZK9 (E:=E0) cs hN hx hco hgen K.inv kb K.sim rS' ho hd hcr (hbind _) hr hfr (he s b.H) (d:=.int (i:Int)) (u:=.int (i:Int) tk) (v:=.int (i:Int)) ⟨tk,rfl⟩ rfl (Dj h1)) λq s' hq=>?_));cases q with
  |error e=>exact False.elim hq
  | ok fl=>
   cases fl with
   |next=>exact False.elim hq
   |brk=>exact False.elim hq
   |cont=>exact False.elim hq
   | ret u=>
    obtain⟨v',H',os,bare,un,hok,ru,b',d',G',rfl,x',sm',rd',_,h3⟩:=hq;have I2:Inv X pins σ b'.H s':=by obtain⟨hh,g1,d1,t1,os1⟩:=s';obtain rfl:os1=s.os:=os;exact K.inv.call (h':=hh) (g':=g1) (d':=d1) (t':=t1) (ch:=[]) un hok bare (λb z=>absurd z (by simp))
    have n2:=ZJe K.inv un K.ns;obtain⟨k2,fk2⟩:=ZCp K.inv un K.fk K.k;obtain⟨d2,fd2⟩:=ZCp K.inv un K.fd K.d;cases d' with
    | int z=>
     cases(show v'=V.int z from rd')
     obtain⟨tz,rfl⟩:=ru;refine⟨(kS,seqObj "list" ks.toArray e)::Att.ledger s'.heap X.env.locals kS,_,⟨n2,λb o e=>?_,?_⟩,λp hp=>?_,.head λp hp=>(Att.Gf (a:=p.1) (o:=p.2).mp hp).2.1,λh2 c F2 N2=>?_⟩
     ·rw[h0,Att.M3]at e;cases e
     ·rw[h0];exact qR _
     ·rcases zq.mp hp with rfl|hp
      ·exact⟨k2,fk2.2.1,by rw[h0];exact Att.M3 _ _⟩
      ·obtain⟨q1,q2,q3⟩:=(Att.Gf (a:=p.1) (o:=p.2)).mp hp;exact⟨q3,q1,by rw[h0];exact Att.M3 _ _⟩
     ·have keep:∀b o,b≠X.env.locals->b≠kS->s'.heap.get? b=vR o->h2.get? b=vR o:=λb o h1 h2' e=>(N2 (b,o) (zZ _ (Att.Gf.mpr ⟨h1,h2',e⟩))).1
      have new:=(N2 (kS,seqObj "list" (ks++[Value.int z tz]).toArray c) zV).1;have nsA:∀m',s'.heap.Ns X.env.locals m'->h2.Ns X.env.locals m':=λm' hm'=>by have e1:=n2.eq_nsMap;have e2:=hm'.eq_nsMap;rw[e2,<-e1];exact F2.ns
      have I3:=Wk I2 fk2 keep (λ_ _=>⟨_,new⟩) nsA;refine Ye cs hN hx hco hgen hk rS hp hd hc1 hc2 hc3 hbind hr hfr he h0 fin r (i+1) b' G' (ks++[Value.int z tz]) (kz++[z]) c _ ⟨I3,K.ext.trans x',sm',F2.ns,new,keep Dd _ fd2.2.1 K.ne d2,fk2,fd2,K.ne,K.dge,PyProof.Rows.ksk_snoc K.iz⟩ (by rw[zR]at hz;rw[qJ,jw];lia) (λt v hv'=>?_) ?_
      ·obtain⟨tk',e⟩:=hv (t+1) v (by simpa using hv');exact⟨tk',by rw[e];congr 1;lia⟩
      ·refine cast (congrArg (λz=>out E0 b' z Q) ?_) h3;show((Gj te caps S r.length (i+1) G').bind λzs G2=>g (kz++z::zs) G2)=_
       congr 1
       funext zs G2;simp
    |_=>exact h3.elim
end
end _D
namespace _D
open PySem PySem.Spec _L
open PyProof.Rows hiding St
open PySem.W (KatKeys KatFin katRev KatBack)
section
variable{prog:xj}{w:xC}{A:xK}{E:xB->xy->Prop}{s:xy}{h₀:Heap}{L a kS:xW}{m:Str->Option xB}{P:PySem.Fin->xy->Prop}
theorem ZHW{ks:List xB}{v:xB}{e e1:Nat}(hl:ks.length=1)(h:KatFin h₀ L m kS a ks e e1 [v] (λs3=>P (.done (.ret .none)) s3) s):vk (vK prog w) A (ksk_end a vT [v].toArray e1 (.ref kS) ks.toArray) P E s:=by
 obtain⟨k,rfl⟩:∃k,ks=[k]:=by
  match ks,hl with
  |[k],_=>exact⟨k,rfl⟩
 unfold ksk_end;dsimp only;refine vB (wpAny_rule ?_);have h2: [v].toArray.size<2:=by simp
 rw[if_pos h2,if_pos h2];refine vB (vL ?_);rw[StateT.run_pure];refine vB (vL ?_);dsimp only;exact PySem.W.kat_tail (b:=vT) (out:=[v]) (ks:=[k]) (by simp[arrOf]) (by simp) (by simp) rfl h
theorem ZHv{f v:xB}{n:Nat}(ho:s.heap.get? a=vR (seqObj "list" [v].toArray n))(hL:L<s.heap.objs.size)
  (h:∀kS e1 h',a<kS->s.heap.objs.size<=kS->h'.get? kS=vR (seqObj "list" #[] 0)->h'.get? a=vR (seqObj "list" #[] e1)->(∀b o,b≠a->s.heap.get? b=vR o->h'.get? b=vR o)->
   KatKeys prog w A h₀ L m kS f (λks e s'=>KatFin h₀ L m kS a ks e e1 [v] (λs4=>P (.done (.ret .none)) s4) s') [v] [] 0 {s with heap:=h'}):
  vk (vK prog w) A (ksk_tree a f vT) P E s:=by
 have ha:a<s.heap.objs.size:=zW ho;have s1:=qx.update s.heap a (Obj.mapSeq λ_=>(#[]:Array xB));obtain⟨e1,ho1⟩:∃e1,(s.heap.update a (Obj.mapSeq λ_=>(#[]:Array xB))).get? a=vR (seqObj "list" #[] e1):=⟨_,get?_update_seq ho λ_=> #[]⟩;unfold ksk_tree;refine vB (listItems_at ho rfl (vB (listUpdate_at ho rfl ?_ (by rw[zx,vq];simp) (qR _))))
 refine vB (seqEpoch_at ho1 rfl (vB (wpAny_newTuple (vB (wpAny_newList (vF ?_) (qR _))) (by show[v].length<=_;rw[vq];simp))));generalize hh:(s.heap.update a (Obj.mapSeq λ_=>(#[]:Array xB))).push {cls:=.type "tuple",data:=.seq [v].toArray.toList.toArray}=h2;have z2:h2.objs.size=s.heap.objs.size+1:=by rw[<-hh,size_push',Heap.size_update]
 have k2:∀b o,b≠a->s.heap.get? b=vR o->h2.get? b=vR o:=λb o hb q=>by rw[<-hh];exact zQ _ (s1.extBut b o hb q)
 have a2:h2.get? a=vR (seqObj "list" #[] e1):=by rw[<-hh];exact zQ _ ho1
 have hq:=h h2.objs.size e1 (h2.push (seqObj "list" #[] 0)) (by rw[z2];exact jy ha) (by rw[z2];exact qS _) (zj _ rfl) (zQ _ a2) λb o hb q=>zQ _ (k2 b o hb q)
 show vk _ _ _ _ _ {s with heap:=h2.push (seqObj "list" #[] 0)};unfold ksk_rest;refine vB (wpAny_rule ?_);rw[List.forIn_toArray,jB];have hq':vk (vK prog w) A (call f [v]) (KatBack h₀ L m h2.objs.size [] 0 (λk c s'=>KatFin h₀ L m h2.objs.size a [k] c e1 [v] (λs4=>P (.done (.ret .none)) s4) s')) (λ_ _=>False) {s with heap:=h2.push (seqObj "list" #[] 0)}:=hq;refine vB (vB (vB (wpAny_attempt (vG hq' (λk s'' hk=>?_) λ_ _ hF=>hF.elim))))
 obtain⟨news',g,F',N',U,c⟩:=hk;obtain⟨pre,post,e0,hg,x1,x2⟩:=U.split;rw[e0]at N';have nk:=N' (h2.objs.size,seqObj "list" (List.toArray []) 0) (zE _ (.head _))
 have s2:=qx.update s''.heap h2.objs.size (Obj.mapSeq (·.push k))
 obtain⟨c2,hc2⟩:∃c2,(s''.heap.update h2.objs.size (Obj.mapSeq (·.push k))).get? h2.objs.size=vR (seqObj "list" [k].toArray c2):=⟨_,get?_update_seq nk.1 (·.push k)⟩
 have fin:=c _ c2 (PySem.W.kas_fr F' s2 nk.2.1 nk.2.2) (by rw[hg];exact PySem.W.news_set N' x1 x2 s2 hc2);dsimp only;refine vB (listUpdate_at nk.1 rfl ?_ (qR _) (by show(#[].push k:Array xB).size<=_;rw[vq];simp));refine vL (vL ?_);refine vB (listItems_at hc2 rfl ?_);exact ZHW rfl fin
end
end _D
namespace _D
open PySem PySem.Spec _L
open PyProof.Rows hiding St
variable{k:Nat}{x:Str}
theorem Zq:∀{ks:List xB}{kz:List Int},IntsAre ks kz->∀i,i<kz.length->∃t,ks.getD i Value.none=.int (kz.getD i 0) t
 |_,_,.nil,i,h=>absurd h (jU _)
 |_,_,.cons n t r,0,_=>⟨t,rfl⟩
 |_,_,.cons n t r,i+1,h=>Zq r i (Nat.lt_of_succ_lt_succ h)
theorem ZCE:∀{ks ls:List xB}{kz lz:List Int},IntsAre ks kz->IntsAre ls lz->IntsAre (ks++ls) (kz++lz)
 |_,_,_,_,.nil,h=>h
 |_,_,_,_,.cons n t r,h=>.cons n t (ZCE r h)
theorem ZEw:∀{ks:List xB}{kz:List Int},IntsAre ks kz->IntsAre ks.reverse kz.reverse
 |_,_,.nil=>.nil
 |_,_,.cons n t r=>by rw[jZ,jZ];exact ZCE (ZEw r) (.cons n t .nil)
theorem Vals.rev:∀{vs:List V}{us:List xB},Vals vs us->Vals vs.reverse us.reverse
 |_,_,.nil=>.nil
 |_,_,.cons r rr=>by rw[jZ,jZ];exact(Vals.rev rr).append (.cons r .nil)
theorem ZEl{a:Wd}:∀(n i:Nat),Reps a (Bd i n) ((List.range' i n).map λ(k:Nat)=>V.int (k:Int))
 |0,i=>rfl
 |n+1,i=>by rw[List.range'_succ,zA,Je];exact⟨_,_,rfl,rfl,by have:=ZEl (a:=a) n (i+1);simpa using this⟩
section
variable{X:Cx}{pins:List (xW×Obj)}{σ:St}{N:List Str}{scope:xk}{caps:List Nat}{x:Str}{f:xW}{A:xK}{a:Wd}{S:DSt}{body:xY}{te:DE}{params:Arguments}{pm ctv:xB}{c':xW}{ob oc:Obj}{vs0:Array xB}{t0:Tok}
 {Dd kS:xW} {e1:Nat} {m:Str->Option xB} {h₀:Heap} {Q:VK}
theorem ZDS{b:Wd}{G:DH}{ks:List xB}{kz:List Int}{e:Nat}{s:xy}{ys:List D}{ws:List V}{us:List xB}(K:KS X pins σ Dd kS e1 m a b G ks kz e s)(h0:h₀=Att.Js h₀)(r:Reps b ys ws)(v:Vals ws us)(hz:us.length<64)
  (h:out E0 b (.ok (.ref G.length) (G++[.lst ys])) Q):PySem.W.KatFin h₀ X.env.locals m kS Dd ks e e1 us (λs4=>EP X pins σ Q (.ref Dd) s4) s:=by
 have g0:∀b,h₀.get? b=vS:=λb=>by rw[h0];exact Att.M3 _ _
 have ab:h₀.objs.size<=X.env.locals:=by rw[h0];exact qR _
 refine PySem.W.KatFin.intro (news:=(kS,seqObj "list" ks.toArray e)::Att.ledger s.heap X.env.locals kS) ⟨K.ns,λb o e=>(by rw[g0]at e;cases e),ab⟩ (λp hp=>?_) (.head λp hp=>((Att.Gf (a:=p.1) (o:=p.2)).mp hp).2.1) λh2 c F2 N2=>?_
 ·rcases zq.mp hp with rfl|hp
  ·exact⟨K.k,K.fk.2.1,g0 _⟩
  ·obtain⟨q1,q2,q3⟩:=(Att.Gf (a:=p.1) (o:=p.2)).mp hp;exact⟨q3,q1,g0 _⟩
 have nsOf:∀{h3:Heap},h3.Ns X.env.locals m->∀m',s.heap.Ns X.env.locals m'->h3.Ns X.env.locals m':=λ{h3}hh m' hm'=>by have e1:=K.ns.eq_nsMap;have e2:=hm'.eq_nsMap;rw[e2,<-e1];exact hh
 have keep2:∀b o,b≠X.env.locals->b≠kS->s.heap.get? b=vR o->h2.get? b=vR o:=λb o q1 q2 e=>(N2 (b,o) (zZ _ (Att.Gf.mpr ⟨q1,q2,e⟩))).1
 have new2:=(N2 (kS,seqObj "list" #[] c) zV).1;have I2:=Wk K.inv K.fk keep2 (λ_ _=>⟨_,new2⟩) (nsOf F2.ns);have d2:=keep2 Dd _ K.fd.2.1 K.ne K.d;refine PySem.W.KasFin.intro (news:=(Dd,seqObj "list" #[] e1)::Att.ledger h2 X.env.locals Dd) F2 (λp hp=>?_) (.head λp hp=>((Att.Gf (a:=p.1) (o:=p.2)).mp hp).2.1) λh3 c3 F3 N3=>?_
 ·rcases zq.mp hp with rfl|hp
  ·exact⟨d2,K.fd.2.1,g0 _⟩
  ·obtain⟨q1,q2,q3⟩:=(Att.Gf (a:=p.1) (o:=p.2)).mp hp;exact⟨q3,q1,g0 _⟩
 have keep3:∀b o,b≠X.env.locals->b≠Dd->h2.get? b=vR o->h3.get? b=vR o:=λb o q1 q2 e=>(N3 (b,o) (zZ _ (Att.Gf.mpr ⟨q1,q2,e⟩))).1
 have new3:=(N3 (Dd,PySem.W.listOf us.toArray c3) zV).1;have ns3:∀m',h2.Ns X.env.locals m'->h3.Ns X.env.locals m':=λm' hm'=>by have e1:=F2.ns.eq_nsMap;have e2:=hm'.eq_nsMap;rw[e2,<-e1];exact F3.ns
 have I3:=Wk I2 K.fd keep3 (λ_ _=>⟨_,new3⟩) ns3;have hge:X.s₀.heap.objs.size<=Dd∨Dd∈X.ex:=K.fd.2.2.2.1.symm;have hge':X.s₀.heap.objs.size<=Dd:=by
  rcases hge with z|z
  ·exact z
  ·exact K.dge
 exact⟨.ref Dd,_,Yh I3 K.fd.1 hge' K.fd.2.1 K.fd.2.2.2.2.1 K.fd.2.2.2.2.2 (o:=.lst ws) ⟨by rw[v.length,vq];lia,us,c3,v,new3⟩,rfl,Nf K.sim r h _ K.fd.1⟩
end
section
variable{X:Cx}{pins:List (xW×Obj)}{σ:St}{N:List Str}{scope:xk}{caps:List Nat}{x:Str}{f:xW}{A:xK}{a:Wd}{S:DSt}{body:xY}{te:DE}{params:Arguments}{pm ctv:xB}{c':xW}{ob oc:Obj}{vs0:Array xB}{t0:Tok}{Q:VK}
theorem ZA8{n:Nat}{vs:List xB}(v:Vals ((zJ n).map λ(i:Nat)=>V.int (i:Int)) vs)(t:Nat)(u:xB)(h:vs[t]?=vR u):∃tk,u=Value.int ((0+t:Nat):Int) tk:=by
 have hl:vs.length=n:=by have:=v.length;simpa using this.symm
 have ht:t<n:=by rw[<-hl];exact(zk.mp h).1
 obtain⟨u',hu,r⟩:=v.get (i:=t) (x:=V.int (t:Int)) (by rw[zC,qq ht];rfl);rw[h]at hu;cases hu;obtain⟨tk,rfl⟩:=r;exact⟨tk,by simp⟩
theorem ZHf(cs:CompSc X N scope 1 caps)(hN:N[0]?=vR x)(hx:scope.names.lookup x=vR .local)(hco:scope.isCoroutine=vU)(hgen:scope.isGenerator=vU)(hk:a.K=X.K)(rS:RepS a S σ)(hp:(f,ob)∈pins)
  (hd:ob.data=.func (PySem.W.kla_fn "<lambda>" Cy params body scope (Ck X.env scope.names []) pm (.ref c') ctv)) (hc1:a.H c'=vR (.frz oc (.own 0))) (hc2:oc.data=.fields vs0) (hc3:vs0[1]?=vR (.str Cy t0))
  (hbind:∀u,bindArgs (PySem.W.kla_fn "<lambda>" Cy params body scope (Ck X.env scope.names []) pm (.ref c') ctv) ⟨[u],[]⟩=pure [(x,u)])
  {k:Nat} (hr:Room (k+1) A) (hfr:A.frames=vR X.stack) (he:∀s H,Room k (A.deeper (Ly X Cy scope f (.ref c') s.heap.objs.size))->QE (Ml X N Cy scope f (.ref c') A s H) E0 body te)
  {s:xy} {h1:Heap} {tk n:Nat} {Dd:xW} {vs:List xB} {G:DH} (I:Inv X pins σ a.H s) (sm:Sim a G) (hD:s.heap.objs.size<=Dd) (oD:h1.get? Dd=vR (seqObj "list" vs.toArray 0)) (k1:∀b o,s.heap.get? b=vR o->h1.get? b=vR o) (v:Vals ((zJ n).map λ(i:Nat)=>V.int (i:Int)) vs) (n1:1<=n) (n64:n<64)
  (h:out E0 a ((Gj te caps S n 0 G).bind λks G2=>.ok (.ref G2.length) (G2++[.lst (Eu ks)])) Q) {E:xB->xy->Prop}:
  vk (vK X.prog X.w) A (ksk_tree Dd (.ref f) vT) (λfin s'=>fin=PySem.Fin.done (.ret .none)/\EP X pins σ Q (.ref Dd) s') E {s with heap:=h1,toks:=tk}:=by
 have hl:vs.length=n:=by have:=v.length;simpa using this.symm
 obtain⟨m,hn,_⟩:=id I.loc;have hns1:h1.Ns X.env.locals m:=hn.keeps k1;have fD:FpOk X pins a.H Dd:=I.I8 hD (I.hok.fresh hD);have dge:X.s₀.heap.objs.size<=Dd:=z0 I.sz hD;have nsOf:∀{h3:Heap},h3.Ns X.env.locals m->∀m',s.heap.Ns X.env.locals m'->h3.Ns X.env.locals m':=λ{h3}hh m' hm'=>by have e1:=hn.eq_nsMap;have e2:=hm'.eq_nsMap;rw[e2,<-e1];exact hh
 have rg:∀b:Wd,Reps b (Bd 0 n) ((zJ n).map λ(i:Nat)=>V.int (i:Int)):=λb=>by have:=ZEl (a:=b) n 0;rw[<-List.range_eq_range']at this;exact this
 have start:∀kS e1 h',s.heap.objs.size<=kS->Dd≠kS->h'.get? kS=vR (seqObj "list" #[] 0)->h'.get? Dd=vR (seqObj "list" #[] e1)->(∀b o,b≠X.env.locals->s.heap.get? b=vR o->h'.get? b=vR o)->h'.Ns X.env.locals m->
   KS X pins σ Dd kS e1 m a a G [] [] 0 {s with heap:=h',toks:=tk}:=λkS e1 h' q1 q2 q3 q4 q5 q6=>
  ⟨ZGj I q5 (nsOf q6),Ext.refl a,sm,q6,q3,q4,I.I8 q1 (I.hok.fresh q1),fD,q2,dge,.nil⟩
 have old:∀b o,s.heap.get? b=vR o->b≠Dd:=λb o e=>zF (zX (zW e) hD)
 have h':out E0 a ((Gj te caps S vs.length 0 G).bind λzs G2=>(λks G2=>R.ok (D.ref (xJ G2)) (G2++[DO.lst (Eu ks)])) ([]++zs) G2) Q:=by rw[hl];exact h
 by_cases hn2:n<2
 ·have hn1:n=1:=by lia
  subst hn1;obtain⟨u,rfl⟩:∃u,vs=[u]:=by
   match vs,hl with
   |[u],_=>exact⟨u,rfl⟩
  refine ZHv (h₀:=Att.Js h1) (m:=m) (L:=X.env.locals) oD hns1.lt λkS e1 h2 q1 q2 q3 q4 q5=>?_
  refine Ye (Q:=Q) (n0:=1) (g:=λks G2=>R.ok (D.ref (xJ G2)) (G2++[DO.lst (Eu ks)])) cs hN hx hco hgen hk rS hp hd hc1 hc2 hc3 hbind hr hfr he rfl (λb G2 ks kz e s2 K hkl hq=>?_) [u] 0 a G [] [] 0 _
   (start kS e1 h2 (z0 hD (j5 q1)) (zF q1) q3 q4 (λb o _ e=>q5 b o (old b o e) (k1 b o e)) (hns1.at λo e=>q5 _ o (Ne.symm fD.2.1) e)) rfl (ZA8 v) h'
  have es:Eu kz=Bd 0 1:=by unfold Eu;rw[hkl,if_pos (by decide)]
  rw[es]at hq;have:=ZDS (Q:=Q) (h₀:=Att.Js h1) K rfl (rg b) v (by simp) hq;exact this.mono λs4 z=>⟨rfl,z⟩
 ·have hl2:2<=vs.length:=by lia
  refine PySem.W.kat_keyed (s:={s with heap:=h1,toks:=tk}) (Att.ZLO hns1) (news:=Att.ledger h1 X.env.locals Dd) ?_ oD fD.2.1 (Att.M3 _ _) (λ⟨_,_⟩ hp=>(Att.Gf.mp hp).2.1) hl2 (by lia) λkS e1 h2 F2 N2 q1 q2=>?_
  ·rintro⟨b,o⟩ hp;obtain⟨n1,n2,e⟩:=Att.Gf.mp hp;exact⟨e,n1,Att.M3 _ _⟩
  have hL:X.env.locals<s.heap.objs.size:=I.lt;have K0:=start kS e1 h2 (z0 hD (j5 q1)) (zF q1) (N2 _ zV).1 (N2 _ (zZ _ zV)).1 (λb o hb e=>(N2 (b,o) (zZ _ (zZ _ (Att.Gf.mpr ⟨hb,old b o e,k1 b o e⟩)))).1) F2.ns;refine Ye (Q:=Q) (n0:=n) (g:=λks G2=>R.ok (D.ref (xJ G2)) (G2++[DO.lst (Eu ks)])) cs hN hx hco hgen hk rS hp hd hc1 hc2 hc3 hbind hr hfr he rfl (λb G2 ks kz e s2 K hkl hq=>?_) vs 0 a G [] [] 0 _ K0 (by simpa using hl) (ZA8 v) h'
  have hks:ks.length=n:=by rw[K.iz.length];exact hkl
  have es:Eu kz=((Hl (ltK kz.reverse) (PySem.W.kas_sort n)).toList.map λi=>(Bd 0 n).reverse.getD i .non).reverse:=by unfold Eu;rw[hkl,if_neg hn2]
  rw[es]at hq;rw[PyProof.Rows.ksk_kind (keys:=ks.toArray) (kz:=kz) K.iz (by rw[zx,hks];lia)];refine vL ?_;rw[hl];have hpos:0<n:=by lia
  refine ZAu (lt:=ltK kz.reverse) (λi j hi hj C hC=>?_) (Zv hpos) ?_
  ·unfold PySem.W.kas_ask PySem.W.katRev;rw[if_pos rfl];have rz:=ZEw K.iz;obtain⟨t1,e1⟩:=Zq rz i (by simpa[hkl]using hi);obtain⟨t2,e2⟩:=Zq rz j (by simpa[hkl]using hj);rw[e1,e2];exact PySem.W.kat_lt_int hC
  ·have hen:Ents n (Hl (ltK kz.reverse) (PySem.W.kas_sort n)):=W9 (Zv hpos);have hin:∀i∈(Hl (ltK kz.reverse) (PySem.W.kas_sort n)).toList,i<n:=λi hi=>hen.lt (by simpa using hi)
   have hsz:(Hl (ltK kz.reverse) (PySem.W.kas_sort n)).size=n:=by have:=hen.2.size_eq;simpa using this
   unfold PySem.W.katRev;rw[if_pos rfl,if_pos rfl];have:=ZDS (Q:=Q) (h₀:=Att.Js h1) K rfl (Reps.rev (ZDW (rg b).rev _ λi hi=>by simpa[Bd]using hin i hi)) (Vals.rev (ZA3 (Vals.rev v) _ λi hi=>by simpa using hin i hi)) (by simpa[hsz]using n64) hq;exact this.mono λs4 z=>⟨rfl,z⟩
end
section
open Classical in
def Sq(C m:Str)(tn:DA)(caps:List Nat)(te:DE):DE:=λS G=>(tn S G).bind λds G1=>match ds with
 |[.int j]=>if(1<=j/\j<64)/\DO.tab C m∈G1 then(Gj te caps S j.toNat 0 G1).bind λks G2=>.ok (.ref G2.length) (G2++[.lst (Eu ks)])else .bad
 |_=>.bad
section
variable{X:Cx}{N:List Str}{scope:xk}{caps:List Nat}{x:Str}{body:xY}{te:DE}{params:Arguments}{e:xY}{tn:DA}{p p' pos pos' lp kp kp' cp:Pos}{C m:Str}{cj:Nat}
theorem ZIe(hc:X.calm=vT)(hg:Gl X "sorted")(hm:X.mg "sorted"=vS)(hg2:Gl X "range")(hm2:X.mg "range"=vS)(ha:QA X E0 [e] tn)(cs:CompSc X N scope 1 caps)(hN:N[0]?=vR x)(hx:scope.names.lookup x=vR .local)(hco:scope.isCoroutine=vU)(hgen:scope.isGenerator=vU)
  (hbind:∀(cl:List (Str×xW))(pm ctv:xB)(c':xW)(u:xB),bindArgs (PySem.W.kla_fn "<lambda>" Cy params body scope cl pm (.ref c') ctv) ⟨[u],[]⟩=pure [(x,u)])
  (hq:X.env.qual++"<lambda>"=Cy) (hdef:defaultsOf params X.env=([],[])) (B:BMd X.base X.mg) (hcode:∀c P,TabAt X.K C m c P->X.env.code=.ref c) (hr:Room (k+3) X.A)
  (he:∀f c' A s H,Room k (A.deeper (Ly X Cy scope f (.ref c') s.heap.objs.size))->QE (Ml X N Cy scope f (.ref c') A s H) E0 body te)
  (hs:vj [e] X.env=[(vU,eval e X.env)]:=by rfl) (hs2:vj [.Call (.Name "range" p') [e] [] pos'] X.env=[(vU,eval (.Call (.Name "range" p') [e] [] pos') X.env)]:=by rfl):
  QE X E0 (.Call (.Name "sorted" p) [.Call (.Name "range" p') [e] [] pos'] [⟨vR "key",.Lambda params body scope lp,kp⟩,⟨vR "reverse",.Constant (.bool vT) cj cp,kp'⟩] pos) (Sq C m tn caps te):=by
 intro pins s σ H Q I h;obtain⟨a,S,G,hk,rfl,sm,r,h⟩:=h;refine vA (Il I hg hm ZFt (ZGu rfl ?_ (by rw[hs2];rfl) rfl hs2));rw[hs2];refine Calls.spliced_cons (Call_ (Il I hg2 hm2 PyProof.Rows.boot_range (PyProof.Rows.callWith_type1 (thn (ha pos' pins s σ a.H _ I ⟨a,S,G,hk,rfl,sm,r,(Kh h).imp λ_ _ z=>z⟩) λus s1 ⟨vs,H1,I1,r1,q1⟩=>?_) hs rfl)));obtain⟨b,ds,G1,rfl,x1,sm1,rd,-,h1⟩:=q1;split at h1
 rotate_left
 ·exact h1.elim
 rename_i j;split at h1
 rotate_left
 ·exact h1.elim
 rename_i hj;obtain⟨⟨j1,j2⟩,hmem⟩:=hj;obtain⟨v,rfl,rv⟩:=reps1 rd
 cases(show v=V.int j from rv)
 obtain⟨u,rfl,ru⟩:=r1.one;obtain⟨t,rfl⟩:=ru;refine call_range_1 (Calls.spliced_nil ?_)
 have hsz:Builtin.Range.rangeSize 0 j 1=(j.toNat:Int):=by rw[rangeSize_one];split <;> lia
 have kb:b.K=X.K:=x1.k.trans hk;have I2:=I1.kept (t':=s1.toks+1+1) (h':=s1.heap.push {cls:=.type "range",data:=.fields #[.int 0 s1.toks,.int j t,.int 1 (s1.toks+1)]}) λb o e=>zQ _ e
 have hro:=IsRange.new s1.heap 0 j 1 s1.toks t (s1.toks+1);generalize hrO:({cls:=.type "range",data:=.fields #[.int 0 s1.toks,.int j t,.int 1 (s1.toks+1)]}:Obj)=ro at*;have I3:Inv X ((s1.heap.objs.size,ro)::pins) σ b.H {s1 with heap:=s1.heap.push ro,toks:=s1.toks+1+1}:=I2.Gs λp hp=>by
  rcases zq.mp hp with rfl|hp
  ·exact⟨by rw[<-hrO];exact zj _ rfl,I1.hok.fresh (zK _),qy I1.lt,I1.nofs (zK _),λv z=>by rw[<-hrO]at z;cases z⟩
  ·exact I2.pin p (zE _ hp)
 obtain⟨ti,hti⟩:=List.getElem?_of_mem hmem;obtain⟨c,P,ta,tok⟩:=sm1.obj ti _ hti;rw[kb]at ta;have ecode:=hcode c P ta;have ehd:PySem.W.codeHdIn X.K c P=vT:=by obtain⟨_,_,_,_,_,_,_,_,_,_,z⟩:=ta;exact z
 refine wpAny_evalAll_cons (vB (ZKh (pos:=lp) I3 (Zi (cs.cells I3.ok)) ecode ehd tok B hq hdef λb2 f c' ctv ob oc vs0 t0 s2 x2 sm2 I4 hob hc1 hc2 hc3=>vB (wpAny_standAt (vL ?_))));have sm2':=sm2 G1 sm1;refine wpAny_evalAll_cons (vB (thn (Ma (X:=X) (E:=E0) (i:=vT) (j:=cj) (pos:=cp) _ s2 σ b2.H (λv H'=>v=.bl vT/\∃b3:Wd,b3.H=H'/\Ext b2 b3/\Sim b3 G1) I4 ⟨b2,S,G1,x2.k.trans kb,rfl,sm2',(r.mono x1).mono x2,λb3 v x3 s3 r3=>⟨r3,b3,rfl,x3,s3⟩⟩) λu3 s3 h3=>vB (wpAny_standAt (vL (wpAny_evalAll_nil ?_)))))
 obtain⟨v3,H3,I5,ru3,rfl,b3,rfl,x3,sm3⟩:=h3;obtain rfl:u3=Value.bool vT:=ru3;have rng:IsRange s3.heap s1.heap.objs.size 0 j 1 s1.toks t (s1.toks+1):=by have:=(I5.pin (s1.heap.objs.size,ro) (zE _ (by simp))).1;rw[<-hrO]at this;exact this
 show vk _ X.A (call (.builtin "sorted") [.ref s1.heap.objs.size] [("key",.ref f),("reverse",.bool vT)]) _ _ s3;refine ZLn (I.ok.hd hc) rng (small_one (by decide) (by decide) (by lia) (by lia)) hsz (by lia) λD h1' tk vs hD oD k1 vv=>?_
 refine vG (ZHf (pins:=(f,ob)::(s1.heap.objs.size,ro)::pins) cs hN hx hco hgen (x3.k.trans (x2.k.trans kb)) (((r.mono x1).mono x2).mono x3) zV hob (x3.frz _ _ _ hc1) hc2 hc3 (λu=>hbind _ _ _ _ u) hr.in1.in1 I5.ok.frames (λs' H'=>he f c' X.A.in1.in1 s' H') I5 sm3 hD oD k1 vv (by lia) (by lia) (h1.mono (x2.trans x3))) (λfin s4 hf=>⟨hf.1,?_⟩) λ_ _ z=>z
 obtain⟨v4,H4,I6,r4,q4⟩:=hf.2;exact⟨v4,H4,I6.Gs λp hp=>I6.pin p (zE _ (zZ _ (zZ _ hp))),r4,q4⟩
end
theorem ZK6{P:xj}{w:xC}{K:PySem.W.Frag}{mg:Str->Option xB}{base:Heap}{qual:Str}{st:xA}{f:xW}{fd:xq}{N ps:List Str}{b:DS}(F:Fun K x qual st f fd)(S:FnScope N ps (Ao st))
  (hbody:∀(cdv:xB)(A:xK)(outer:List Env)(s:xy)(H:Hp)(E:XK),fd.code=cdv->Room k (A.deeper (envOfC qual (Ao st) s.heap.objs.size f cdv))->QSs (Dy CX0 P w K mg base N qual (Ao st) f cdv A outer s H E).nox E0 (Dv st) b):
  FnOk P w K mg base CX0 (k+1) f fd ps (lF K (Be ps.length (N.length-ps.length) b)):=by
 have hlen:∀vs H Q E,lF K (Be ps.length (N.length-ps.length) b) vs H Q E->vs.length=ps.length:=λvs H Q E h=>by
  obtain⟨a,G,ds,hk,rfl,sm,r,h⟩:=h;unfold Be at h;split at h
  ·rename_i hl;rw[<-r.length];exact hl
  ·exact h.elim
 obtain⟨oc,od,kV,doc,pm,an,cdv,ct,osl,rfl,lk,hcd⟩:=F.ex;refine Zu lk hcd S hlen λA outer s H vs Q E hr h=>⟨lS K E0 b,PSs.nox (hbody cdv A outer s H E rfl hr),?_⟩
 have hl:=hlen vs H Q E h;obtain⟨a,G,ds,hk,rfl,sm,r,h⟩:=h;unfold Be at h;split at h
 ·have h2:=Ph sm h;refine⟨a,ds.map vR++zv (N.length-ps.length) vS,G,hk,rfl,sm,Tq r _ _ (by rw[hl]),?_⟩
  revert h2
  cases b (ds.map vR++zv (N.length-ps.length) vS) G with
  |nx S1 G1=>exact λh2 c σ x s1 _=>h2 c .non x s1 rfl
  |rt d G1=>exact λh2=>h2
  |err e G1=>exact λh2=>h2
  |bk S1 G1=>exact λh2=>h2.elim
  |ct S1 G1=>exact λh2=>h2.elim
  |bad=>exact λh2=>h2
 ·exact h.elim
end
def OnlyT(T:xW)(H:Hp):Prop:=∀b,H b=vS∨(∃o xs,H b=vR (.frz o (.lst xs)))∨(b=T/\H b=vR (.tbl #[]))
theorem ZLr{P:xj}{w:xC}{K:PySem.W.Frag}{mg mb:Str->Option xB}{fa a T c:xW}{fd:xq}{sp:Sp}{s₁:xy}{vs:List xB}{ns:List Int}
  (KX:K.In s₁.heap) (hns:s₁.heap.Ns vW mg) (hb:s₁.heap.Ns builtinsNs mb) (hbb:∀x:Str,x≠"__name__"->mb x=xL x) (hlim:s₁.heap.NoLimit) (hg:s₁.gens= #[]) (bm:BMd s₁.heap mg)
  (ha:s₁.heap.get? a=vR {cls:=.type "list",data:=.seq vs.toArray}) (hi:IntsAre vs ns) (hl:ns.length<=sizeLine) (hr:Room k callerA)
  (hT:s₁.heap.get? T=vR (PySem.W.tabObj #[])) (hC:PySem.W.codeHdIn K c T=vT) (hK:PySem.W.noTabs K=vT)
  (F:∀base:Heap,K.In base->base.Ns vW mg->BMd base mg->FnOk P w K mg base CX0 k fa fd [x] sp) (hbind:∀(s:xy)(u:xB),BindsTo s fd ⟨[u],[]⟩ [(x,u)])
  (hsp:∀H:Hp,OnlyT T H->H T=vR (.tbl #[])->SqL K H a (ns.map V.int)->sp [.ref a] H (λv _=>v=.bl vT) λ_ _ _=>False):
  codeAny (vK P w) callerA (.call (.ref fa) ⟨[.ref a],[]⟩) (λr s'=>r=.ok (.ret (.bool vT))/\OldK s₁.heap s'.heap/\s'.os=s₁.os/\AllBare s'.gens) s₁:=by
 have rv:=_L.R5 hi;have lenV:=hi.length;have hKT:K.lookup T=vS:=by
  cases q:K.lookup T with
  |none=>rfl
  |some o=>
   have e:=KX T o q;rw[hT]at e;cases e;have h2:=j6.mp hK (T,PySem.W.tabObj #[]) (PySem.W.mem_of_lookupK q)
   exact absurd (show vU=vT from h2) zy
 have haT:a≠T:=λz=>by rw[z,hT]at ha;cases ha
 have core:∀H:Hp,OnlyT T H->H T=vR (.tbl #[])->SqL K H a (ns.map V.int)->HOk P w H s₁.heap->(∀b,H b≠vS->b=a∨b=T)->(H a≠vS->K.lookup a=vS)->
   codeAny (vK P w) callerA (.call (.ref fa) ⟨[.ref a],[]⟩) (λr s'=>r=.ok (.ret (.bool vT))/\OldK s₁.heap s'.heap/\s'.os=s₁.os/\AllBare s'.gens) s₁:=by
  intro H hO hHT hS hok hA hKa;have base_of:∀{b:xW}{o:Obj},s₁.heap.get? b=vR o->H b=vS->(Ho s₁.heap H).get? b=vR o:=λe n=>ZFN e n
  have noA:∀{b:xW}{o:Obj},s₁.heap.get? b=vR o->(∀us n,o.data≠ .seq us n)->(∀us,o.data≠ .fields us)->H b=vS:=λ{b o}e d1 d2=>by
   cases q:H b with
   |none=>rfl
   |some u=>
    rcases hA b (by rw[q];simp)with e'|e'
    ·subst e';rw[ha]at e;cases e;exact absurd rfl (d1 _ _)
    ·subst e';rw[hT]at e;cases e;exact absurd rfl (d2 _)
  have nsK:∀{b:xW}{m:Str->Option xB},s₁.heap.Ns b m->(Ho s₁.heap H).Ns b m:=λ{b m}⟨o,es,ep,e,d,r⟩=>⟨o,es,ep,base_of e (noA e (λ_ _ z=>by rw[d]at z;cases z) λ_ z=>by rw[d]at z;cases z),d,r⟩
  have hKb:K.In (Ho s₁.heap H):=λb o e=>base_of (KX b o e) (by
   cases q:H b with
   |none=>rfl
   |some u=>
    rcases hA b (by rw[q];simp)with e'|e'
    ·subst e';rw[hKa (by rw[q];simp)]at e;cases e
    ·subst e';rw[hKT]at e;cases e)
  have hM:Mod K mg (Ho s₁.heap H):=⟨hKb,nsK hns,⟨mb,nsK hb,hbb⟩,let⟨mc,h1,h2⟩:=hlim;⟨mc,nsK h1,h2⟩⟩;have hB:BMd (Ho s₁.heap H) mg:=by obtain⟨m1,ob,b1,b2,b3,b4,b5,b6⟩:=bm;exact⟨m1,ob,b1,b2,base_of b3 (noA b3 (λ_ _ z=>by rw[b6]at z;cases z) λ_ z=>by rw[b6]at z;cases z),b4,b5,b6⟩
  have e0:Env0 P w K mg (Ho s₁.heap H) callerA [] s₁ H:=⟨rfl,hM,λb o e=>ZI0 e,Nat.le_of_eq (ZI8 _ _),trivial,λb hb=>absurd (show b∈([]:List xW)from hb) (by simp),hok,.of_eq hg⟩
  refine xO ((F _ hKb (nsK hns) hB).run callerA [] s₁ H ⟨[.ref a],[]⟩ [.ref a] [.ref a] _ _ hr e0 (hbind s₁ (.ref a)) (.cons rfl .nil) (hsp H hO hHT hS)) λr s' h=>?_
  cases r with
  |error e=>exact False.elim h
  | ok fl=>
   cases fl with
   |next=>exact False.elim h
   |brk=>exact False.elim h
   |cont=>exact False.elim h
   | ret u=>
    obtain⟨v,H',os,bare,un,hok',r',q⟩:=h;have q':v=.bl vT:=q;subst q';obtain rfl:u=Value.bool vT:=r';refine⟨rfl,⟨λb o e=>?_,λb o e=>un.there b o e (by simp)⟩,os,bare⟩;cases q:H b with
    |none=>exact .inl (un.keep b o e q (by intro z;exact absurd (show b∈([]:List xW)from z) (by simp)) (by simp))
    |some u=>
     rcases hO b with z|⟨ob,xs,z⟩|⟨rfl,z⟩
     ·rw[q]at z;cases z
     ·have z2:=un.frzs b ob _ z;obtain⟨e1,_⟩:=hok b _ z;obtain⟨e2,_⟩:=hok' b _ z2;rw[e]at e1;cases e1;exact .inl e2
     ·obtain⟨more,z2⟩:=un.tbls b _ z;have e2:s'.heap.get? b=vR (PySem.W.tabObj (#[]++more)):=hok' b _ z2;rw[hT]at e;cases e;exact .inr (.inl ⟨((PySem.W.codeHd_of_K KX hC).tab hT).isCodeTable,rfl,#[],more,rfl,e2⟩)
 cases hk:K.lookup a with
 | some o=>
  have e:=KX a o hk;rw[ha]at e;cases e;refine core (λb=>if b=T then vR (.tbl #[])else vS) (λb=>?_) (if_pos rfl) (.inr ⟨_,vs.toArray,_,hk,rfl,rfl,rfl,by rw[zx,lenV];exact hl,by simpa using rv⟩) (λb u z=>?_) (λb z=>?_) λz=>absurd (if_neg haT) z
  ·by_cases hb:b=T
   ·exact .inr (.inr ⟨hb,if_pos hb⟩)
   ·exact .inl (if_neg hb)
  ·by_cases hb:b=T
   ·have z':=(if_pos hb).symm.trans z;cases z';subst hb;exact hT
   ·have z':=(if_neg hb).symm.trans z;cases z'
  ·by_cases hb:b=T
   ·exact .inr hb
   ·exact absurd (if_neg hb) z
 | none=>
  refine core (λb=>if b=T then vR (.tbl #[])else if b=a then vR (.frz {cls:=.type "list",data:=.seq vs.toArray} (.lst (ns.map V.int)))else vS) (λb=>?_) (if_pos rfl) (.inl (.inr ⟨{cls:=.type "list",data:=.seq vs.toArray},(if_neg haT).trans (if_pos rfl)⟩)) (λb u z=>?_) (λb z=>?_) λ_=>hk
  ·by_cases hb:b=T
   ·exact .inr (.inr ⟨hb,if_pos hb⟩)
   ·by_cases hb2:b=a
    ·exact .inr (.inl ⟨_,_,(if_neg hb).trans (if_pos hb2)⟩)
    ·exact .inl ((if_neg hb).trans (if_neg hb2))
  ·by_cases hb:b=T
   ·have z':=(if_pos hb).symm.trans z;cases z';subst hb;exact hT
   ·by_cases hb2:b=a
    ·have z':=((if_neg hb).trans (if_pos hb2)).symm.trans z;cases z';subst hb2;exact⟨ha,by rw[zO];exact hl,vs,_,rv,ha⟩
    ·have z':=((if_neg hb).trans (if_neg hb2)).symm.trans z;cases z'
  ·by_cases hb:b=T
   ·exact .inr hb
   ·by_cases hb2:b=a
    ·exact .inl hb2
    ·exact absurd ((if_neg hb).trans (if_neg hb2)) z
theorem ZLX{l:PySem.W.OpenLaw}{n:Nat}{q:xj}{loose:List Str}{XP:(Str->Option xB)->Heap->Prop}{YP:xC->Heap->Prop}{d:DefRec}{K:xC->PySem.W.Frag}{sp:xC->Sp}{T:xC->xW}
  (hn:l.most=vR n) (hn2:n<=sizeLine) (hdf:d.params.defaults=[]) (hr:Room k callerA)
  (hY:∀(w:xC)(h:Heap),YP w h->(K w).In h/\h.get? (T w)=vR (PySem.W.tabObj #[]))
  (F:∀(w:xC)(mg:Str->Option xB)(fa:xW)(h:Heap),(K w).In h->h.Ns vW mg->mg d.name=vR (.ref fa)->
   ∃(fd:xq)(c:xW),(∀(s:xy)(u:xB),BindsTo s fd ⟨[u],[]⟩ [(x,u)])/\PySem.W.codeHdIn (K w) c (T w)=vT/\PySem.W.noTabs (K w)=vT/\
    (∀(H:Hp)(a:xW)(ns:List Int),ns.length<=n->OnlyT (T w) H->H (T w)=vR (.tbl #[])->SqL (K w) H a (ns.map V.int)->sp w [.ref a] H (λv _=>v=.bl vT) λ_ _ _=>False)/\
    ∀base:Heap,(K w).In base->base.Ns vW mg->BMd base mg->FnOk l.prog w (K w) mg base CX0 k fa fd [x] (sp w)):
  PySem.W.WalkO q loose XP YP l.row.toRowW d [] (λf vs=>PySem.call f vs):=by
 refine Att.ZLj hn hdf λw s₀ s₁ mg mb fa o pm cd doc a vs ns G Y ho hd hcd hmg hobj hints hlen hg=>?_
 obtain⟨KX,hT⟩:=hY w _ Y;obtain⟨fd,c,hb,hC,hK,hsp,hF⟩:=F w mg fa _ KX G.T.g hmg;have bm:BMd s₁.heap mg:=by obtain⟨bm,ob,b1,b2,b3,b4,b5,b6⟩:=G.T.bmain;exact⟨bm,ob,b1,b2,b3,b4,b5,b6⟩
 exact ZLr KX G.T.g G.T.b G.T.builtins G.T.nolimit hg bm hobj hints (z0 hlen hn2) hr hT hC hK hF hb λH h1 h2 h3=>hsp H a ns hlen h1 h2 h3
end _D
namespace _D
open PySem PySem.W _L
variable{h:Heap}{C f:xW}{m x q:Str}{st:xA}
noncomputable def Ir:List Obj->Nat->vO
 |[],_=>[]
 |o::r,n=>match o.cls,o.data with
  |.none,.fields _=>Ir r (n+1)
  |_,.freed=>Ir r (n+1)
  |_,_=>(n,o)::Ir r (n+1)
def Br(h:Heap):vO:=Ir h.objs.toList 0
theorem ZCm{a:xW}{o:Obj}:∀{l:List Obj}{n:Nat},(Ir l n).lookup a=vR o->n<=a/\l[a-n]?=vR o/\∀x y z,o≠⟨x,y,.freed,z⟩
 |[],n,h=>by cases h
 | p::r,n,h=>by
  have next:(Ir r (n+1)).lookup a=vR o->n<=a/\(p::r)[a-n]?=vR o/\∀x y z,o≠⟨x,y,.freed,z⟩:=λh=>by obtain⟨h1,h2,h3⟩:=ZCm h;obtain⟨k,rfl⟩:=Nat.exists_eq_add_of_le h1;rw[jK]at h2;refine⟨z0 (qS n) h1,?_,h3⟩;rw[show n+1+k-n=k+1 by rw[Nat.add_assoc,jK,Nat.add_comm],qI];exact h2
  unfold Ir at h;split at h
  ·exact next h
  ·exact next h
  ·rename_i hz hf;rw[qM]at h;split at h
   ·rename_i e;have e':a=n:=by simpa using e
    subst e';cases h;refine⟨zK _,by simp,λx y z q=>?_⟩;subst q;exact hz rfl
   ·exact next h
theorem ZGn(h:Heap):(Br h).In h:=λa o e=>by
 obtain⟨_,h2,h3⟩:=ZCm e;have h4:h.objs[a]?=vR o:=by simpa using h2
 unfold Heap.get?;rw[h4];split
 ·rename_i q;cases q;exact absurd rfl (h3 _ _ _)
 ·rfl
theorem R9:∀(l:List Obj)(n:Nat),noTabs (Ir l n)=vT
 |[],n=>rfl
 | p::r,n=>by
  unfold Ir;split
  ·exact R9 r _
  ·exact R9 r _
  ·rename_i h1 h2;have:=R9 r (n+1);unfold noTabs at this⊢;rw[qU,this,Bool.and_true];split
   ·rename_i vs a b;exact absurd (h2 vs a b) id
   ·rfl
theorem ZFK(h:Heap):noTabs (Br h)=vT:=R9 _ _
noncomputable def Gy(p:xj)(N:Nat)(w:xC):Heap:=match openEnds vx p w N with
 |some s=>s.heap
 |none=>default
def Stays(p:xj)(N:Nat)(w:xC)(h:Heap):Prop:=∀b o,(Gy p N w).get? b=vR o->h.get? b=vR o
theorem Stays.in{p:xj}{N:Nat}{w:xC}(x:Stays p N w h):(Br (Gy p N w)).In h:=λa o e=>x a o (ZGn _ a o e)
def T4(p:xj)(N:Nat):Hook:=
 ⟨Heap,λs=>s.heap,Gy p N,Stays p N,λw s e b o q=>by rw[show s.heap=Gy p N w from e];exact q,λw h h' x k b o q=>k b o (x b o q)⟩
section
variable{p q:xj}{loose:List Str}{Xt:xy->Bool}{N:Nat}{β:Type}{see:Heap->β}{val:β}
theorem ZJv(E:∀w,(openEnds vx p w N).map (λs=>(openSeen q loose (xR p.main.body) Xt vT s,see s.heap))=vR (openGood q loose,val)):
  LeftO p q loose Xt (T4 p N).obs (T4 p N).val N:=λw=>by
 obtain⟨s,h1,h2⟩:=zM.mp (E w);show Option.map _ _=vR (openGood q loose,Gy p N w);unfold Gy;rw[h1];show vR (openSeen q loose (xR p.main.body) Xt vT s,s.heap)=_;rw[(Prod.mk.inj h2).1]
theorem R7(E:∀w,(openEnds vx p w N).map (λs=>(openSeen q loose (xR p.main.body) Xt vT s,see s.heap))=vR (openGood q loose,val))(w:xC):see (Gy p N w)=val:=by obtain⟨s,h1,h2⟩:=zM.mp (E w);unfold Gy;rw[h1];exact(Prod.mk.inj h2).2
end
noncomputable def dOf(s:xA):DefRec:=match s with
 |Stmt.FunctionDef n a b _ _ _ s _ _ p=>⟨n,a,b,s,p⟩
 |_=>⟨Str.empty,⟨[],[],vS,[],[],vS,[]⟩,[],{kind:=.module,names:=[],isGenerator:=vU,isCoroutine:=vU,more:=[]},⟨0,0,0,0⟩⟩
noncomputable abbrev XtOf(l:OpenLaw)(q:xj)(s:xy):Bool:=xlAt q [] s&&recOk l.row.toRowW.records s
theorem holds_top{l:OpenLaw}{q:xj}{loose:List Str}{N:Nat}{β:Type}{see:Heap->β}{val:β}{d:DefRec}(well:l.wellSaid=vT)
  (E:∀w,(openEnds vx l.prog w N).map (λs=>(openSeen q loose (xR l.prog.main.body) (XtOf l q) vT s,see s.heap))=vR (openGood q loose,val))
  (hdef:defOf q l.row.name=vR (d,[])) (hp:l.row.prog.theDef l.row.name=vR (d.params,d.body,d.scope)) (hk:kwWritten? d.params.kwonlyargs d.params.kw_defaults=vR []) (hwr:(!l.row.writes||l.row.records.isEmpty)=vT)
  (ok:(chainsOk q&&opensWell l.row.prog&&(frees l.row.toRowW&&l.row.within.isEmpty))=vT) (hb:l.row.prog.bare) (hw:l.row.toRowW.promised)
  (call:WalkO q loose (XL q []) (Stays l.prog N) l.row.toRowW d [] λf vs=>PySem.call f vs):l.Holds:=
 holds_law well λsaid=>holds_open (r:=l.row) (q:=q) (loose:=loose) (Xt:=XtOf l q) (XP:=XL q []) (YP:=Stays l.prog N) (N:=N) (ZJv E) (T4 l.prog N).of (T4 l.prog N).keeps
  (λs e=>xl_of s (jJ.mp e).1) XL.keeps hdef hp hk (λs e=>recFacts_of (jJ.mp e).2) hwr said ok hb hw call
noncomputable def Af(K:vO)(n:Str):xW:=match nsIn K vW n with
 |some (vR (.ref f))=>f
 |_=>0
noncomputable def gOk(K:vO)(n:Str):Bool:=match nsIn K vW n with
 |some (vR (.ref _))=>vT
 |_=>vU
theorem M7{K:vO}{n:Str}(h:gOk K n=vT):nsIn K vW n=vR (vR (.ref (Af K n))):=by
 unfold gOk at h;unfold Af;split at h
 ·rename_i e;rw[e]
 ·cases h
noncomputable def Bw(K:vO)(C:xW)(m:Str):xW:=match findIn K (.ref C) m with
 |some (vR (.ref f))=>f
 |_=>0
noncomputable def mOk(K:vO)(C:xW)(m:Str):Bool:=match findIn K (.ref C) m with
 |some (vR (.ref f))=>isFn K (.ref f)
 |_=>vU
theorem ZCq{K:vO}(h:mOk K C m=vT):findIn K (.ref C) m=vR (vR (.ref (Bw K C m)))/\isFn K (.ref (Bw K C m))=vT:=by
 unfold mOk at h;unfold Bw;split at h
 ·rename_i e;rw[e];exact⟨rfl,h⟩
 ·cases h
noncomputable def noF(K:vO)(C:xW)(m:Str):Bool:=match findIn K (.ref C) m with
 |some vS=>vT
 |_=>vU
theorem ZBq{K:vO}(h:noF K C m=vT):findIn K (.ref C) m=vR vS:=by
 unfold noF at h;split at h
 ·assumption
 ·cases h
noncomputable def zOk(K:vO)(n:Str):Bool:=match nsIn K vW n with
 |some vS=>vT
 |_=>vU
theorem ZKQ{K:vO}{n:Str}(h:zOk K n=vT):nsIn K vW n=vR vS:=by
 unfold zOk at h;split at h
 ·assumption
 ·cases h
noncomputable def Sw(K:vO)(C:xW):Bool:=match findIn K (.ref C) "__setattr__" with
 |some (vR (.builtin s))=>s == "object.__setattr__"
 |_=>vU
theorem ZBF{K:vO}(h:Sw K C=vT):findIn K (.ref C) "__setattr__"=vR (vR (.builtin "object.__setattr__")):=by
 unfold Sw at h;split at h
 ·rename_i e;rw[e,beq_iff_eq.mp h]
 ·cases h
noncomputable def iOk(K:vO)(n:Str)(v:Int):Bool:=match nsIn K vW n with
 |some (vR (.int u _))=>decide (u=v)
 |_=>vU
noncomputable def sOk(K:vO)(n:Str)(v:Str):Bool:=match nsIn K vW n with
 |some (vR (.str u _))=>decide (u=v)
 |_=>vU
noncomputable def Hz(K:vO)(n:Str):Tok:=match nsIn K vW n with
 |some (vR (.int _ t))=>t
 |some (vR (.str _ t))=>t
 |_=>0
theorem ZG5{K:vO}{n:Str}{v:Int}(h:iOk K n v=vT):nsIn K vW n=vR (vR (.int v (Hz K n))):=by
 unfold iOk at h;unfold Hz;split at h
 ·rename_i e;rw[e,of_decide_eq_true h]
 ·cases h
theorem ZF3{K:vO}{n:Str}{v:Str}(h:sOk K n v=vT):nsIn K vW n=vR (vR (.str v (Hz K n))):=by
 unfold sOk at h;unfold Hz;split at h
 ·rename_i e;rw[e,of_decide_eq_true h]
 ·cases h
noncomputable def Jc(K:vO)(f:xW):Obj:=match K.lookup f with
 |some o=>o
 |none=>⟨.none,vS,.plain,#[]⟩
def Bj(K:vO)(f:xW):xq:=match(Jc K f).data with
 |.func fd=>fd
 |_=>default
noncomputable def ZJh:xB->Bool
 |.none=>vT
 |_=>vU
noncomputable def ZGx:FuncBody->Option (List xA)
 |.stmts b=>vR b
 |_=>vS
def Rk(K:vO)(x q:Str)(f:xW):Bool:=match K.lookup f with
 |some ⟨_,_,.func fd,_⟩=>decide (fd.name=x)&&decide (fd.qualname=q)&&(fd.globals==vW&&fd.builtins==builtinsNs&&fd.closure.isEmpty&&ZJh fd.defaults)&&(codeIn K fd.code q&&keepIn K (.ref f))
 |_=>vU
noncomputable abbrev DefTxt:=Arguments×Option (List xA)×xk
def R1(K:vO)(f:xW):DefTxt:=((Bj K f).params,ZGx (Bj K f).body,(Bj K f).scope)
def U4(st:xA):DefTxt:=(Ht st,vR (Dv st),Ao st)
abbrev FnSaid(K:vO)(x q:Str)(st:xA)(f:xW):Prop:=
 K.lookup f=vR ⟨(Jc K f).cls,(Jc K f).dict,.func (fnOf x q (Ht st) (Dv st) (Ao st) .none (Bj K f).kwdefaults (Bj K f).doc (Bj K f).pyModule (Bj K f).annotations (Bj K f).code (Bj K f).closureTuple),(Jc K f).slots⟩/\
  codeIn K (Bj K f).code q=vT/\keepIn K (.ref f)=vT
theorem ZC7{K:vO}(h:Rk K x q f=vT)(t:R1 K f=U4 st):FnSaid K x q st f:=by
 unfold Rk at h;split at h
 ·rename_i oc od fd sl e;have eo:Jc K f=⟨oc,od,.func fd,sl⟩:=by unfold Jc;rw[e]
  have ef:Bj K f=fd:=by unfold Bj;rw[eo]
  unfold R1 U4 at t;rw[ef]at t;obtain⟨t1,t2⟩:=Prod.mk.inj t;obtain⟨t2,t3⟩:=Prod.mk.inj t2;simp only[zB,decide_eq_true_eq,beq_iff_eq,List.isEmpty_iff]at h;obtain⟨⟨⟨h1,h2⟩,⟨⟨h3,h4⟩,h5⟩,h6⟩,h7,h8⟩:=h;unfold FnSaid;rw[ef,eo,e];refine⟨?_,h7,h8⟩;have h6':fd.defaults=.none:=by
   revert h6
   generalize fd.defaults=df;intro h6
   cases df<;>first|rfl|cases h6
  have h9:fd.body=.stmts (Dv st):=by
   revert t2
   generalize fd.body=bd;intro t2
   cases bd<;>first|(cases t2;rfl)|(cases t2)
  have ef':fd=fnOf x q (Ht st) (Dv st) (Ao st) .none fd.kwdefaults fd.doc fd.pyModule fd.annotations fd.code fd.closureTuple:=by show FuncData.mk fd.name fd.qualname fd.params fd.body fd.scope fd.globals fd.closure fd.defaults fd.kwdefaults fd.doc fd.pyModule fd.annotations fd.code fd.closureTuple fd.builtins=_;rw[h1,h2,t1,h9,t3,h3,h5,h6',h4]
  exact congrArg (λz=>vR (Obj.mk oc od (.func z) sl)) ef'
 ·cases h
noncomputable def strsOf:List xB->Option (List Str)
 |[]=>vR []
 |.str s _::r=>(strsOf r).map (s::·)
 |_::_=>vS
theorem Su:∀{l:List xB}{ss:List Str},strsOf l=vR ss->Vals (ss.map V.str) l
 |[],ss,h=>by cases h;exact .nil
 |v::r,ss,h=>by
  unfold strsOf at h;split at h
  ·rename_i q;cases q
  ·rename_i s t r' q;cases q;obtain⟨ss',h1,rfl⟩:=zM.mp h;exact .cons ⟨_,rfl⟩ (Su h1)
  ·cases h
def Yj(K:vO)(n:Str)(vs:List Str):Bool:=match nsIn K vW n with
 | some (vR (.ref p))=>(match K.lookup p with
   |some ⟨.type t,_,.seq its _,_⟩=>t == "tuple"&&decide (strsOf its.toList=vR vs)&&Nat.ble its.toList.length 1000
   |_=>vU)
 |_=>vU
abbrev GtSaid(K:vO)(n:Str)(vs:List Str):Prop:=∃(p:xW)(od:Option xW)(sl:Array (Option xB))(k:Nat)(its:List xB),nsIn K vW n=vR (vR (.ref p))/\K.lookup p=vR ⟨.type "tuple",od,.seq its.toArray k,sl⟩/\its.length<=1000/\Vals (vs.map V.str) its
theorem ZJl{K:vO}{n:Str}{vs:List Str}(h:Yj K n vs=vT):GtSaid K n vs:=by
 unfold Yj at h;split at h
 ·rename_i p e;split at h
  ·rename_i t od its k sl e2;simp only[zB,beq_iff_eq,decide_eq_true_eq]at h;obtain⟨⟨rfl,h2⟩,h3⟩:=h;exact⟨p,od,sl,k,its.toList,e,by rw[e2],qH h3,Su h2⟩
  ·cases h
 ·cases h
def Y9(K:vO)(n:Str)(kvs:List (Str×Str)):Bool:=match nsIn K vW n with
 | some (vR (.ref p))=>(match K.lookup p with
   |some ⟨.type t,_,.dict es _,_⟩=>t == "dict" && !(p==sysModules)&&decide (strsOf (es.toList.map (·.key))=vR (kvs.map (·.1)))&&decide (strsOf (es.toList.map (·.val))=vR (kvs.map (·.2)))
   |_=>vU)
 |_=>vU
abbrev GdSaid(K:vO)(n:Str)(kvs:List (Str×Str)):Prop:=∃(p:xW)(od:Option xW)(sl:Array (Option xB))(k:Nat)(es:Array DictEntry),nsIn K vW n=vR (vR (.ref p))/\K.lookup p=vR ⟨.type "dict",od,.dict es k,sl⟩/\(p==sysModules)=vU/\Vals ((kvs.map (·.1)).map V.str) (es.toList.map (·.key))/\Vals ((kvs.map (·.2)).map V.str) (es.toList.map (·.val))
theorem ZKB{K:vO}{n:Str}{kvs:List (Str×Str)}(h:Y9 K n kvs=vT):GdSaid K n kvs:=by
 unfold Y9 at h;split at h
 ·rename_i p e;split at h
  ·rename_i t od es k sl e2;simp only[zB,beq_iff_eq,decide_eq_true_eq,Bool.not_eq_true']at h;obtain⟨⟨⟨rfl,h2⟩,h3⟩,h4⟩:=h;exact⟨p,od,sl,k,es,e,by rw[e2],h2,Su h3,Su h4⟩
  ·cases h
 ·cases h
inductive Ask where
 |fn (n:Str) (st:xA)
 |mt (c m q:Str) (st:xA)
 |cl (c:Str)
 |no (c x:Str)
 |z (n:Str)
 |gi (n:Str) (v:Int)
 |gs (n v:Str)
 |gt (n:Str) (vs:List Str)
 |gd (n:Str) (kvs:List (Str×Str))
 |ck (φ:vO->Bool)
def Ask.chk(K:vO):Ask->Bool
 |.fn n _=>gOk K n&&Rk K n n (Af K n)
 |.mt c m q _=>mOk K (Af K c) m&&Rk K m q (Bw K (Af K c) m)
 |.cl c=>gOk K c&&(plainGet K (Af K c) Str.empty&&hasDictIn K (Af K c)&&plainOver K (Af K c))&&(Sw K (Af K c)&&makesIn K (Af K c)&&keepIn K (.ref (Af K c)))
 |.no c x=>noF K (Af K c) x
 |.z n=>zOk K n
 |.gi n v=>iOk K n v
 |.gs n v=>sOk K n v
 |.gt n vs=>Yj K n vs
 |.gd n kvs=>Y9 K n kvs
 |.ck φ=>φ K
def Ask.txt(K:vO):Ask->Option DefTxt
 |.fn n _=>vR (R1 K (Af K n))
 |.mt c m _ _=>vR (R1 K (Bw K (Af K c) m))
 |_=>vS
def Ask.want:Ask->Option DefTxt
 |.fn _ st=>vR (U4 st)
 |.mt _ _ _ st=>vR (U4 st)
 |_=>vS
def Ask.Said(K:vO):Ask->Prop
 |.fn n st=>nsIn K vW n=vR (vR (.ref (Af K n)))/\FnSaid K n n st (Af K n)
 |.mt c m q st=>findIn K (.ref (Af K c)) m=vR (vR (.ref (Bw K (Af K c) m)))/\isFn K (.ref (Bw K (Af K c) m))=vT/\FnSaid K m q st (Bw K (Af K c) m)
 | .cl c=>nsIn K vW c=vR (vR (.ref (Af K c)))/\plainGet K (Af K c) Str.empty=vT/\hasDictIn K (Af K c)=vT/\plainOver K (Af K c)=vT/\
   findIn K (.ref (Af K c)) "__setattr__"=vR (vR (.builtin "object.__setattr__"))/\makesIn K (Af K c)=vT/\keepIn K (.ref (Af K c))=vT
 |.no c x=>findIn K (.ref (Af K c)) x=vR vS
 |.z n=>nsIn K vW n=vR vS
 |.gi n v=>nsIn K vW n=vR (vR (.int v (Hz K n)))
 |.gs n v=>nsIn K vW n=vR (vR (.str v (Hz K n)))
 |.gt n vs=>GtSaid K n vs
 |.gd n kvs=>GdSaid K n kvs
 |.ck φ=>φ K=vT
theorem Ask.said{K:vO}:∀{a:Ask},a.chk K=vT->a.txt K=a.want->a.Said K
 |.fn n st,h,t=>by obtain⟨h1,h2⟩:=jJ.mp h;exact⟨M7 h1,ZC7 h2 (Option.some.inj t)⟩
 |.mt c m q st,h,t=>by obtain⟨h1,h2⟩:=jJ.mp h;exact⟨(ZCq h1).1,(ZCq h1).2,ZC7 h2 (Option.some.inj t)⟩
 |.cl c,h,_=>by simp only[Ask.chk,zB]at h;obtain⟨⟨h1,⟨h2,h3⟩,h4⟩,⟨h5,h6⟩,h7⟩:=h;exact⟨M7 h1,h2,h3,h4,ZBF h5,h6,h7⟩
 |.no c x,h,_=>ZBq h
 |.z n,h,_=>ZKQ h
 |.gi n v,h,_=>ZG5 h
 |.gs n v,h,_=>ZF3 h
 |.gt n vs,h,_=>ZJl h
 |.gd n kvs,h,_=>ZKB h
 |.ck _,h,_=>h
def AllSaid(K:vO):List Ask->Prop
 |[]=>True
 |a::r=>a.Said K/\AllSaid K r
theorem ZDo{K:vO}:∀{l:List Ask},(l.all (Ask.chk K),l.map (Ask.txt K))=(vT,l.map Ask.want)->AllSaid K l
 |[],_=>trivial
 |a::r,h=>by obtain⟨h1,h2⟩:=Prod.mk.inj h;rw[qU]at h1;obtain⟨h3,h4⟩:=jJ.mp h1;rw[zA,zA]at h2;obtain⟨h5,h6⟩:=List.cons.inj h2;exact⟨Ask.said h3 h5,ZDo (by rw[h4,h6])⟩
def seeH(l:List Ask)(h:Heap):Bool×List (Option DefTxt):=(l.all (Ask.chk (Br h)),l.map (Ask.txt (Br h)))
noncomputable abbrev valH(l:List Ask):Bool×List (Option DefTxt):=(vT,l.map Ask.want)
theorem ZL3{K:vO}{a:Str}{fd:xq}{s:xy}{v:xB}(F:Fun K x q st f fd)
  (h:∀(kV doc pm:xB)(an:Option xW)(cdv ct:xB)(u:xB),bindArgs (fnOf x q (Ht st) (Dv st) (Ao st) .none kV doc pm an cdv ct) ⟨[u],[]⟩=pure [(a,u)]):BindsTo s fd ⟨[v],[]⟩ [(a,v)]:=by
 obtain⟨oc,od,kV,doc,pm,an,cdv,ct,osl,rfl,lk,hcd⟩:=F.ex;exact .of_eq (h kV doc pm an cdv ct v)
def Ij(K:vO)(c m:Str):xW:=match(Bj K (Bw K (Af K c) m)).code with
 |.ref a=>a
 |_=>0
def Og(K:vO)(c:xW):xW:=match(Jc K c).data with
 |.fields vs=>(match(vs[11]? :Option xB)with |some (.ref P)=>P|_=>0)
 |_=>0
noncomputable def ZII:xB->Bool
 |.ref _=>vT
 |_=>vU
def Yr(c m:Str)(h:Heap):Bool:=ZII (Bj (Br h) (Bw (Br h) (Af (Br h) c) m)).code&&codeHdIn (Br h) (Ij (Br h) c m) (Og (Br h) (Ij (Br h) c m)) &&
 (match h.get? (Og (Br h) (Ij (Br h) c m))with
  |some ⟨.none,vS,.fields vs,sl⟩=>vs.isEmpty&&sl.isEmpty
  |_=>vU)
theorem Zd{c:Str}(e:Yr c m h=vT):(Bj (Br h) (Bw (Br h) (Af (Br h) c) m)).code=.ref (Ij (Br h) c m)/\codeHdIn (Br h) (Ij (Br h) c m) (Og (Br h) (Ij (Br h) c m))=vT/\
  h.get? (Og (Br h) (Ij (Br h) c m))=vR (tabObj #[]):=by
 simp only[Yr,zB]at e;obtain⟨⟨e1,e2⟩,e3⟩:=e;refine⟨?_,e2,?_⟩
 ·unfold Ij
  revert e1
  generalize(Bj (Br h) (Bw (Br h) (Af (Br h) c) m)).code=v;intro e1
  cases v<;>first|rfl|cases e1
 ·split at e3
  ·rename_i vs sl q;rw[q];simp only[zB,Array.isEmpty_iff]at e3;obtain⟨rfl,rfl⟩:=e3
   rfl
  ·cases e3
def Xx(c m:Str)(l:List Ask)(h:Heap):Bool×Bool×List (Option DefTxt):=(Yr c m h,seeH l h)
noncomputable abbrev Zk(l:List Ask):Bool×Bool×List (Option DefTxt):=(vT,valH l)
noncomputable def Ss(p:xj)(w:xC)(n₀:Nat)(ann:Option xB):Nat->SharedT->Thread->Option SharedT
 |0,_,_=>vS
 | n+1,s,t=>match through t with
  |true=>vR s
  | false=>match PySem.W.Fast.tw6613529449190102663 n₀ ann t with
   |false=>vS
   |true=>match PySem.W.Fast.tw10156331382660048174 (PySem.W.Fast.tw11892475500146522536 PySem.W.Fast.tw14364793385576792824) p w s t with
    |some (s',t')=>Ss p w n₀ ann n s' t'
    |none=>vS
theorem ZBX{p:xj}{w:xC}{n₀:Nat}{ann:Option xB}:∀{n:Nat}{s s':SharedT}{t:Thread},Ss p w n₀ ann n s t=vR s'->topRun vx p w n₀ ann n s.abs t=vR s'.abs
 |0,_,_,_,h=>by cases h
 | n+1,s,s',t,h=>by
  unfold Ss at h;unfold topRun;rw[<-PySem.W.Fast.te6613529449190102663,<-PySem.W.Fast.te10156331382660048174,<-PySem.W.Fast.te11892475500146522536,<-PySem.W.Fast.te14364793385576792824]at h;cases ht:through t with
  |true=>
   rw[ht]at h;cases h
   rfl
  | false=>
   rw[ht]at h;dsimp only at h⊢;cases ho:stepOk n₀ ann t with
   |false=>rw[ho]at h;cases h
   |true=>
    rw[ho]at h;dsimp only at h⊢;split at h
    ·rename_i s2 t2 e;rw[stepT_spec e];exact ZBX h
    ·cases h
noncomputable def ZD8:List Obj->Nat->BT->BT
 |[],_,t=>t
 |o::r,n,t=>ZD8 r (n+1) (t.ins n o)
def ZB8(w:xC)(os:OsState):SharedT:=⟨ZD8 (vP w.params).objs.toList 0 .nil,(vP w.params).objs.size,(vP w.params).life,Array.mk [],boot_drawn,boot_toks,os⟩
theorem boot_abs:∀w os,(ZB8 w os).abs=⟨vP w.params,Array.mk [],boot_drawn,boot_toks,os⟩:=λw os=>by kernel_rfl
theorem ZIq:∀w:xC,((vP w.params).isNs vW&&(Array.mk []:Array GenState).size==0)=vT:=λw=>by kernel_rfl
def Xy(p:xj)(w:xC)(os:OsState):Option SharedT:=Ss p w (vP w.params).objs.size (PySem.W.Fast.tw8920871248978507458 (vP w.params) vW "__annotations__") 100000 (ZB8 w os) (topStub p)
noncomputable def ZAF(p:xj)(w:xC)(s:xy):Bool:=staticsOk (PySem.W.Fast.tw5923862056798008813 p.main.body) (vP w.params) s.heap&&namesBound p s.heap&&gensDone s&&laidKept (vP w.params) s.heap
theorem ZMI{p q:xj}{loose:List Str}{Xt:xy->Bool}{β:Type}{see:Heap->β}{val:β}(e:opening p=plainProg p.main.scope.names)(f:∀s,fenceModules? p s=vR s)
  (R:∀w os,(Xy p w os).map (λs=>(ZAF p w s.abs,PySem.W.Fast.tw4187177175401517315 q loose (PySem.W.Fast.tw5923862056798008813 p.main.body) Xt vT s.abs,see s.abs.heap))=vR (vT,openGood q loose,val)):
  ∀w,(openEnds vx p w 100000).map (λs=>(openSeen q loose (xR p.main.body) Xt vT s,see s.heap))=vR (openGood q loose,val):=λw=>by
 obtain⟨⟨h,gs,d,k,os⟩,h0,e0⟩:=zM.mp (boot_open (N:=100000) e rfl f w);obtain⟨rfl,rfl,rfl,rfl⟩:h=vP w.params/\gs=Array.mk []/\d=boot_drawn/\k=boot_toks:=by simpa using e0
 obtain⟨s,h1,h2⟩:=zM.mp (R w os);obtain⟨h3,h4⟩:=Prod.mk.inj h2;obtain⟨h4,h5⟩:=Prod.mk.inj h4;unfold Xy at h1;have r:=ZBX h1;rw[boot_abs,<-PySem.W.Fast.te8920871248978507458]at r;rw[<-PySem.W.Fast.te4187177175401517315,<-PySem.W.Fast.te5923862056798008813]at h4;unfold ZAF at h3;rw[<-PySem.W.Fast.te5923862056798008813]at h3;have t:topFrom vx p w 100000 ⟨vP w.params,Array.mk [],boot_drawn,boot_toks,os⟩=vR s.abs:=by
  unfold topFrom;dsimp only;rw[ZIq,r]
  show(match staticsOk (xR p.main.body) (vP w.params) s.abs.heap&&namesBound p s.abs.heap&&gensDone s.abs&&laidKept (vP w.params) s.abs.heap with |true=>_|false=>_)=_
  rw[h3]
 unfold openEnds;rw[h0];show(topFrom vx p w 100000 _).map _=_;rw[t];exact congrArg vR (Prod.ext h4 h5)
theorem ZIf{l:OpenLaw}(h:PySem.W.Fast.tw9446332074065402090 l=vT):l.wellSaid=vT:=by rw[PySem.W.Fast.te9446332074065402090];exact h
structure FT (K:vO) (mg:Str->Option xB) (n:Str) (st:xA) (ps:List Str):Prop where
 F:Fun K n n st (Af K n) (Bj K (Af K n))
 b:Binds K (Bj K (Af K n)) ps []
 m:mg n=vR (.ref (Af K n))
 k:keepIn K (.ref (Af K n))=vT
structure MT (K:vO) (c m q:Str) (st:xA) (ps:List Str):Prop where
 F:Fun K m q st (Bw K (Af K c) m) (Bj K (Bw K (Af K c) m))
 b:Binds K (Bj K (Bw K (Af K c) m)) ps []
 me:Meth K (Af K c) m (Bw K (Af K c) m)
structure CT (K:vO) (mg:Str->Option xB) (c:Str):Prop where
 N:nsIn K vW c=vR (vR (.ref (Af K c)))
 cl:Cls K (Af K c)
 g:mg c=vR (.ref (Af K c))
 mK:Mk K (Af K c) (Bw K (Af K c) "__init__")
theorem Pj{K:vO}(s:FnSaid K x q st f):Fun K x q st f (Bj K f):=by
 have e:Bj K f=fnOf x q (Ht st) (Dv st) (Ao st) .none (Bj K f).kwdefaults (Bj K f).doc (Bj K f).pyModule (Bj K f).annotations (Bj K f).code (Bj K f).closureTuple:=by
  have h:=s.1
  conv=>lhs;unfold Bj Jc;rw[h]
 exact⟨⟨_,_,_,_,_,_,_,_,_,e,by rw[e];exact s.1,s.2.1⟩,s.2.2⟩
theorem Fi{K:vO}{mg:Str->Option xB}{n:Str}{ps:List Str}(X:K.In h)(G:h.Ns vW mg)(s:Ask.Said K (.fn n st))
  (hb:∀(kV doc pm:xB)(an:Option xW)(cdv ct:xB)(us:List xB),us.length=ps.length->bindArgs (fnOf n n (Ht st) (Dv st) (Ao st) .none kV doc pm an cdv ct) ⟨us,[]⟩=pure (ps.zip us)):FT K mg n st ps:=
 ⟨Pj s.2,(Pj s.2).binds hb,mg_of X G s.1,s.2.2.2⟩
theorem Ie{K:vO}{c:Str}{ps:List Str}(s:Ask.Said K (.mt c m q st))
  (hb:∀(kV doc pm:xB)(an:Option xW)(cdv ct:xB)(us:List xB),us.length=ps.length->bindArgs (fnOf m q (Ht st) (Dv st) (Ao st) .none kV doc pm an cdv ct) ⟨us,[]⟩=pure (ps.zip us)):MT K c m q st ps:=
 ⟨Pj s.2.2,(Pj s.2.2).binds hb,s.1,s.2.1,s.2.2.2.2⟩
theorem ZHN{K:vO}{mg:Str->Option xB}{c:Str}(X:K.In h)(G:h.Ns vW mg)(s:Ask.Said K (.cl c))(i:Ask.Said K (.mt c "__init__" q st)):CT K mg c:=
 ⟨s.1,⟨s.2.1,s.2.2.1,s.2.2.2.1,s.2.2.2.2.1⟩,mg_of X G s.1,s.2.2.2.2.2.1,i.1,i.2.1,s.2.2.2.2.2.2⟩
abbrev FnO(P:xj)(w:xC)(K:vO)(mg:Str->Option xB)(base:Heap)(k:Nat)(n:Str)(ps:List Str)(F:List D->DH->R D):Prop:=FnOk P w K mg base CX0 k (Af K n) (Bj K (Af K n)) ps (lF K F)
abbrev MtO(P:xj)(w:xC)(K:vO)(mg:Str->Option xB)(base:Heap)(k:Nat)(c m:Str)(ps:List Str)(F:List D->DH->R D):Prop:=FnOk P w K mg base CX0 k (Bw K (Af K c) m) (Bj K (Bw K (Af K c) m)) ps (lF K F)
theorem ZFk{K:vO}{fd:xq}{s:xy}{v:xB}{a:Str}(F:Fun K x q st f fd)
  (h:∀(kV doc pm:xB)(an:Option xW)(cdv ct:xB)(u:xB),bindArgs (fnOf x q (Ht st) (Dv st) (Ao st) .none kV doc pm an cdv ct) ⟨[u],[]⟩=pure [(a,u)]:=by intros;rfl):BindsTo s fd ⟨[v],[]⟩ [(a,v)]:=ZL3 F h
end _D
namespace _D
open PySem PySem.Spec _L
open PyProof.Rows hiding St
variable{k:Nat}{st:xA}{ps N:List Str}{F:List D->DH->R D}{cls:xB}{od:Option xW}{P:xj}{w:xC}{h base:Heap}{K:PySem.W.Frag}{C f:xW}{H:Hp}{mg:Str->Option xB}{x qual:Str}{fd:xq}{s:xy}{A:xK}{fill expr:Bool}
section
variable{prog:xj}{w:xC}{A:xK}{E:xB->xy->Prop}{s:xy}
end
section
variable{X:Cx}{E:XK}{p:xW}{kvs:List (Str×Str)}{x:Str}{a:xY}{ta:DE}{np pos:Pos}
end
noncomputable def De:D->Option V
 |.int i=>vR (.int i)
 |.str x=>vR (.str x)
 |_=>vS
section
variable{X:Cx}{E:XK}{pos:Pos}
end
section
variable{S:DSt}{G:DH}
end
theorem Bg{X:Cx}{j:Nat}{n:Str}{p pos:Pos}{e:xY}{es:List xY}{tr:DA}(FF:FnO X.prog X.w X.K X.mg X.base k n ps F)(T:FT X.K X.mg n st ps)(hr:Room j X.A)(ha:QA X E0 (e::es) tr)
  (hj:k<=j:=by decide) (hg:Gl X n:=by exact rfl) (hd:(n==("__debug__":Str))=vU:=by decide) (he:notStar e=vT:=by exact rfl) (hp:es.all notStar=vT:=by exact rfl):QE X E0 (.Call (.Name n p) (e::es) [] pos) (dFn F tr):=
 ZLR FF (hr.mono hj) hg T.m T.k T.b pass0 ha hd he hp
theorem ZIM{f:Array xB->Array xB}{o:Obj}:(Obj.mapFields f o).dict=o.dict:=by
 obtain⟨c,d,dt,sl⟩:=o;unfold Obj.mapFields
 cases dt<;>rfl
def Trc(h B:Heap)(e:xW)(cls:xB)(od:Option xW)(fl:xB):Prop:=
 ∃oe vs T oT ts,h.get? e=vR oe/\(oe.cls=cls/\oe.dict=od)/\oe.data=.fields vs/\vs[1]?=vR (.ref T)/\(B.get? T=vS/\T≠e)/\h.get? T=vR oT/\oT.data=.fields ts/\ts[3]?=vR fl
structure Noted (B:Heap) (l:List Env) (e:xW) (cls:xB) (od:Option xW) (fl:xB) (h h':Heap):Prop where
 st:B.StaysIn h'
 fr:h'.FunFrames B l
 tr:Trc h' B e cls od fl
 up:∀b o,h.get? b=vR o->(∀vs,o.data≠ .fields vs)->∃sl,h'.get? b=vR {o with slots:=sl}
 th:∀b o,h.get? b=vR o->∃o',h'.get? b=vR o'
section
variable{M:Model}{A:xK}{E:xB->xy->Prop}{s:xy}{B:Heap}{env:Env}{outer:List Env}{L e:xW}{oe:Obj}{vs:Array xB}{head:xB}{hn:Bool}{Q:Unit->xy->Prop}
theorem ZDA(fr:A.frames=vR (env::outer))(hl:s.heap.FunFrames B (env::outer))(hf:env.frame=vR L)(he:s.heap.get? e=vR oe)(hk:B.StaysIn s.heap)(hb:B.get? e=vS)(hd:oe.data=.fields vs)(hz:1<vs.size)
  (q:∀h',Noted B (env::outer) e oe.cls oe.dict (vY L) s.heap h'->Q () {s with heap:=h'}):
  vk M A (do let a<-frameOf env;let pl<-entryPlaceOf L hn;let b<-EntryCells.newEntry head a .none (vY L) .none pl;setField (.ref e) 1 b) Q E s:=by
 have ne:e∉(env::outer).filterMap (·.frame):=λhm=>by obtain⟨_,o,ho,nf⟩:=hl.mem hm;rw[he]at ho;cases ho;exact nf vs hd
 refine vB (wpAny_frameOf_fun fr hl hf λh1 k1=>?_);refine vB (wpAny_entryPlaceOf λpl hp=>?_);unfold EntryCells.newEntry newFields;refine vB (vH ?_ (hp.sizeOk5 _ _ _ _ _));generalize hO:({cls:=.type "traceback",dict:=vS,data:=.fields ([head,.ref L,.none,vY L,.none]++(if pl.isEmpty then zv 6 Value.none else pl)).toArray}:Obj)=O;have hOd:O.data=.fields ([head,.ref L,.none,vY L,.none]++(if pl.isEmpty then zv 6 Value.none else pl)).toArray:=by rw[<-hO]
 have e1:h1.get? e=vR oe:=(k1.2.1 e ne).trans he;have b1:B.StaysIn h1:=λb o hbo=>(k1.2.1 b λhm=>by rw[(hl.mem hm).1]at hbo;cases hbo).trans (hk b o hbo)
 have e2:(h1.push O).get? e=vR oe:=zQ O e1;refine wpAny_setField e2 hd hz (q _ ?_);have nTe:h1.objs.size≠e:=qy (zW e1)
 have d3:=Obj.data_mapFields hd (·.setIfInBounds 1 (Value.ref h1.objs.size))
 have e3:=qV (Obj.mapFields (·.setIfInBounds 1 (Value.ref h1.objs.size))) e2 (Obj.isFreed_of_fields d3)
 have t3:=(qK (h1.push O) (Obj.mapFields (·.setIfInBounds 1 (Value.ref h1.objs.size))) (Ne.symm nTe)).trans (zj h1 (by rw[<-hO];rfl))
 have keep:∀b o,b≠e->h1.get? b=vR o->((h1.push O).update e (Obj.mapFields (·.setIfInBounds 1 (Value.ref h1.objs.size)))).get? b=vR o:=λb o n hb'=>by rw[qK _ _ (Ne.symm n)];exact zQ _ hb'
 have nf:∀b o,s.heap.get? b=vR o->(∀vs,o.data≠ .fields vs)->b≠e:=λb o hb' n z=>by rw[z,he]at hb';cases hb';exact n vs hd
 have fresh:B.get? h1.objs.size=vS:=b1.fresh;refine⟨λb o hbo=>keep b o (λz=>by rw[z,hb]at hbo;cases hbo) (b1 b o hbo),hl.of_keeps λb o hb' n=>?_,⟨_,_,h1.objs.size,_,_,e3,⟨Obj.cls_mapFields _ _,ZIM⟩,d3,by simp[hz],⟨fresh,nTe⟩,t3,hOd,by simp⟩,λb o hb' n=>?_,λb o hb'=>?_⟩
 ·obtain⟨sl,hs⟩:=k1.2.2 b o hb';exact⟨_,keep b _ (nf b o hb' n) hs,rfl⟩
 ·obtain⟨sl,hs⟩:=k1.2.2 b o hb';exact⟨sl,keep b _ (nf b o hb' n) hs⟩
 ·obtain⟨sl,hs⟩:=k1.2.2 b o hb';by_cases z:b=e
  ·subst z;exact⟨_,e3⟩
  ·exact⟨_,keep b _ z hs⟩
theorem ZI6(fr:A.frames=vR (env::outer))(hl:s.heap.FunFrames B (env::outer))(hf:env.frame=vR L)(he:s.heap.get? e=vR oe)(hk:B.StaysIn s.heap)(hb:B.get? e=vS)(hd:oe.data=.fields vs)(h1:vs[1]?=vR .none)
  (q:∀h',Noted B (env::outer) e oe.cls oe.dict (vY L) s.heap h'->Q () {s with heap:=h'}):vk M A (noteFrame (.ref e) env) Q E s:=by
 unfold noteFrame;simp only[hf];refine vB (vE he hd h1 ?_);rw[if_neg (by decide)];exact ZDA fr hl hf he hk hb hd (qQ.mp h1).1 q
theorem ZCo(fr:A.frames=vR (env::outer))(hl:s.heap.FunFrames B (env::outer))(hf:env.frame=vR L)(ht:Trc s.heap B e cls od .none)(hk:B.StaysIn s.heap)(hb:B.get? e=vS)
  (q:∀h',Noted B (env::outer) e cls od (vY L) s.heap h'->Q () {s with heap:=h'}):vk M A (noteFrame (.ref e) env) Q E s:=by
 obtain⟨oe,vs,T,oT,ts,he,⟨rfl,rfl⟩,hd,h1,⟨nT,nTe⟩,hT,dT,h3⟩:=ht;unfold noteFrame;simp only[hf];refine vB (vE he hd h1 ?_)
 rw[if_pos (show(Value.ref T != Value.none)=vT from by simp)]
 refine vB (vE hT dT h3 ?_)
 rw[if_neg (show¬((Value.none==vY L)=vT)from by simp[vY])]
 refine vB (wpAny_setField hT dT (qQ.mp h3).1 ?_)
 have oth:∀b,b≠T->(s.heap.update T (Obj.mapFields (·.setIfInBounds 3 Value.none))).get? b=s.heap.get? b:=λb n=>qK _ _ (Ne.symm n)
 have nf:∀b o,s.heap.get? b=vR o->(∀vs,o.data≠ .fields vs)->b≠T:=λb o hb' n z=>by rw[z,hT]at hb';cases hb';exact n ts dT
 refine ZDA fr (hl.of_keeps λb o hb' n=>⟨o,(oth b (nf b o hb' n)).trans hb',rfl⟩) hf ((oth e (Ne.symm nTe)).trans he)
  (λb o hbo=>(oth b λz=>by rw[z,nT]at hbo;cases hbo).trans (hk b o hbo)) hb hd (qQ.mp h1).1
  λh' n=>q h' ⟨n.st,n.fr,n.tr,λb o hb' nn=>n.up b o ((oth b (nf b o hb' nn)).trans hb') nn,λb o hb'=>?_⟩
 by_cases z:b=T
 ·subst z;exact n.th b _ (qV _ hT (Obj.isFreed_of_fields (Obj.data_mapFields dT _)))
 ·exact n.th b o ((oth b z).trans hb')
theorem Xa{fl:xB}{l:List Env}(hl:s.heap.FunFrames B l)(ht:Trc s.heap B e cls od fl)(hk:B.StaysIn s.heap)
  (q:∀h',Noted B l e cls od .none s.heap h'->Q () {s with heap:=h'}):vk M A (setFlight (.ref e) vS) Q E s:=by
 obtain⟨oe,vs,T,oT,ts,he,⟨rfl,rfl⟩,hd,h1,⟨nT,nTe⟩,hT,dT,h3⟩:=ht;unfold setFlight;refine vB (vE he hd h1 ?_)
 rw[if_pos (show(Value.ref T != Value.none)=vT from by simp)]
 refine wpAny_setField hT dT (qQ.mp h3).1 (q _ ?_)
 have oth:∀b,b≠T->(s.heap.update T (Obj.mapFields (·.setIfInBounds 3 ((vS:Option xW).elim Value.none λf=>vY f)))).get? b=s.heap.get? b:=λb n=>qK _ _ (Ne.symm n)
 have nf:∀b o,s.heap.get? b=vR o->(∀vs,o.data≠ .fields vs)->b≠T:=λb o hb' n z=>by rw[z,hT]at hb';cases hb';exact n ts dT
 have dT':=Obj.data_mapFields dT (·.setIfInBounds 3 ((vS:Option xW).elim Value.none λf=>vY f))
 have hT':=qV (Obj.mapFields (·.setIfInBounds 3 ((vS:Option xW).elim Value.none λf=>vY f))) hT (Obj.isFreed_of_fields dT')
 have z3:=(qQ.mp h3).1;refine⟨λb o hbo=>(oth b λz=>by rw[z,nT]at hbo;cases hbo).trans (hk b o hbo),hl.of_keeps λb o hb' n=>⟨o,(oth b (nf b o hb' n)).trans hb',rfl⟩,
  ⟨oe,vs,T,_,_,(oth e (Ne.symm nTe)).trans he,⟨rfl,rfl⟩,hd,h1,⟨nT,nTe⟩,hT',dT',by simp[z3]⟩,λb o hb' n=>⟨o.slots,(oth b (nf b o hb' n)).trans hb'⟩,λb o hb'=>?_⟩
 by_cases z:b=T
 ·subst z;exact⟨_,hT'⟩
 ·exact⟨o,(oth b z).trans hb'⟩
theorem Noted.trans{l:List Env}{f1 f2:xB}{h1 h2 h3:Heap}(x:Noted B l e cls od f1 h1 h2)(y:Noted B l e cls od f2 h2 h3):Noted B l e cls od f2 h1 h3:=
 ⟨y.st,y.fr,y.tr,λb o hb n=>by
  obtain⟨sl,k⟩:=x.up b o hb n;obtain⟨sl',k'⟩:=y.up b _ k n;exact⟨sl',k'⟩,λb o hb=>by
  obtain⟨o',k⟩:=x.th b o hb;exact y.th b o' k⟩
theorem ZKS(fr:A.frames=vR (env::outer))(hl:s.heap.FunFrames B (env::outer))(hf:env.frame=vR L)(he:s.heap.get? e=vR oe)(hk:B.StaysIn s.heap)(hb:B.get? e=vS)(hd:oe.data=.fields vs)(h1:vs[1]?=vR .none)
  (q:∀h',Noted B (env::outer) e oe.cls oe.dict .none s.heap h'->Q () {s with heap:=h'}):vk M A (leaving env (.ref e)) Q E s:=by
 unfold leaving;exact vB (ZI6 fr hl hf he hk hb hd h1 λh' n=>Xa n.fr n.tr n.st λh'' n'=>q h'' (n.trans n'))
theorem ZJg(fr:A.frames=vR (env::outer))(hl:s.heap.FunFrames B (env::outer))(hf:env.frame=vR L)(ht:Trc s.heap B e cls od .none)(hk:B.StaysIn s.heap)(hb:B.get? e=vS)
  (q:∀h',Noted B (env::outer) e cls od .none s.heap h'->Q () {s with heap:=h'}):vk M A (leaving env (.ref e)) Q E s:=by
 unfold leaving;exact vB (ZCo fr hl hf ht hk hb λh' n=>Xa n.fr n.tr n.st λh'' n'=>q h'' (n.trans n'))
end
structure Fly (B:Heap) (l:List Env) (e:xW) (cls:xB) (od:Option xW) (H':Hp) (h:Heap):Prop where
 st:B.StaysIn h
 fr:h.FunFrames B l
 tr:Trc h B e cls od .none
 eb:B.get? e=vS
 al:∀b,H' b≠vS->∃o,B.get? b=vR o
def CXx(P:xj)(w:xC):CXT:=λouter H s E e s'=>∃(ea:xW)(cls:xB)(od:Option xW)(H':Hp)(B:Heap),e=.ref ea/\s'.os=s.os/\AllBare s'.gens/\Un (frs outer) [] H H' s.heap s'.heap/\HOk P w H' s'.heap/\
 Fly B outer ea cls od H' s'.heap/\(∀b o,s.heap.get? b=vR o->H b=vS->b∉frs outer->B.get? b=vR o)/\s.heap.get? ea=vS/\E cls od H'/\∃C,cls=.ref C
section
variable{X:Cx}{pins:List (xW×Obj)}{σ:St}{H H':Hp}{s s':xy}{B h'':Heap}{ea:xW}{cls:xB}{od:Option xW}{E:XK}
theorem ZDF{h':Heap}(hok:HOk P w H' h)(al:∀b,H' b≠vS->∃o,B.get? b=vR o)(s1:B.StaysIn h)(s2:B.StaysIn h'):HOk P w H' h':=λa o e=>
 (hok a o e).stay (λb u hb q=>by
  have hn:H' b≠vS:=by
   rcases hb with rfl|hb
   ·rw[e];simp
   ·rw[hb];simp
  obtain⟨o',k⟩:=al b hn;have k1:=s1 b o' k;rw[q]at k1;cases k1;exact s2 b u k) (λ_ q=>q) λ_ _ q=>q
theorem ZCk(I:Inv X pins σ H s)(hs:X.stack=X.env::X.outer)(hex:X.ex=[])(hfr:X.env.frame=vR X.env.locals)(os:s'.os=s.os)(bare:AllBare s'.gens)(un:Un (frs X.stack) [] H H' s.heap s'.heap)(hok:HOk X.prog X.w H' s'.heap)
  (bb:∀b o,s.heap.get? b=vR o->H b=vS->b∉frs X.stack->B.get? b=vR o) (al:∀b,H' b≠vS->∃o,B.get? b=vR o) (eb:B.get? ea=vS) (st:B.StaysIn s'.heap) (new:s.heap.get? ea=vS)
  (n:Noted B X.stack ea cls od .none s'.heap h'') (hE:E cls od H') (hc:∃C,cls=.ref C):CXx X.prog X.w X.outer X.H₀ X.s₀ E (.ref ea) {s' with heap:=h''}:=by
 have base:=I.base;rw[hex]at base;have fe:frs X.stack=X.env.locals::frs X.outer:=by rw[hs];unfold frs;rw[zN,hfr]
 have bb':∀b o,X.s₀.heap.get? b=vR o->X.H₀ b=vS->b∉frs X.outer->B.get? b=vR o:=λb o q hn hb=>by
  refine bb b o (base.keep b o q hn hb (by simp)) (base.free b o q hn (by simp)) ?_;rw[fe];intro hm;rcases zq.mp hm with z|z
  ·exact absurd (zX (zW q) I.ok.above) (by rw[z];exact zT _)
  ·exact hb z
 have frO:h''.FunFrames B X.outer:=by have:=n.fr;rw[hs]at this;exact this.2.2
 refine⟨ea,cls,od,H',B,rfl,os.trans I.os,bare,⟨λb o q hn hb _=>n.st b o (bb' b o q hn hb),λb o q hn hb _=>?_,λb o q hn hx=>?_,λb o q hx=>?_,λb xs q=>un.tups b xs (base.tups b xs q),λb o u q=>un.frzs b o u (base.frzs b o u q),λb ps q=>?_⟩,ZDF hok al st n.st,⟨n.st,frO,n.tr,eb,al⟩,bb',?_,hE,hc⟩
 ·obtain⟨sl,k⟩:=base.slot b o q hn hb (by simp);have hm:b∈frs X.stack:=by rw[fe];exact zZ _ hb
  obtain⟨sl',k'⟩:=un.slot b _ k (base.free b o q hn (by simp)) hm (by simp);obtain⟨_,o2,k2,nf⟩:=I.stack.mem hm;rw[k]at k2;cases k2;obtain⟨sl'',k3⟩:=n.up b _ k' nf;exact⟨sl'',k3⟩
 ·obtain⟨o1,k1⟩:=base.there b o q hx;exact un.free b o1 k1 (base.free b o q hn hx) hx
 ·obtain⟨o1,k1⟩:=base.there b o q hx;obtain⟨o2,k2⟩:=un.there b o1 k1 hx;exact n.th b o2 k2
 ·obtain⟨m1,k1⟩:=base.tbls b ps q;obtain⟨m2,k2⟩:=un.tbls b _ k1;exact⟨m1++m2,by rw[k2,Array.append_assoc]⟩
 ·cases q:X.s₀.heap.get? ea with
  |none=>rfl
  |some o=>
   obtain⟨o1,k1⟩:=base.there ea o q (by simp);rw[new]at k1;cases k1
def Kv(X:Cx)(E:XK):xB->xy->Prop:=λe s'=>vk (vK X.prog X.w) X.A (leaving X.env e) (λ_ s''=>CXx X.prog X.w X.outer X.H₀ X.s₀ E e s'') (λe' s''=>CXx X.prog X.w X.outer X.H₀ X.s₀ E e' s'') s'
theorem ZE9(hs:X.stack=X.env::X.outer)(hex:X.ex=[])(hfr:X.env.frame=vR X.env.locals)(I:Inv X pins σ H s){e:xB}(h:CXx X.prog X.w X.stack H s E e s'):Kv X E e s':=by
 obtain⟨ea,cls,od,H',B,rfl,os,bare,un,hok,fly,bb,new,hE,hc⟩:=h;have fr:=I.ok.frames;have ff:=fly.fr;unfold Kv;refine ZJg (B:=B) (L:=X.env.locals) (outer:=X.outer) (by rw[fr,hs]) (by rw[<-hs];exact ff) hfr fly.tr fly.st fly.eb λh'' n=>?_
 rw[<-hs]at n;exact ZCk I hs hex hfr os bare un hok bb fly.al fly.eb fly.st new n hE hc
theorem ZJr{a:xW}{o:HO}(x:ObjOk P w H h a o):∃ob,h.get? a=vR ob:=by
 cases o with
 |lst xs=>obtain⟨_,_,_,_,e⟩:=x;exact⟨_,e⟩
 |tup xs=>obtain⟨_,_,_,_,e,_⟩:=x;exact⟨_,e⟩
 |dK kvs=>obtain⟨_,_,_,_,o,_,_,e,_⟩:=x;exact⟨_,e⟩
 |dT kvs=>obtain⟨_,_,_,_,o,_,_,e,_⟩:=x;exact⟨_,e⟩
 |set S n=>obtain⟨o,_,_,_,e,_⟩:=x;exact⟨_,e⟩
 |ins C dx fs=>obtain⟨_,_,_,e,_⟩:=x;exact⟨_,e⟩
 |own y=>exact x
 |xd fs=>obtain⟨_,⟨_,_,_,e,_⟩,_⟩:=x;exact⟨_,e⟩
 |rng lo hi=>obtain⟨_,_,_,e⟩:=x;exact⟨_,e⟩
 |frz ob u=>obtain⟨e,_⟩:=x;exact⟨_,e⟩
 |tbl ps=>exact⟨_,x⟩
 |met f y=>exact⟨_,x⟩
 |ext φ=>exact x.2.1
theorem ZCc{h':Heap}:∀{l:List Env},h.FunFrames base l->(∀b∈frs l,∀o,h.get? b=vR o->∃sl,h'.get? b=vR {o with slots:=sl})->h'.FunFrames base l
 |[],_,_=>trivial
 |env::r,⟨hk,⟨L,o,hf,hn,ho,hd⟩,hr⟩,k=>by
  have fe:frs (env::r)=L::frs r:=by unfold frs;rw[zN,hf]
  obtain⟨sl,z⟩:=k L (by rw[fe];exact zV) o ho;exact⟨hk,⟨L,_,hf,hn,z,hd⟩,ZCc hr λb hb o' ho'=>k b (by rw[fe];exact zZ _ hb) o' ho'⟩
structure Made (X:Cx) (H:Hp) (s:xy) (ea:xW) (cls:xB) (od:Option xW) (s':xy) (H':Hp):Prop where
 os:s'.os=s.os
 bare:AllBare s'.gens
 un:Un (frs X.stack) [] H H' s.heap s'.heap
 hok:HOk X.prog X.w H' s'.heap
 ob:∃oe vs,s'.heap.get? ea=vR oe/\oe.cls=cls/\oe.dict=od/\oe.data=.fields vs/\vs[1]?=vR .none
 fe:H' ea=vS
 new:s.heap.get? ea=vS
theorem ZE4(hs:X.stack=X.env::X.outer)(hex:X.ex=[])(hfr:X.env.frame=vR X.env.locals)(I:Inv X pins σ H s)(m:Made X H s ea cls od s' H')(hE:E cls od H')(hc:∃C,cls=.ref C):Kv X E (.ref ea) s':=by
 obtain⟨oe,vs,he,rfl,rfl,hd,h1⟩:=m.ob;have ne:ea∉frs X.stack:=λhm=>by obtain⟨_,o,ho,_⟩:=I.stack.mem hm;rw[m.new]at ho;cases ho
 have F':s'.heap.FunFrames X.base X.stack:=ZCc I.stack λb hb o ho=>m.un.slot b o ho (I.Q7 b hb) hb (by simp)
 have FB:s'.heap.FunFrames (PySem.W.hideAll s'.heap (ea::frs X.stack)) X.stack:=PySem.W.funFrames_hide F' λenv hm a q=>zZ _ (jY.mpr ⟨env,hm,q⟩)
 have eb:(PySem.W.hideAll s'.heap (ea::frs X.stack)).get? ea=vS:=by exact PySem.W.hideAll_none _ zV
 have st:(PySem.W.hideAll s'.heap (ea::frs X.stack)).StaysIn s'.heap:=λb o q=>PySem.W.of_hideAll _ q
 have bb:∀b o,s.heap.get? b=vR o->H b=vS->b∉frs X.stack->(PySem.W.hideAll s'.heap (ea::frs X.stack)).get? b=vR o:=λb o q hn hb=>PySem.W.hideAll_get _ (m.un.keep b o q hn hb (by simp)) λhm=>by
  rcases zq.mp hm with z|z
  ·rw[z,m.new]at q;cases q
  ·exact hb z
 have al:∀b,H' b≠vS->∃o,(PySem.W.hideAll s'.heap (ea::frs X.stack)).get? b=vR o:=λb hb=>by
  cases q:H' b with
  |none=>exact absurd q hb
  |some u=>
   obtain⟨o,k⟩:=ZJr (m.hok b u q);refine⟨o,PySem.W.hideAll_get _ k λhm=>?_⟩;rcases zq.mp hm with z|z
   ·rw[z,m.fe]at q;cases q
   ·obtain⟨_,o1,k1,_⟩:=I.stack.mem z;rw[m.un.free b o1 k1 (I.Q7 b z) (by simp)]at q;cases q
 unfold Kv;refine ZKS (B:=PySem.W.hideAll s'.heap (ea::frs X.stack)) (L:=X.env.locals) (outer:=X.outer) (by rw[I.ok.frames,hs]) (by rw[<-hs];exact FB) hfr he st eb hd h1 λh'' n=>?_
 rw[<-hs]at n;exact ZCk I hs hex hfr m.os m.bare m.un m.hok bb al eb st m.new n hE hc
end
section
variable{prog:xj}{w:xC}{A:xK}{E:xB->xy->Prop}{h:Heap}{g:Array GenState}{d:Drawn}{t:Nat}{os:OsState}
variable{nm q:Str}{C N:xW}{bs bm bmB:List xB}{hdct:Bool}{sn:List Str}{sub:List xB}{ab:Bool}{col:Option Bool}{dd:Option xW}{k0 k1 k2 k3 k5:Option xB}{B newId initId:String}
theorem ZKU(F:ExcBaseFacts B newId initId bmB)(T:OwnTail h bmB bm){mN:Str->Option xB}{rest:List xB}{fI:xW}{oI:Obj}{Q:Fin->xy->Prop}
  (hC:h.get? C=vR (excClassObj nm q C N bs bm hdct sn sub ab col dd k0 k1 k2 k3 k5 newId)) (hn:h.Ns N mN) (hi:mN "__init__"=vR (.ref fI)) (hfI:h.get? fI=vR oI) (hfc:oI.cls=.type "function")
  (hq:∀h' e,Heap.MadeExcOf h h' e (.ref C) rest->h.objs.size<=e->vk (vK prog w) A (call (.ref fI) (.ref e::rest)) (λr s'=>r=.none/\Q (.done (.ret (.ref e))) s') E ⟨h',g,d,t,os⟩) (hr:rest.length<=sizeLine):
  vk (vK prog w) A (Builtin.«type.__call__» ⟨.ref C::rest,[]⟩) Q E ⟨h,g,d,t,os⟩:=by
 repeat (first|with_reducible refine wpAny_loadPart_at hC ?_|with_reducible refine wpAny_madeBy_exc hC ?_|wp_step)
 refine codeAny_call_builtin_code (Code.quiet_builtin _ F.quiet) (wpAny_check_new_subT F T hC ?_);refine codeAny_exc_new_subT F T hC ?_ hr;show vk _ _ _ _ _ _;generalize hO1:({cls:=.type "tuple",data:=.seq rest.toArray}:Obj)=O1;generalize hO2:({cls:=.ref C,data:=.fields #[.ref h.objs.size,.none,.none,.none,.bool vU,.none]}:Obj)=O2;have kp:∀b o,h.get? b=vR o->((h.push O1).push O2).get? b=vR o:=λb o z=>zQ _ (zQ _ z)
 have hC1:=kp _ _ hC;have hf1:=kp _ _ hfI;have hn1:((h.push O1).push O2).Ns N mN:=hn.keeps kp;have T1:=T.keeps kp;have hg:((h.push O1).push O2).get? (h.objs.size+1)=vR O2:=Heap.get?_push_at (by simp only[qj]) (by rw[<-hO2];rfl);have hc2:O2.cls=.ref C:=by rw[<-hO2]
 have cc:(Value.ref C::bm).contains (.ref C)=vT:=by simp
 unfold isInstance
 repeat (first|(with_reducible refine wpAny_loadPart_at hg ?_;rw[hc2])|(with_reducible refine wpAny_isSubtype_exc hC1 ?_;rw[cc])|wp_step)
 show vk _ _ (typeLookup (.ref C) _) _ _ _;refine wpAny_typeLookup_tail hC1 hn1 T1 F.mroIs F.init.lookup ?_;rw[hi];refine vF (vB ?_);unfold bindSpecial;refine vB (wpAny_typeOf (T:="function") ⟨_,hf1,hfc⟩ ?_);rw[if_pos (by decide)];refine vL (vB (vG (hq _ (h.objs.size+1) ⟨kp,jR (qS _),h.objs.size,by rw[hg,<-hO2],jR (zK _),?_⟩ ?_) (λr s' z=>?_) λ_ _ x=>x))
 ·rw[<-hO1];exact zQ _ (Heap.get?_push_at rfl rfl)
 ·exact qS _
 ·obtain⟨rfl,hQ⟩:=z
  wp_walk
  exact hQ
theorem ZGW(F:ExcBaseFacts B newId initId bmB)(T:OwnTail h bmB bm){mN:Str->Option xB}{rest:List xB}{fI:xW}{oI:Obj}{Q:xB->xy->Prop}
  (hC:h.get? C=vR (excClassObj nm q C N bs bm hdct sn sub ab col dd k0 k1 k2 k3 k5 newId)) (hn:h.Ns N mN) (hi:mN "__init__"=vR (.ref fI)) (hfI:h.get? fI=vR oI) (hfc:oI.cls=.type "function")
  (hq:∀h' e,Heap.MadeExcOf h h' e (.ref C) rest->h.objs.size<=e->vk (vK prog w) (A.under (.builtin "type.__call__" ⟨.ref C::rest,[]⟩)) (call (.ref fI) (.ref e::rest)) (λr s'=>r=.none/\Q (.ref e) s') E ⟨h',g,d,t,os⟩) (hr:rest.length<=sizeLine):
  vk (vK prog w) A (call (.ref C) rest) Q E ⟨h,g,d,t,os⟩:=by
 have f1:=tc_lookup;have f2:=tc_bind (.ref C);have hT:(⟨h,g,d,t,os⟩:xy).TypeIs (.ref C) "type":=⟨_,hC,rfl⟩;refine wpAny_call (codeAny_of_tree ?_);show vk _ _ (callAny (.ref C) _) _ _ _
 repeat (any_goals (first|assumption|with_reducible refine wpAny_loadPart_at hC ?_|wp_step))
 refine⟨rfl,?_⟩;refine codeAny_call_builtin_at (Code.quiet_builtin _ (by decide +kernel)) entry_typeCall (wpAny_check_type_call_sub hC (ZKU F T hC hn hi hfI hfc (λh' e hm he=>?_) hr));exact hq h' e hm he
end
noncomputable abbrev vmro:List xB:=[.type "ValueError",.type "Exception",.type "BaseException",.type "object"]
def K5(K:PySem.W.Frag)(C:xW):Bool:=match K.lookup C with
 |some ⟨.type "type",_,.cls cd,sl⟩=>(match cd.mro,sl.toList with
  |.ref C'::bm,[_,_,_,_,vR (.builtin n),_]=>C'==C&&n == "ValueError.__new__" && !cd.hasDel&&cd.hasDict&&PySem.W.tailIn K vmro bm&&PySem.W.nsOkIn K cd.ns
  |_,_=>vU)
 |_=>vU
noncomputable def Kz(K:PySem.W.Frag)(C f:xW):Bool:=match K.lookup C with
 |some ⟨_,_,.cls cd,_⟩=>PySem.W.nsIn K cd.ns "__init__"==vR (vR (.ref f))
 |_=>vU
theorem ZE3{N:xW}{m:Str->Option xB}{n:Str}{v:xB}(X:K.In h)(G:h.Ns N m)(e:PySem.W.nsIn K N n=vR (vR v)):m n=vR v:=by
 obtain⟨o,es,ep,ho,hd,_,hf⟩:=G;unfold PySem.W.nsIn at e;split at e
 ·rename_i c d es' n' sl q;have:=X _ _ q;rw[ho]at this;cases this;cases hd;split at e
  ·rename_i y he;rw[<-hf];unfold nsFind findBy;rw[<-Array.find?_toList,he];exact Option.some.inj e
  ·split at e<;>cases e
 ·cases e
theorem Nq(X:K.In h)(q:K5 K C=vT):∃bm N nm qn bs sn sub ab col dd k0 k1 k2 k3 k5,h.get? C=vR (excClassObj nm qn C N bs bm vT sn sub ab col dd k0 k1 k2 k3 k5 "ValueError.__new__")/\OwnTail h vmro bm/\
  (∃m,h.Ns N m/\∀f,Kz K C f=vT->m "__init__"=vR (.ref f)):=by
 unfold K5 at q;split at q
 ·rename_i dd cd sl ho;split at q
  ·rename_i C' bm k0 k1 k2 k3 n k5 hm hs;simp only[zB,beq_iff_eq,Bool.not_eq_true']at q;obtain⟨⟨⟨⟨⟨rfl,rfl⟩,hdel⟩,hdc⟩,ht⟩,hok⟩:=q;have hi:∀f,Kz K C' f=vT->PySem.W.nsIn K cd.ns "__init__"=vR (vR (.ref f)):=λf z=>by unfold Kz at z;rw[ho]at z;exact beq_iff_eq.mp z
   obtain⟨nm,bs,mro,ns,qn,hd,sn,sub,ab,col,del⟩:=cd;dsimp only at hm hdel hok hdc hi;subst hm hdel hdc;have hsl:sl= #[k0,k1,k2,k3,vR (.builtin "ValueError.__new__"),k5]:=by obtain⟨l⟩:=sl;simp only at hs;rw[hs]
   subst hsl;exact⟨bm,ns,nm,qn,bs,sn,sub,ab,col,dd,k0,k1,k2,k3,k5,X _ _ ho,PySem.W.tail_of_in X ht,_,.of_isNs (PySem.W.isNs_of_in X hok),λf z=>ZE3 X (.of_isNs (PySem.W.isNs_of_in X hok)) (hi f z)⟩
  ·cases q
 ·cases q
noncomputable def exO(C:xW)(od:Option xW)(t:xW):Obj:={cls:=.ref C,dict:=od,data:=.fields #[.ref t,.none,.none,.none,.bool vU,.none]}
def exo(e C:xW)(od:Option xW)(h:Heap):Prop:=∃t,h.get? e=vR (exO C od t)
theorem Ym{e:xW}(x:exo e C od h):ObjOk P w H h e (.ext (exo e C od)):=
 ⟨x,let⟨t,k⟩:=x;⟨_,k⟩,λh1 h2 ⟨t,k⟩ s=>⟨t,s _ k⟩⟩
section
variable{X:Cx}{C W:xW}{x:Str}{mc:xB}{p apos pos:Pos}{a1 a2:xY}{t:TA}
noncomputable def tBI(C:xW)(t:TA):TE:=λσ H Q=>t σ H λvs H1=>∃e v,vs=[.ref e,v]/\H1 e=vR (.ext (exo e C vS))/\Q .non H1
theorem ZIw{a:xW}{o:HO}(h:H a=vR o):upd H a o=H:=by
 funext b;unfold upd;split
 ·rename_i z;rw[z,h]
 ·rfl
theorem ZK1{pl:Sem Bool}(hC:K5 X.K C=vT)(hg:Gl X x)(hm:X.mg x=vR (.ref W))(hs:PySem.W.specialIn X.K (.ref W) "__getattribute__"=vR (vR (.builtin "type.__getattribute__")))(hr:PySem.W.readsIn X.K W mc=vT)
  (hf:PySem.W.findCls X.K (.ref W) mc "__init__"=vR (.val (.builtin "ValueError.__init__"))) (ha:PA X [a1,a2] t) (hdb:(x==("__debug__":Str))=vU:=by decide)
  (he:vj [a1,a2] X.env=(vU,eval a1 X.env)::vj [a2] X.env:=by rfl) (hpl:(xF pos (vj [a2] X.env)).any (·.1)=vU:=by rfl)
  (ht:eval (.Call (.Attribute (.Name x p) "__init__" apos) [a1,a2] [] pos) X.env=(do
   let ov<-eval (.Name x p) X.env
   standAt apos.atName
   let(f,first)<-holding [ov] (getMethod ov "__init__" pl)
   callWith pos f first (xF pos (vj [a1,a2] X.env)) (xG pos (vX [] X.env))):=by rfl):
  PE X (.Call (.Attribute (.Name x p) "__init__" apos) [a1,a2] [] pos) (tBI C t):=by
 intro pins s σ H Q I h;refine PySem.W.methodCall_KW (pl:=pl) (Jq I hg hm ?_ hdb) ht;refine PySem.W.method_cls I.kIn hs (PySem.W.cls_value I.kIn hr hf (by decide) ?_);refine PyProof.Rows.callWith_builtin1 (thn (ha pos pins _ σ H _ (I.tok _) h) λus s1 ⟨vs,H1,I1,r,e,v,ev,hx,q⟩=>?_) he hpl;subst ev;obtain⟨u,rfl⟩:∃u,us=[.ref e,u]:=by
  cases r with
  | cons r1 r2=>
   cases r2 with
   |cons r3 r4=>
    cases r4
    obtain rfl:=(show _=Value.ref e from r1)
    exact⟨_,rfl⟩
 obtain⟨⟨tp,hob⟩,_,_⟩:=I1.hok e _ hx;obtain⟨bm,N,nm,qn,bs,sn,sub,ab,col,dd,k0,k1,k2,k3,k5,hcl,T,m,hN,_⟩:=Nq I1.kIn hC;obtain⟨hp,g,d,tk,os⟩:=s1;have F:=PySem.F.excBase_ValueError;refine wpAny_call (codeAny_call_builtin F.init.plain F.initEntry (wpAny_check_init_subT F T hcl hob rfl ?_))
 wp_walk
 show EP X pins σ Q .none {heap:=(hp.push {cls:=.type "tuple",data:=.seq #[u]}).update e (Obj.mapFields (·.setIfInBounds 0 (Value.ref hp.objs.size))),gens:=g,drawn:=d,toks:=tk,os:=os}
 have he1:(hp.push {cls:=.type "tuple",data:=.seq #[u]}).get? e=vR (exO C vS tp):=zQ _ hob
 have he2:((hp.push {cls:=.type "tuple",data:=.seq #[u]}).update e (Obj.mapFields (·.setIfInBounds 0 (Value.ref hp.objs.size)))).get? e=vR (exO C vS hp.objs.size):=qV _ he1 rfl
 have J:=I1.write (t':=tk) (x:=e) (e:=e) (o:=.ext (exo e C vS)) (h':=(hp.push {cls:=.type "tuple",data:=.seq #[u]}).update e (Obj.mapFields (·.setIfInBounds 0 (Value.ref hp.objs.size)))) (by rw[hx];trivial) (.inl rfl)
  (λb o n k=>by rw[qK _ _ (Ne.symm n)];exact zQ _ k) ⟨_,he2⟩ (Ym ⟨_,he2⟩)
 rw[ZIw hx]at J;exact⟨.non,H1,J,rfl,q⟩
end
noncomputable def Mq:List xB->Bool
 |[.type a,.type b,.type c,.type d]=>a == "ValueError"&&b == "Exception"&&c == "BaseException"&&d == "object"
 |.ref _::r=>Mq r
 |_=>vU
theorem ZCv{a b c d:String}(e:Mq [.type a,.type b,.type c,.type d]=vT): [Value.type a,.type b,.type c,.type d]=vmro:=by
 simp only[Mq,zB,beq_iff_eq]at e;obtain⟨⟨⟨rfl,rfl⟩,rfl⟩,rfl⟩:=e
 rfl
theorem ZAt(self:xB):∀{l:List xB},Mq l=vT->refuseLoop self "__setattr__" l=pure ()
 |[.type a,.type b,.type c,.type d],e=>by rw[ZCv e];exact PySem.F.store_ValueError.passes self
 |.ref c::r,e=>by rw[refuseLoop_ref];exact ZAt self (l:=r) e
theorem ZBS:∀{l:List xB},Mq l=vT->l.contains (.type "object")=vT
 |[.type a,.type b,.type c,.type d],e=>by rw[ZCv e];simp
 |.ref c::r,e=>by rw[List.contains_cons,ZBS (l:=r) e,Bool.or_true]
def Uj(K:PySem.W.Frag)(C:xW):Bool:=(PySem.W.clsIn K C).any λcd=>Mq cd.mro
section
open PySem.W
variable{prog:xj}{w:xC}{A:xK}{s:xy}{K:vO}{x C:xW}{R:Result->xy->Prop}
theorem ZHi{ox:Obj}{od:Option Obj}{name:Str}{tk:Tok}{v:xB}{r:Option xB}(X:K.In s.heap)(I:InstAt s.heap x ox C od)(hp:Uj K C=vT)(ht:takerIn K C name=vR r)
  (h:∀b,vk (vK prog w) A.in1 (match r with |some a=>Builtin.ObjectAttr.setByDescriptor a (.ref x) v|none=>Builtin.ObjectAttr.storeInOwnDict (.ref x) (.ref C) (.str name tk) name v b)
   (λfin s'=>match fin with | .done f=>R (.ok f) s' | .again c'=>c'.quiet=vT/\codeAny (vK prog w) A c' R s') (λe s'=>R (.error e) s') s):
  codeAny (vK prog w) A (.call (.builtin "object.__setattr__") ⟨[.ref x,.str name tk,v],[]⟩) R s:=by
 obtain⟨cd,hcd,hve⟩:=any_some hp;obtain⟨at0,hat,htr⟩:=Option.bind_eq_some_iff.mp ht;have full:cd.mro≠[]:=λz=>by rw[z]at hve;cases hve
 have top:mroIn K C (.type "object")=vR vT:=by unfold mroIn;rw[hcd];show(if cd.mro.isEmpty=vT then _ else _)=_;rw[if_neg (by simpa using full),ZBS hve]
 have line:Looks (vK prog w) s.heap (mroOf (.ref C)) cd.mro:=(looks_clsIn X hcd).andThen Looks.now;have obj:Looks (vK prog w) s.heap (isInstance (.ref x) (.type "object")) vT:=I.type.andThen (looks_mroIn X top);have tk3:Looks (vK prog w) s.heap (Builtin.ObjectAttr.storeTaker? at0) r:=by
  rcases at0 with _|av
  ·cases htr;exact Looks.now
  ·obtain⟨bb,h1,h2⟩:=zM.mp htr;subst h2
   exact(looks_takesIn X h1).andThen (by cases bb<;>exact Looks.now)
 refine codeAny_call_builtin F.store_object.slot.plain F.store_object.entry (@check_slot (vK prog w) _ _ _ "object.__setattr__" "object" "__setattr__" (.ref x) [.str name tk,v] [] _ F.store_object.kind F.store_object.split obj (F.store_object.args (.ref x) (.str name tk) v) ?_);rw[osa_eq,refuse_eq];apply vB;apply vB;refine I.type.here ?_;apply vB;refine line.here ?_;rw[ZAt _ hve]
 apply vL;apply vB;refine I.type.here ?_;apply vB;refine(looks_findIn X hat).here ?_;apply vB;exact tk3.here (h _)
end
section
variable{prog:xj}{w:xC}{A:xK}{E:xB->xy->Prop}{s:xy}{K:PySem.W.Frag}{e C t:xW}{name:Str}{v:xB}
theorem ZKC{Q:Unit->xy->Prop}(X:K.In s.heap)(he:s.heap.get? e=vR (exO C vS t))
  (hs:PySem.W.findIn K (.ref C) "__setattr__"=vR (vR (.builtin "object.__setattr__"))) (hp:Uj K C=vT) (ht:PySem.W.takerIn K C name=vR vS) (hh:PySem.W.hasDictIn K C=vT)
  (h:∀h' dx tk,s.heap.objs.size<=dx->h'.get? e=vR (exO C (vR dx) t)->h'.Ns1 dx (λy=>if y=name then vR v else vS)->(∀b o,b≠e->s.heap.get? b=vR o->h'.get? b=vR o)->Q () {s with heap:=h',toks:=tk}):
  vk (vK prog w) A (setAttr (.ref e) name v) Q E s:=by
 have J:PySem.W.InstAt s.heap e (exO C vS t) C vS:=⟨he,rfl,rfl,trivial⟩;refine PySem.W.set_plain X J hs (ZHi (s:={s with toks:=s.toks+1}) (r:=vS) X J hp ht λb=>?_);obtain⟨cd,hc,hd'⟩:=PySem.W.any_some hh;refine vB (vL (vB (vB (wpAny_loadPart he (vB (PySem.W.Looks.here (s:={s with toks:=s.toks+1}) (PySem.W.looks_clsIn X hc) ?_))))));rw[hd'];have hx1:(s.heap.push {cls:=.type "dict",data:=.dict #[]}).get? e=vR (exO C vS t):=zQ _ he
 have ne:e≠s.heap.objs.size:=zF (zW he);refine vB (wpAny_alloc' ?_);refine vB (wpAny_update' hx1 ?_);unfold dictMade;refine vL ?_;have hgd:((s.heap.push {cls:=.type "dict",data:=.dict #[]}).update e λo=>{cls:=o.cls,dict:=vR s.heap.objs.size,data:=o.data,slots:=o.slots}).get? s.heap.objs.size=vR {cls:=.type "dict",data:=.dict #[]}:=
  (Heap.get?_update_ne _ _ _ _ ne.symm).trans (Heap.get?_push_at rfl rfl)
 have hnd:((s.heap.push {cls:=.type "dict",data:=.dict #[]}).update e λo=>{cls:=o.cls,dict:=vR s.heap.objs.size,data:=o.data,slots:=o.slots}).Ns s.heap.objs.size (λ_=>vS):=
  ⟨_,#[],_,hgd,rfl,λy hy=>absurd hy (by simp),λ_=>rfl⟩
 show vk _ _ (Builtin.ObjectAttr.storeInDict s.heap.objs.size _ name v) _ _ _;unfold Builtin.ObjectAttr.storeInDict Builtin.ObjectAttr.newKeyGuard;refine vB (vL (vB (wpAny_nsSet1 (Heap.Ns1.of_empty hnd) λh' hn' hs'=>?_)));obtain⟨oD,esD,epD,hoD,hdD,hcD⟩:=hn'.count (Within.cons name v Within.nil);refine vB (wpAny_lookBehind hoD (by rw[hdD];exact pastItsLine_dict (z0 hcD (by rw[zR,List.length_nil,vq];lia))) ?_)
 refine vL (h h' s.heap.objs.size _ (zK _) ?_ hn' λb o n hb=>?_)
 ·exact(hs'.2 e ne).trans (qV _ hx1 rfl)
 ·exact(hs'.2 b (zF (zW hb))).trans ((Heap.get?_update_ne _ _ _ _ n).trans (zQ _ hb))
end
structure XSet (K:PySem.W.Frag) (C:xW) (f:Str):Prop where
 ec:K5 K C=vT
 sa:PySem.W.findIn K (.ref C) "__setattr__"=vR (vR (.builtin "object.__setattr__"))
 po:Uj K C=vT
 tk:PySem.W.takerIn K C f=vR vS
 hd:PySem.W.hasDictIn K C=vT
section
variable{X:Cx}{C:xW}{f:Str}{o value:xY}{pos pos':Pos}{ta tv:TE}
def sXf(C:xW)(f:Str)(ta tv:TE):TS:=λD σ H=>tv σ H λy H1=>ta σ H1 λx H2=>∃e,x=.ref e/\H2 e=vR (.ext (exo e C vS))/\
 ∀dx o,H2 dx=vS->dx≠e->D.nx σ (upd (upd H2 e (.ext (exo e C (vR dx)))) dx (.frz o (.xd [(f,y)])))
theorem ZLS(S:XSet X.K C f)(ha:PE X o ta)(hv:PE X value tv)(hs:swapsWith value (vR (.Attribute o f pos')) pos.line X.env=pure vU):PS X (.Assign [.Attribute o f pos'] value pos) (sXf C f ta tv):=by
 intro pins s σ H D I h;refine plainObj_wpAny_Assign_Attribute (thn (hv pins s σ H _ I h) λu s1 ⟨y,H1,I1,ry,q⟩=>thn (ha pins s1 σ H1 _ I1 q) λov s2 ⟨x,H2,I2,rx,e,ex,hx,q2⟩=>?_) hs;subst ex;obtain rfl:ov=Value.ref e:=rx;obtain⟨⟨t,hob⟩,_,_⟩:=I2.hok e _ hx;refine ZKC I2.kIn hob S.sa S.po S.tk S.hd λh' dx tk hz he' hn kp=>?_
 have fx:H2 dx=vS:=I2.hok.fresh hz;have ne:dx≠e:=λz=>by rw[z,hx]at fx;cases fx
 obtain⟨od,hod⟩:∃od,h'.get? dx=vR od:=by obtain⟨o,_,_,k,_⟩:=hn;exact⟨o,k⟩
 have J:=I2.write (t':=tk) (x:=e) (e:=e) (o:=.ext (exo e C (vR dx))) (h':=h') (by rw[hx];trivial) (.inl rfl) (λb o n k=>kp b o n k) ⟨_,he'⟩ (Ym ⟨t,he'⟩);have fx':upd H2 e (.ext (exo e C (vR dx))) dx=vS:=by unfold upd;rw[if_neg ne];exact fx
 have K2:HOk X.prog X.w (upd (upd H2 e (.ext (exo e C (vR dx)))) dx (.frz od (.xd [(f,y)]))) h':=λb ob z=>by
  by_cases zb:b=dx
  ·subst zb;have zo:ob=.frz od (.xd [(f,y)]):=by
    have z':upd (upd H2 e (.ext (exo e C (vR b)))) b (.frz od (.xd [(f,y)])) b=vR (.frz od (.xd [(f,y)])):=by unfold upd;rw[if_pos rfl]
    rw[z']at z;exact(Option.some.inj z).symm
   subst zo;refine⟨hod,_,hn,λg=>?_⟩;by_cases zg:g=f
   ·subst zg;simp[q0];exact ry
   ·have:(g==f)=vU:=by simpa using zg
    simp[q0,this,zg]
    trivial
  ·have z':upd H2 e (.ext (exo e C (vR dx))) b=vR ob:=by unfold upd at z⊢;rw[if_neg zb]at z;exact z
   refine(J.hok b ob z').stay (λ_ _ _ k=>k) (λb' k=>?_) λb' xs k=>?_
   ·have:b'≠dx:=λw=>by rw[w,fx']at k;cases k
    show upd _ dx _ b'=_;unfold upd at k⊢;rw[if_neg this];exact k
   ·have:b'≠dx:=λw=>by rw[w,fx']at k;cases k
    show upd _ dx _ b'=_;unfold upd at k⊢;rw[if_neg this];exact k
 have ud:∀b,b≠e->b≠dx->upd (upd H2 e (.ext (exo e C (vR dx)))) dx (.frz od (.xd [(f,y)])) b=H2 b:=λb n1 n2=>by unfold upd;rw[if_neg n2,if_neg n1]
 have U:Un X.fs [] H2 (upd (upd H2 e (.ext (exo e C (vR dx)))) dx (.frz od (.xd [(f,y)]))) s2.heap h':=by
  have nd:∀b o,s2.heap.get? b=vR o->b≠dx:=λb o k z=>by have:=zW k;rw[z]at this;exact absurd this (Nat.not_lt.mpr hz)
  have n0:∀b,H2 b=vS->b≠e:=λb k z=>by rw[z,hx]at k;cases k
  refine⟨λb o k n _ _=>kp b o (n0 b n) k,λb o k n _ _=>⟨o.slots,kp b o (n0 b n) k⟩,λb o k n _=>by rw[ud b (n0 b n) (nd b o k)];exact n,λb o k _=>?_,λb xs k=>?_,λb o u k=>?_,λb ps k=>⟨#[],?_⟩⟩
  ·by_cases z:b=e
   ·subst z;exact⟨_,he'⟩
   ·exact⟨o,kp b o z k⟩
  ·rw[ud b (λz=>by rw[z,hx]at k;cases k) (λz=>by rw[z,fx]at k;cases k)];exact k
  ·rw[ud b (λz=>by rw[z,hx]at k;cases k) (λz=>by rw[z,fx]at k;cases k)];exact k
  ·rw[ud b (λz=>by rw[z,hx]at k;cases k) (λz=>by rw[z,fx]at k;cases k)];simpa using k
 exact⟨σ,_,I2.un (t':=tk) U K2,q2 dx od fx ne⟩
end
section
variable{X:Cx}{j:Nat}{v s1 s2:Str}{k1 k2 p1 p2 pv pf pos}
noncomputable def tFs(j:Nat):TE:=λσ H Q=>∃i:Int,σ[j]?=vR (vR (.int i))/\i.natAbs.log2<1920/\(Str.ofString (toString i)).length<=1000/\∀x,Q (.str x) H
theorem ZJU(hN:X.N[j]?=vR v)(hv:Vis X.env.scope v)(l1:s1.length<=1000)(l2:s2.length<=1000)(hd:(v==("__debug__":Str))=vU:=by decide)(hcd:(v==("__classdict__":Str))=vU:=by decide):
  PE X (.JoinedStr [.Constant (.str s1) k1 p1,.FormattedValue (.Name v pv) (-1) vS pf,.Constant (.str s2) k2 p2] pos) (tFs j):=by
 intro pins s σ H Q I h;obtain⟨i,hσ,hi,ls,q⟩:=h;have la:∀a b:Str,(a++b).length=a.length+b.length:=λa b=>by show(Str.append a b).length=_;unfold Str.append Str.length;simp
 have sz:∀n,n<=1000000->n<=sizeLine:=λn h=>by rw[vq];lia
 refine JoinedStr_many (joinParts_cons (thn (W8 (X:=X) pins s σ H (λx H'=>x=.str s1/\H'=H) I ⟨rfl,rfl⟩) λu s1' h1=>?_));obtain⟨x,H1,I1,rx,rfl,rfl⟩:=h1;obtain⟨t0,rfl⟩:=rx;refine⟨sz _ (by rw[la];show 0+_<=_;lia),?_⟩;refine joinParts_cons (FormattedValue_plain (thn (Oh (pos:=pv) hN hv hd hcd pins s1' σ H1 (λx H'=>x=.int i/\H'=H1) I1 ?_) λu s2' h1=>?_))
 ·exact⟨.int i,hσ,rfl,rfl⟩
 obtain⟨x,H2,I2,rx,rfl,rfl⟩:=h1;obtain⟨t1,rfl⟩:=rx;refine formatField_int_small hi ⟨sz _ (by rw[la,la];show 0+_+_<=_;lia),?_⟩;refine joinParts_consE (joinParts_cons (thn (W8 (X:=X) pins _ σ H2 (λx H'=>x=.str s2/\H'=H2) (I2.tok _) ⟨rfl,rfl⟩) λu s3' h1=>?_));obtain⟨x,H3,I3,rx,rfl,rfl⟩:=h1;obtain⟨t2,rfl⟩:=rx;refine⟨sz _ (by rw[la,la,la];show 0+_+_+_<=_;lia),?_⟩;refine joinParts_nilE (joinParts_nil ⟨.str _,H3,I3.tok _,⟨_,rfl⟩,q _⟩ (sz _ (by rw[la,la,la];show 0+_+_+_<=_;lia)))
end
def Vj(i:Int):Prop:=i.natAbs.log2<1920/\(Str.ofString (toString i)).length<=1000
def spI(C:xW)(f:Str):Sp:=λvs H Q _=>∃(e:xW)(i:Int),vs=[.ref e,.int i]/\Vj i/\H e=vR (.ext (exo e C vS))/\∀dx o,H dx=vS->dx≠e->Q .non (upd (upd H e (.ext (exo e C (vR dx)))) dx (.frz o (.xd [(f,.int i)])))
structure XBase (K:PySem.W.Frag) (mg:Str->Option xB) (x:Str) (W:xW):Prop where
 m:mg x=vR (.ref W)
 s:PySem.W.specialIn K (.ref W) "__getattribute__"=vR (vR (.builtin "type.__getattribute__"))
 r:PySem.W.readsIn K W (.type "type")=vT
 f:PySem.W.findCls K (.ref W) (.type "type") "__init__"=vR (.val (.builtin "ValueError.__init__"))
theorem ZFV{xw v f s1 s2:Str}{fa W:xW}{pw pa pc pe p1 p2 p3 p4 p5 p6 p7 p8 pv pf:Pos}{k1 k2}
  (F:Fun K x qual st fa fd) (S:FnScope ["self",v] ["self",v] (Ao st)) (XS:XSet K C f) (XB:XBase K mg xw W)
  (hb:Dv st=[.Expr (.Call (.Attribute (.Name xw pw) "__init__" pa) [.Name "self" p1,.JoinedStr [.Constant (.str s1) k1 p2,.FormattedValue (.Name v pv) (-1) vS pf,.Constant (.str s2) k2 p3] p4] [] pc) pe,.Assign [.Attribute (.Name "self" p5) f p6] (.Name v p8) p7])
  (l1:s1.length<=1000) (l2:s2.length<=1000) (hgl:(Ao st).names.lookup xw=vR .globalImplicit) (hdw:(xw==("__debug__":Str))=vU) (hdv:(v==("__debug__":Str))=vU) (hcv:(v==("__classdict__":Str))=vU)
  (hvs:Vis (Ao st) "self") (hvv:Vis (Ao st) v)
  (hev:∀env:Env,∃pl:Sem Bool,eval (.Call (.Attribute (.Name xw pw) "__init__" pa) [.Name "self" p1,.JoinedStr [.Constant (.str s1) k1 p2,.FormattedValue (.Name v pv) (-1) vS pf,.Constant (.str s2) k2 p3] p4] [] pc) env=(do
   let ov<-eval (.Name xw pw) env
   standAt pa.atName
   let(f,first)<-holding [ov] (getMethod ov "__init__" pl)
   callWith pc f first (xF pc (vj [.Name "self" p1,.JoinedStr [.Constant (.str s1) k1 p2,.FormattedValue (.Name v pv) (-1) vS pf,.Constant (.str s2) k2 p3] p4] env)) (xG pc (vX [] env)))):
  FnOk P w K mg base CX0 (k+1) fa fd ["self",v] (spI C f):=by
 refine F.ok S (λvs H Q E ⟨e,i,z,_⟩=>by rw[z];rfl) (λcdv A outer s H vs Q E hr h=>?_);obtain⟨e,i,rfl,hi,hx,q⟩:=h;rw[hb];generalize hX:(Dy CX0 P w K mg base ["self",v] qual (Ao st) fa cdv A outer s H E).nox=X;have hK:X.K=K:=by rw[<-hX];rfl
 have hm:X.mg=mg:=by rw[<-hX];rfl
 have hN:X.N=(["self",v]:List Str):=by rw[<-hX];rfl
 have hs:X.env.scope=Ao st:=by rw[<-hX];rfl
 have pself:∀p,PE X (.Name "self" p) (Lk 0):=λp=>Oh (by rw[hN];rfl) (by rw[hs];exact hvs) (by decide) (by decide)
 have pv':∀p,PE X (.Name v p) (Lk 1):=λp=>Oh (by rw[hN];rfl) (by rw[hs];exact hvv) hdv hcv
 have hG:Gl X xw:=by unfold Gl;rw[<-hX];exact hgl
 obtain⟨pl,hpl⟩:=hev X.env;have c1:PE X (.Call (.Attribute (.Name xw pw) "__init__" pa) [.Name "self" p1,.JoinedStr [.Constant (.str s1) k1 p2,.FormattedValue (.Name v pv) (-1) vS pf,.Constant (.str s2) k2 p3] p4] [] pc) (tBI C (Z7 (Lk 0) (Z7 (tFs 1) ZAa))):=
  ZK1 (mc:=.type "type") (W:=W) (by rw[hK];exact XS.ec) hG (by rw[hm];exact XB.m) (by rw[hK];exact XB.s) (by rw[hK];exact XB.r) (by rw[hK];exact XB.f) (Jd (pself p1) (Jd (ZJU (by rw[hN];rfl) (by rw[hs];exact hvv) l1 l2 hdv hcv) Pg)) hdw rfl rfl hpl
 have c2:PS X (.Assign [.Attribute (.Name "self" p5) f p6] (.Name v p8) p7) (sXf C f (Lk 0) (Lk 1)):=ZLS (by rw[hK];exact XS) (pself p5) (pv' p8) rfl;refine⟨_,ZD3 (ZBZ c1 rfl) (ZDU c2),?_⟩;refine⟨.ref e,rfl,i,rfl,hi.1,hi.2,λxx=>⟨e,_,rfl,hx,?_⟩⟩;exact⟨.int i,rfl,.ref e,rfl,e,rfl,hx,q⟩
section
variable{M:Model}{A:xK}{E:xB->xy->Prop}{env:Env}
variable{nm q:Str}{C N:xW}{bs bm:List xB}{hdct:Bool}{sn:List Str}{sub:List xB}{ab:Bool}{col:Option Bool}{dd:Option xW}{k0 k1 k2 k3 k5:Option xB}{newId:String}
theorem ZFl{x:Sem xB}{Q:Flow->xy->Prop}(hh:A.handled=vS)
  (h:vk M A x (λv s₁=>∃e od t bm N nm q bs hdct sn sub ab col dd k0 k1 k2 k3 k5 newId,v=.ref e/\s₁.heap.get? C=vR (excClassObj nm q C N bs bm hdct sn sub ab col dd k0 k1 k2 k3 k5 newId)/\bm.contains (.type "BaseException")=vT/\
   s₁.heap.get? e=vR {cls:=.ref C,dict:=od,data:=.fields #[.ref t,.none,.none,.none,.bool vU,.none]}/\E (.ref e) s₁) E s):vk M A (raiseStmt env (vR x) vS) Q E s:=by
 unfold raiseStmt;refine vB (vG h (λv s₁ h₁=>?_) λ_ _ x=>x);obtain⟨e,od,t,bm,N,nm,q,bs,hdct,sn,sub,ab,col,dd,k0,k1,k2,k3,k5,newId,rfl,hC,hb,he,hE⟩:=h₁;have hcB:(Value.ref C::bm).contains (.type "BaseException")=vT:=by rw[List.contains_cons,hb,Bool.or_true]
 obtain⟨hp,g,d,tk,os⟩:=s₁
 repeat (first|with_reducible refine wpAny_loadPart_at he ?_|with_reducible refine wpAny_loadPart_at hC ?_|(with_reducible refine wpAny_isSubtype_exc hC ?_;rw[hcB])|wp_step)
 exact wpAny_raiseNew_none hh hE
theorem ZKs{x:xY}{pos:Pos}{Q:Flow->xy->Prop}(hh:A.handled=vS)
  (h:vk M A (eval x env) (λv s₁=>∃e od t bm N nm q bs hdct sn sub ab col dd k0 k1 k2 k3 k5 newId,v=.ref e/\s₁.heap.get? C=vR (excClassObj nm q C N bs bm hdct sn sub ab col dd k0 k1 k2 k3 k5 newId)/\bm.contains (.type "BaseException")=vT/\
   s₁.heap.get? e=vR {cls:=.ref C,dict:=od,data:=.fields #[.ref t,.none,.none,.none,.bool vU,.none]}/\E (.ref e) s₁) E s):vk M A (exec (.Raise (vR x) vS pos) env) Q E s:=by
 rw[arm_exec_Raise];refine vB (wpAny_standAt (ZFl (C:=C) hh ?_));exact vB (vG h (λv s₃ h₃=>vB (wpAny_standAt (vL h₃))) λ_ _ x=>x)
end
section
variable{X:Cx}{C fI:xW}{f x:Str}{np cpos pos:Pos}{a:xY}{ta:TA}{E:XK}{k:Nat}{fd:xq}{v:Str}
def tRz(C:xW)(f:Str)(E:XK)(ta:TA):TS:=λ_ σ H=>ta σ H λvs H1=>∃i:Int,vs=[.int i]/\Vj i/\∀dx o,H1 dx=vS->E (.ref C) (vR dx) (upd H1 dx (.frz o (.xd [(f,.int i)])))
theorem ZFX(hcalm:X.calm=vT)(hs:X.stack=X.env::X.outer)(hex:X.ex=[])(hfr:X.env.frame=vR X.env.locals)(hxe:∀e s,Kv X E e s->X.xe e s)
  (XS:XSet X.K C f) (hi:Kz X.K C fI=vT) (hfn:∃o,X.K.lookup fI=vR o/\o.cls=.type "function") (F:FnOk X.prog X.w X.K X.mg X.base CX0 k fI fd ["self",v] (spI C f)) (hr:Room (k+1) X.A) (hb:Binds X.K fd ["self",v] [])
  (hg:Gl X x) (hm:X.mg x=vR (.ref C)) (hk:PySem.W.keepIn X.K (.ref C)=vT) (ha:PA X [a] ta) (hdb:(x==("__debug__":Str))=vU:=by decide)
  (he:vj [a] X.env=(vU,eval a X.env)::vj [] X.env:=by rfl) (hpl:(xF cpos (vj [] X.env)).any (·.1)=vU:=by rfl):
  PS X (.Raise (vR (.Call (.Name x np) [a] [] cpos)) vS pos) (tRz C f E ta):=by
 intro pins s σ H D I h;refine ZKs (C:=C) (I.ok.hd hcalm) ?_;refine vA (Jq I hg hm ?_ hdb);refine PySem.W.callWith_K (h₀:=X.base) I.ok.mod.kin hk (thn (ha cpos pins s σ H _ I h) λus s1 ⟨vs,H1,I1,r,i,ev,hi',q⟩=>⟨I1.kIn,?_⟩) he hpl;subst ev;obtain⟨bm,N,nm,qn,bs,sn,sub,ab,col,dd,k0,k1,k2,k3,k5,hcl,T,m,hN,hin⟩:=Nq I1.kIn XS.ec;obtain⟨oI,hfI,hfc⟩:=hfn;have hfI:=I1.kIn _ _ hfI;have hl1:us.length<=sizeLine:=by rw[<-r.length,vq];show 1<=_;decide
 obtain⟨hp,g,d,tk,os⟩:=s1;have FB:=PySem.F.excBase_ValueError;refine ZGW FB T hcl hN (hin fI hi) hfI hfc (λh' e hm' hz=>?_) hl1;obtain⟨t,ht,_,_⟩:=hm'.there;have ho:exo e C vS h':=⟨t,ht⟩;have I2:=I1.laid (t':=tk) (a:=e) (o:=.ext (exo e C vS)) (h':=h') hm'.keeps hz (Ym ho);have fe:H1 e=vS:=I1.hok.fresh hz;obtain⟨u,rfl⟩:∃u,us=[u]:=by
  cases r with
  |cons r1 r2=>cases r2;exact⟨_,rfl⟩
 have r2:Vals [V.ref e,V.int i] [Value.ref e,u]:=.cons rfl r;have h2e:upd H1 e (.ext (exo e C vS)) e=vR (.ext (exo e C vS)):=by unfold upd;rw[if_pos rfl]
 have h2n:∀b,b≠e->upd H1 e (.ext (exo e C vS)) b=H1 b:=λb n=>by unfold upd;rw[if_neg n]
 refine wpAny_call (xO (F.run _ X.stack _ _ ⟨[Value.ref e,u],[]⟩ [Value.ref e,u] [V.ref e,V.int i] (λw H3=>w=.non/\∃dx o,H1 dx=vS/\dx≠e/\H3=upd (upd (upd H1 e (.ext (exo e C vS))) e (.ext (exo e C (vR dx)))) dx (.frz o (.xd [(f,.int i)]))) E0 (hr.make C [u] [])
  (I2.env0.make C [u] []) (by simpa using hb _ [Value.ref e,u] I2.kIn rfl) r2 ⟨e,i,rfl,hi',h2e,λdx o n1 n2=>⟨rfl,dx,o,by rw[<-h2n dx n2];exact n1,n2,rfl⟩⟩) λr s' hq'=>?_)
 cases r with
 |error e=>exact hq'.elim
 | ok fl=>
  cases fl with
  |next=>exact False.elim hq'
  |brk=>exact False.elim hq'
  |cont=>exact False.elim hq'
  | ret w=>
   obtain⟨_,_,I3,_⟩:=I2.after hq';obtain⟨vw,H3,os',bare',un,hok,rw',rfl,dx,o,nd,ne,rfl⟩:=hq';refine⟨rw',?_⟩;have hd3:∀b,b≠e->upd (upd (upd H1 e (.ext (exo e C vS))) e (.ext (exo e C (vR dx)))) dx (.frz o (.xd [(f,.int i)])) b=upd H1 dx (.frz o (.xd [(f,.int i)])) b:=λb n=>by
    unfold upd;split
    ·rfl
    ·simp[n]
   have he3:upd (upd (upd H1 e (.ext (exo e C vS))) e (.ext (exo e C (vR dx)))) dx (.frz o (.xd [(f,.int i)])) e=vR (.ext (exo e C (vR dx))):=by unfold upd;rw[if_neg (Ne.symm ne),if_pos rfl]
   have feN:upd H1 dx (.frz o (.xd [(f,.int i)])) e=vS:=by unfold upd;rw[if_neg (Ne.symm ne)];exact fe
   obtain⟨⟨t',ht'⟩,_,_⟩:=hok e _ he3;obtain⟨bm',N',nm',qn',bs',sn',sub',ab',col',dd',l0,l1,l2,l3,l5,hcl',T',_⟩:=Nq I3.kIn XS.ec;have ne':∀b o,hp.get? b=vR o->b≠e:=λb o k z=>by rw[z,hm'.new]at k;cases k
   have mk:Made X H1 ⟨hp,g,d,tk,os⟩ e (.ref C) (vR dx) s' (upd H1 dx (.frz o (.xd [(f,.int i)]))):=by
    refine⟨os',bare',⟨λb o k n hb hx=>un.keep b o (hm'.keeps b o k) (by rw[h2n b (ne' b o k)];exact n) hb hx,λb o k n hb hx=>un.slot b o (hm'.keeps b o k) (by rw[h2n b (ne' b o k)];exact n) hb hx,λb o k n hx=>?_,λb o k hx=>un.there b o (hm'.keeps b o k) hx,λb xs k=>?_,λb o u k=>?_,λb ps k=>?_⟩,λb ob z=>?_,⟨_,_,ht',rfl,rfl,rfl,rfl⟩,feN,hm'.new⟩
    ·rw[<-hd3 b (ne' b o k)];exact un.free b o (hm'.keeps b o k) (by rw[h2n b (ne' b o k)];exact n) hx
    ·have nb:b≠e:=λz=>by rw[z,fe]at k;cases k
     rw[<-hd3 b nb];exact un.tups b xs (by rw[h2n b nb];exact k)
    ·have nb:b≠e:=λz=>by rw[z,fe]at k;cases k
     rw[<-hd3 b nb];exact un.frzs b o u (by rw[h2n b nb];exact k)
    ·have nb:b≠e:=λz=>by rw[z,fe]at k;cases k
     rw[<-hd3 b nb];exact un.tbls b ps (by rw[h2n b nb];exact k)
    ·have nb:b≠e:=λz'=>by rw[z',feN]at z;cases z
     rw[<-hd3 b nb]at z;refine(hok b ob z).stay (λ_ _ _ k=>k) (λb' k=>?_) λb' xs k=>?_
     ·rw[<-hd3 b' (λz'=>by rw[z',he3]at k;cases k)];exact k
     ·rw[<-hd3 b' (λz'=>by rw[z',he3]at k;cases k)];exact k
   exact⟨e,vR dx,t',bm',N',nm',qn',bs',vT,sn',sub',ab',col',dd',l0,l1,l2,l3,l5,_,rfl,hcl',T'.hasType FB.hasBase,ht',hxe _ _ (ZE4 hs hex hfr I1 mk (q dx o nd) ⟨C,rfl⟩)⟩
end
section
variable{X:Cx}{pins:List (xW×Obj)}{σ:St}{H H':Hp}{s s':xy}{B h'':Heap}{ea:xW}{cls:xB}{od:Option xW}{E:XK}{fl:xB}
theorem ZH9(I:Inv X pins σ H s)(os:s'.os=s.os)(bare:AllBare s'.gens)(un:Un (frs X.stack) [] H H' s.heap s'.heap)(hok:HOk X.prog X.w H' s'.heap)
  (bb:∀b o,s.heap.get? b=vR o->H b=vS->b∉frs X.stack->B.get? b=vR o) (al:∀b,H' b≠vS->∃o,B.get? b=vR o) (eb:B.get? ea=vS) (st:B.StaysIn s'.heap) (new:s.heap.get? ea=vS)
  (n:Noted B X.stack ea cls od fl s'.heap h''):∃oe vs,h''.get? ea=vR oe/\oe.cls=cls/\oe.dict=od/\oe.data=.fields vs/\H' ea=vS/\Inv X pins σ (upd H' ea (.frz oe (.own 0))) {s' with heap:=h''}:=by
 obtain⟨oe,vs,T,oT,ts,he,⟨hc,hd⟩,hda,_⟩:=n.tr;have fe:H' ea=vS:=by
  cases z:H' ea with
  |none=>rfl
  |some u=>
   obtain⟨o,k⟩:=al ea (by rw[z];simp);rw[eb]at k;cases k
 have ud:∀b,b≠ea->upd H' ea (.frz oe (.own 0)) b=H' b:=λb k=>by unfold upd;rw[if_neg k]
 have ns:∀b o,s.heap.get? b=vR o->b≠ea:=λb o k z=>by rw[z,new]at k;cases k
 have hk:=ZDF hok al st n.st;refine⟨oe,vs,he,hc,hd,hda,fe,I.call' (ch:=[]) os ⟨λb o q hn hb _=>n.st b o (bb b o q hn hb),λb o q hn hb _=>?_,λb o q hn hx=>?_,λb o q hx=>?_,λb xs q=>?_,λb o u q=>?_,λb ps q=>?_⟩ (λb ob z=>?_) bare λb z=>absurd z (by simp)⟩
 ·obtain⟨sl,k⟩:=un.slot b o q hn hb (by simp);obtain⟨_,o2,k2,nf⟩:=I.stack.mem hb;rw[q]at k2;cases k2;obtain⟨sl',k3⟩:=n.up b _ k nf;exact⟨sl',k3⟩
 ·rw[ud b (ns b o q)];exact un.free b o q hn hx
 ·obtain⟨o1,k1⟩:=un.there b o q hx;exact n.th b o1 k1
 ·have:=un.tups b xs q;rw[ud b (λz=>by rw[z,fe]at this;cases this)];exact this
 ·have:=un.frzs b o u q;rw[ud b (λz=>by rw[z,fe]at this;cases this)];exact this
 ·obtain⟨m,this⟩:=un.tbls b ps q;exact⟨m,by rw[ud b (λz=>by rw[z,fe]at this;cases this)];exact this⟩
 ·by_cases zb:b=ea
  ·subst zb;have zo:ob=.frz oe (.own 0):=by unfold upd at z;rw[if_pos rfl]at z;exact(Option.some.inj z).symm
   subst zo;exact⟨he,oe,he⟩
  ·rw[ud b zb]at z;refine(hk b ob z).stay (λ_ _ _ k=>k) (λb' k=>?_) λb' xs k=>?_
   ·rw[ud b' (λz'=>by rw[z',fe]at k;cases k)];exact k
   ·rw[ud b' (λz'=>by rw[z',fe]at k;cases k)];exact k
theorem lands(hs:X.stack=X.env::X.outer)(hfr:X.env.frame=vR X.env.locals)(I:Inv X pins σ H s){e:xB}(h:CXx X.prog X.w X.stack H s E e s'){Q:Unit->xy->Prop}{E':xB->xy->Prop}
  (q:∀(ea:xW)(C:xB)(od:Option xW)(H':Hp)(oe:Obj)(vs:Array xB)(h'':Heap),e=.ref ea->h''.get? ea=vR oe->oe.cls=C->oe.dict=od->oe.data=.fields vs->E C od H'->H' ea=vS->Inv X pins σ (upd H' ea (.frz oe (.own 0))) {s' with heap:=h''}->
   (∃B:Heap,Trc h'' B ea C od .none)->(∃C',C=.ref C')->Q () {s' with heap:=h''}):
  vk (vK X.prog X.w) X.A (noteFrame e X.env) (λ_ s2=>vk (vK X.prog X.w) X.A (setFlight e vS) Q E' s2) E' s':=by
 obtain⟨ea,cls,od,H',B,rfl,os,bare,un,hok,fly,bb,new,hE,hcC⟩:=h;have ff:=fly.fr;rw[hs]at ff;refine ZCo (B:=B) (L:=X.env.locals) (outer:=X.outer) (by rw[I.ok.frames,hs]) ff hfr fly.tr fly.st fly.eb λh1 n1=>?_
 refine Xa n1.fr n1.tr n1.st λh2 n2=>?_
 have n:=n1.trans n2;rw[<-hs]at n;obtain⟨oe,vs,he,hc,hd,hda,fe,J⟩:=ZH9 I os bare un hok bb fly.al fly.eb fly.st new n;exact q ea cls od H' oe vs h2 rfl he hc hd hda hE fe J ⟨B,n.tr⟩ hcC
end
section
variable{M:Model}{A:xK}{E:xB->xy->Prop}{h:Heap}{g:Array GenState}{d:Drawn}{t:Nat}{os:OsState}
theorem ZHP{W e:xW}{oe:Obj}{b:Bool}{nm q:Str}{N:xW}{bs bm:List xB}{hdct:Bool}{sn:List Str}{sub:List xB}{ab:Bool}{col:Option Bool}{dd:Option xW}{k0 k1 k2 k3 k5:Option xB}{newId:String}
  {nm' q':Str} {N':xW} {bs' bm':List xB} {hdct':Bool} {sn':List Str} {sub':List xB} {ab':Bool} {col':Option Bool} {dd':Option xW} {l0 l1 l2 l3 l5:Option xB} {newId':String} {Q:Bool->xy->Prop}
  (hC:h.get? C=vR (excClassObj nm q C N bs bm hdct sn sub ab col dd k0 k1 k2 k3 k5 newId)) (hW:h.get? W=vR (excClassObj nm' q' W N' bs' bm' hdct' sn' sub' ab' col' dd' l0 l1 l2 l3 l5 newId')) (he:h.get? e=vR oe) (hc:oe.cls=.ref C)
  (hb:bm'.contains (.type "BaseException")=vT) (hin:(Value.ref C::bm).contains (.ref W)=b) (hq:Q b ⟨h,g,d,t,os⟩):vk M A (excMatches (.ref e) (.ref W)) Q E ⟨h,g,d,t,os⟩:=by
 have hcB:(Value.ref W::bm').contains (.type "BaseException")=vT:=by rw[List.contains_cons,hb,Bool.or_true]
 have f:=tc_notTuple;unfold excMatches
 repeat (first|(with_reducible refine wpAny_loadPart_at he ?_;rw[hc])|with_reducible refine wpAny_loadPart_at hW ?_|(with_reducible refine wpAny_isSubtype_exc hW ?_;rw[hcB])|(with_reducible refine wpAny_isSubtype_exc hC ?_;rw[hin])|wp_step)
 cases b<;>(wp_walk;exact hq)
theorem ZKD{B:Heap}{e:xW}{Q:Unit->xy->Prop}(ht:Trc s.heap B e cls od .none)(q:∀h',(∀b o,s.heap.get? b=vR o->h'.get? b=vR o)->Q () {s with heap:=h'}):vk M A (setFlight (.ref e) vS) Q E s:=by
 obtain⟨oe,vs,T,oT,ts,he,_,hd,h1,⟨nT,nTe⟩,hT,dT,h3⟩:=ht;unfold setFlight;refine vB (vE he hd h1 ?_)
 rw[if_pos (show(Value.ref T != Value.none)=vT from by simp)]
 refine wpAny_setField hT dT (qQ.mp h3).1 (q _ λb o k=>?_);by_cases z:b=T
 ·subst z;rw[hT]at k;cases k;rw[qV _ hT (Obj.isFreed_of_fields (Obj.data_mapFields dT _))];obtain⟨c,dd,dt,sl⟩:=oT;obtain rfl:dt=.fields ts:=dT;unfold Obj.mapFields;dsimp only
  congr 2
  have:ts.setIfInBounds 3 Value.none=ts:=by
   refine Array.ext_getElem? λi=>?_
   rw[Array.getElem?_setIfInBounds];split
   ·rename_i z;subst z;rw[if_pos (qQ.mp h3).1,h3]
   ·rfl
  exact congrArg _ this
 ·rw[qK _ _ (Ne.symm z)];exact k
end
section
variable{X:Cx}{pins:List (xW×Obj)}{σ:St}{H:Hp}{s:xy}
theorem Uo{M:Model}{E:xB->xy->Prop}{i:Nat}{n:Str}{pos:Pos}{Q:Unit->xy->Prop}(I:Inv X pins σ H s)(hN:X.N.Nodup)(hi:X.N[i]?=vR n)(hk:X.env.kindOf n=vR .local)
  (q:∀s',Inv X pins (σ.set i vS) H s'->Q () s'):vk M A (do bindName X.env n .none;unbindBehindTheSuite X.env n pos) Q E s:=by
 obtain⟨m,hn,hl⟩:=I.loc;have hp:(X.env.scope.kind == .class||(X.env.scope.kind == .module&&X.env.locals != X.env.globals))=vU:=by rw[I.ok.kind];rfl
 refine wpAny_nameGoes_keeps hk hn hp λh' v hn' hs=>q _ ?_
 have neL:∀b o,X.s₀.heap.get? b=vR o->b≠X.env.locals:=λb o e=>zF (zX (zW e) I.ok.above)
 refine⟨I.ok,I.os,I.bare,⟨λb o e nn hb hx=>(hs.2 b (neL b o e)).trans (I.base.keep b o e nn hb hx),λb o e nn hb hx=>?_,I.base.free,λb o e hx=>?_,I.base.tups,I.base.frzs,I.base.tbls⟩,⟨_,hn',λj y v' e1 e2 e3=>?_⟩,λy c e=>?_,I.free,I.Ey,λp hp=>?_,?_,by rw[qD];exact I.len⟩
 ·obtain⟨sl,e1⟩:=I.base.slot b o e nn hb hx;exact⟨sl,(hs.2 b (neL b o e)).trans e1⟩
 ·obtain⟨o',e1⟩:=I.base.there b o e hx;exact⟨o',(hs.2 b (neL b o e)).trans e1⟩
 ·have hj:j≠i:=λz=>by
   subst z;rw[qA]at e2;split at e2
   ·split at e2<;>cases e2
   ·rename_i z;exact z rfl
  rw[zw (Ne.symm hj)]at e2;obtain⟨u',r',z⟩:=hl j y v' e1 e2 e3;refine⟨u',r',?_⟩;rcases z with⟨k,e⟩|⟨k,c,e,z⟩
  ·refine .inl ⟨k,?_⟩;have:y≠n:=λe=>hj (Yx hN e1 (e▸hi))
   simp[this,e]
  ·exact .inr ⟨k,c,e,z.sameBut hs (I.cne y c e)⟩
 ·obtain⟨w',z⟩:=I.cell y c e;exact⟨w',z.sameBut hs (I.cne y c e)⟩
 ·obtain⟨e,nn,ne,nf,d⟩:=I.pin p hp;exact⟨(hs.2 p.1 ne).trans e,nn,ne,nf,d⟩
 ·exact λa o e=>(I.hok a o e).stay (λb u hb k=>(hs.2 b (λz=>by
   rcases hb with rfl|hb
   ·rw[z,I.free]at e;cases e
   ·rw[z,I.free]at hb;cases hb)).trans k) (λ_ k=>k) λ_ _ k=>k
end
noncomputable def Jx(X:Cx)(ea:xW):Cx:={X with A:=X.A.mark (vR (.ref ea)),calm:=vU,xe:=λ_ _=>False}
section
variable{X:Cx}{pins:List (xW×Obj)}{σ:St}{H:Hp}{s:xy}{ea:xW}
theorem ZBd(I:Inv X pins σ H s):Inv (Jx X ea) pins σ H s:=
 ⟨⟨I.ok.mod,I.ok.kind,I.ok.glob,I.ok.blt,I.ok.above,I.ok.inj,I.ok.has,I.ok.cab,λz=>absurd z (by simp[Jx]),I.ok.frames,I.ok.stk,I.ok.exf,I.ok.bs,I.ok.bsz,I.ok.noex,I.ok.exfs,I.ok.funs,I.ok.frf⟩,I.os,I.bare,I.base,I.loc,I.cell,I.free,I.Ey,I.pin,I.hok,I.len⟩
theorem Sy{calm:X.calm=vT}(hh:X.A.handled=vS)(I:Inv (Jx X ea) pins σ H s):Inv X pins σ H s:=
 ⟨⟨I.ok.mod,I.ok.kind,I.ok.glob,I.ok.blt,I.ok.above,I.ok.inj,I.ok.has,I.ok.cab,λ_=>hh,I.ok.frames,I.ok.stk,I.ok.exf,I.ok.bs,I.ok.bsz,I.ok.noex,I.ok.exfs,I.ok.funs,I.ok.frf⟩,I.os,I.bare,I.base,I.loc,I.cell,I.free,I.Ey,I.pin,I.hok,I.len⟩
end
section
variable{X:Cx}{f W:xW}{fn x n:Str}{fp cp ep np hp pos:Pos}{a:xY}{es:List xY}{ta:TA}{sp:Sp}{k i:Nat}{fd:xq}{ps:List Str}{b₀:xA}{suite:List xA}{th:TS}
def takes(K:PySem.W.Frag)(C W:xW):Bool:=K5 K C&&K5 K W&&match K.lookup C with
 |some ⟨_,_,.cls cd,_⟩=>cd.mro.contains (.ref W)
 |_=>vU
def tTry(K:PySem.W.Frag)(W:xW)(i:Nat)(sp:Sp)(ta:TA)(th:TS):TS:=λD σ H=>ta σ H λvs H1=>sp vs H1 (λ_ H2=>D.nx σ H2) λcls od H'=>cls=.none∨∃C,cls=.ref C/\takes K C W=vT/\
 ∀(ea:xW)(oe:Obj)(vs:Array xB),H' ea=vS->oe.cls=.ref C->oe.dict=od->oe.data=.fields vs->th {nx:=λσ2 H2=>D.nx (σ2.set i vS) H2,rt:=D.rt,bk:=λσ2 H2=>D.bk (σ2.set i vS) H2,ct:=λσ2 H2=>D.ct (σ2.set i vS) H2} (σ.set i (vR (.ref ea))) (upd H' ea (.frz oe (.own 0)))
theorem ZGg(hcalm:X.calm=vT)(hs:X.stack=X.env::X.outer)(hfr:X.env.frame=vR X.env.locals)(F:FnOk X.prog X.w X.K X.mg X.base (CXx X.prog X.w) k f fd ps sp)(hr:Room k X.A)(hb:Binds X.K fd ps [])(hg:Gl X fn)(hm:X.mg fn=vR (.ref f))
  (hk:PySem.W.keepIn X.K (.ref f)=vT) (ha:PA X.nox (a::es) ta) (hgx:Gl X x) (hmx:X.mg x=vR (.ref W)) (hN:X.N.Nodup) (hi:X.N[i]?=vR n) (hl:X.env.kindOf n=vR .local)
  (hh:∀ea,PSs (Jx X ea) (b₀::suite) th)
  (hdb:(fn==("__debug__":Str))=vU:=by decide) (hdx:(x==("__debug__":Str))=vU:=by decide) (he:vj (a::es) X.env=(vU,eval a X.env)::vj es X.env:=by rfl) (hpl:(xF cp (vj es X.env)).any (·.1)=vU:=by rfl)
  (hsw:swapsWith (.Call (.Name fn fp) (a::es) [] cp) vS ep.line X.env=pure vU:=by rfl):
  PS X (.Try [.Expr (.Call (.Name fn fp) (a::es) [] cp) ep] [.ExceptHandler (vR (.Name x np)) (vR n) (b₀::suite) hp] [] [] pos) (tTry X.K W i sp ta th):=by
 intro pins s σ H D I h;refine wpAny_Try_except (wpAny_execs_cons (wpAny_Expr_any ?_ I.quiet hsw));refine vA (Jq I hg hm ?_ hdb);refine PySem.W.callWith_K (h₀:=X.base) I.ok.mod.kin hk (vG (ha cp pins s σ H _ (I.wish _) h) (λus s1 ⟨vs,H1,I1,r,q⟩=>⟨I1.kIn,?_⟩) λ_ _ z=>z.elim) he hpl;have I1':=I1.unwish;have hlen:(us++[]).length=ps.length:=by rw[zP,<-r.length];exact F.len _ _ _ _ q
 refine wpAny_call (xO (F.run X.A X.stack s1 H1 ⟨us,[]⟩ us vs _ _ hr I1'.env0 (by have:=hb s1 us I1'.kIn hlen;rwa[zP]at this) r q) λr s' hq=>?_);cases r with
 | ok fl=>
  cases fl with
  |next=>exact False.elim hq
  |brk=>exact False.elim hq
  |cont=>exact False.elim hq
  |ret u=>
   obtain⟨v,H2,I2,rv,q2⟩:=I1'.after hq;exact wpAny_execs_nil (wpAny_execs_nil ⟨σ,H2,I2,q2⟩)
 | error e=>
  refine lands hs hfr I1' hq λea C od H' oe vs' h'' ee ho hc hd hda hE fe J tr hcC=>?_
  subst ee;rcases hE with z|⟨C',hC',ht,hE⟩
  ·obtain⟨C2,z2⟩:=hcC;rw[z]at z2;cases z2
  subst hC';obtain⟨B,tr⟩:=tr;have hcalm':=I.ok.hd hcalm;unfold takes at ht;simp only[zB]at ht;obtain⟨⟨t1,t2⟩,t3⟩:=ht;obtain⟨bm,N,nm,qn,bs,sn,sub,ab,col,dd,k0,k1,k2,k3,k5,hcl,T,_⟩:=Nq J.kIn t1;obtain⟨bm',N',nm',qn',bs',sn',sub',ab',col',dd',l0,l1,l2,l3,l5,hcl',T',_⟩:=Nq J.kIn t2;have hin:(Value.ref C'::bm).contains (.ref W)=vT:=by
   split at t3
   ·rename_i c0 d0 cd sl0 ho';have:=J.kIn _ _ ho';rw[hcl]at this;cases this;exact t3
   ·cases t3
  refine wpAny_handleBy_cons (codeAny_handlers_test (Jq (X:=Jx X ea) (ZBd J) hgx hmx ?_ hdx)) (by intro q;cases q);refine ZHP hcl hcl' ho hc (T'.hasType PySem.F.excBase_ValueError.hasBase) hin ?_;refine codeAny_handlers_suite_as (ZKD tr λh3 kp=>?_);have J3:=J.kept (h':=h3) (t':=s'.toks) kp;refine Xz J3 hN hi (.inl hl) (v:=.ref ea) rfl (λs4 I4=>?_) (.inr hl);refine vG (hh ea pins s4 _ _ _ (ZBd I4) (hE ea oe vs' fe hc hd hda)) (λfl s5 q5=>?_) λ_ _ z=>z.elim
  cases fl with
  |next=>
   obtain⟨σ2,H2,I5,q5⟩:=q5;exact Uo (Sy (calm:=hcalm) hcalm' I5) hN hi hl λs6 I6=>⟨_,H2,I6,q5⟩
  |brk=>
   obtain⟨σ2,H2,I5,q5⟩:=q5;exact Uo (Sy (calm:=hcalm) hcalm' I5) hN hi hl λs6 I6=>⟨_,H2,I6,q5⟩
  |cont=>
   obtain⟨σ2,H2,I5,q5⟩:=q5;exact Uo (Sy (calm:=hcalm) hcalm' I5) hN hi hl λs6 I6=>⟨_,H2,I6,q5⟩
  |ret u=>
   obtain⟨v,σ2,H2,I5,rv,q5⟩:=q5;exact Uo (Sy (calm:=hcalm) hcalm' I5) hN hi hl λs6 I6=>⟨v,_,H2,I6,rv,q5⟩
end
theorem ZMO:∀n:Nat,n<100->Vj (n:Int):=by
 have h:∀n:Fin 100,((n.1:Int).natAbs.log2<1920/\(Str.ofString (toString (n.1:Int))).length<=1000):=by decide +kernel
 exact λn hn=>h ⟨n,hn⟩
def sRz(c f:Str)(t:DA):DS:=λS G=>match t S G with
 |.ok ds G1=>(match ds with
  |[.int i]=>if 0<=i/\i<100 then .err ⟨c,[(f,.int i)]⟩ G1 else .bad
  |_=>.bad)
 |.err x G1=>.err x G1
 |.bad=>.bad
section
variable{X:Cx}{E:XK}{C fI:xW}{c f v:Str}{np cpos pos:Pos}{a:xY}{t:DA}{k:Nat}{fd:xq}
theorem ZJP(hn:PySem.W.nsIn X.K vW c=vR (vR (.ref C)))(hcalm:X.calm=vT)(hs:X.stack=X.env::X.outer)(hex:X.ex=[])(hfr:X.env.frame=vR X.env.locals)(hxe:∀e s,Kv X E e s->X.xe e s)
  (XS:XSet X.K C f) (hi:Kz X.K C fI=vT) (hfn:∃o,X.K.lookup fI=vR o/\o.cls=.type "function") (F:FnOk X.prog X.w X.K X.mg X.base CX0 k fI fd ["self",v] (spI C f)) (hr:Room (k+1) X.A) (hb:Binds X.K fd ["self",v] [])
  (hg:Gl X c) (hm:X.mg c=vR (.ref C)) (hk:PySem.W.keepIn X.K (.ref C)=vT) (ha:QA X E [a] t) (hdb:(c==("__debug__":Str))=vU:=by decide) (hst:notStar a=vT:=by rfl):
  QS X E (.Raise (vR (.Call (.Name c np) [a] [] cpos)) vS pos) (sRz c f t):=
 (ZFX hcalm hs hex hfr hxe XS hi hfn F hr hb hg hm hk ha hdb (Dz a [] X.env hst) rfl).mono λW σ H h=>by
  obtain⟨w,S,G,hk,rfl,sm,r,h⟩:=h;refine⟨w,S,G,hk,rfl,sm,r,?_⟩;unfold sRz at h;cases ht:t S G with
  |err x G1=>rw[ht]at h;exact h
  |bad=>rw[ht]at h;exact h
  | ok ds G1=>
   rw[ht]at h;dsimp only at h;split at h
   ·rename_i i;split at h
    ·rename_i hi;intro b vs x s1 q;obtain⟨v1,r1,rfl,q1,q2⟩:=q;obtain rfl:v1=.int i:=q1;obtain rfl:r1=[]:=q2;refine⟨i,rfl,?_,λdx o nd=>?_⟩
     ·have:=ZMO i.toNat (by lia);rwa[show((i.toNat:Nat):Int)=i by lia]at this
     ·refine h.2 (b.put dx (.frz o (.xd [(f,.int i)]))) C (vR dx) (x.trans (Ext.put nd)) (s1.put nd) ?_ (.inr ⟨dx,o,[(f,.int i)],rfl,?_,rfl,?_⟩)
      ·show PySem.W.nsIn b.K _ _=_;rw[x.k,hk];exact hn
      ·show upd b.H dx _ dx=_;unfold upd;rw[if_pos rfl]
      ·exact⟨.int i,[],rfl,rfl,rfl⟩
    ·exact h.elim
   ·exact h.elim
end
noncomputable def unnm(i:Nat):SR->SR
 |.nx S G=>.nx (S.set i vS) G
 |.bk S G=>.bk (S.set i vS) G
 |.ct S G=>.ct (S.set i vS) G
 |.rt d G=>.rt d G
 |_=>.bad
def Gr(ws:List Str)(i:Nat)(F:List D->DH->R D)(t:DA)(hb:DS):DS:=λS G=>match t S G with
 |.ok ds G1=>(match F ds G1 with
  |.ok _ G2=>.nx S G2
  |.err x G2=>if x.cls∈ws then unnm i (hb (S.set i (vR (.ref G2.length))) (G2++[.exc x.cls x.fs]))else .bad
  |.bad=>.bad)
 |_=>.bad
theorem RepS.unset{a:Wd}{S:DSt}{σ:St}(r:RepS a S σ)(i:Nat):RepS a (S.set i vS) (σ.set i vS):=by
 refine⟨by simpa using r.len,λj e he=>?_⟩;rw[qA]at he⊢;by_cases hij:i=j
 ·subst hij;rw[if_pos rfl]at he
  split at he<;>cases he
 ·rw[if_neg hij]at he⊢;exact r.get j e he
section
variable{X:Cx}{E:XK}{f W:xW}{fn x n:Str}{fp cp ep np hp pos:Pos}{a:xY}{es:List xY}{t:DA}{F:List D->DH->R D}{k i:Nat}{fd:xq}{ps:List Str}{b₀:xA}{suite:List xA}{hb:DS}{ws:List Str}
theorem ZI2(hcalm:X.calm=vT)(hs:X.stack=X.env::X.outer)(hfr:X.env.frame=vR X.env.locals)(FF:FnOk X.prog X.w X.K X.mg X.base (CXx X.prog X.w) k f fd ps (lFx X.K F))(hr:Room k X.A)(hbd:Binds X.K fd ps [])(hg:Gl X fn)(hm:X.mg fn=vR (.ref f))
  (hk:PySem.W.keepIn X.K (.ref f)=vT) (ha:QA X.nox E0 (a::es) t) (hgx:Gl X x) (hmx:X.mg x=vR (.ref W)) (hN:X.N.Nodup) (hi:X.N[i]?=vR n) (hl:X.env.kindOf n=vR .local)
  (hws:∀c∈ws,∀C,PySem.W.nsIn X.K vW c=vR (vR (.ref C))->takes X.K C W=vT) (hh:∀ea,QSs (Jx X ea) E0 (b₀::suite) hb)
  (hdb:(fn==("__debug__":Str))=vU:=by decide) (hdx:(x==("__debug__":Str))=vU:=by decide) (he:vj (a::es) X.env=(vU,eval a X.env)::vj es X.env:=by rfl) (hpl:(xF cp (vj es X.env)).any (·.1)=vU:=by rfl)
  (hsw:swapsWith (.Call (.Name fn fp) (a::es) [] cp) vS ep.line X.env=pure vU:=by rfl):
  QS X E (.Try [.Expr (.Call (.Name fn fp) (a::es) [] cp) ep] [.ExceptHandler (vR (.Name x np)) (vR n) (b₀::suite) hp] [] [] pos) (Gr ws i F t hb):=
 (ZGg (th:=lS X.K E0 hb) hcalm hs hfr FF hr hbd hg hm hk ha hgx hmx hN hi hl (λea=>hh ea) hdb hdx he hpl hsw).mono λD σ H h=>by
  obtain⟨w,S,G,hk,rfl,sm,r,h⟩:=h;refine⟨w,S,G,hk,rfl,sm,r,?_⟩;unfold Gr at h;cases ht:t S G with
  |err x G1=>rw[ht]at h;exact h.elim
  |bad=>rw[ht]at h;exact h
  | ok ds G1=>
   rw[ht]at h;dsimp only at h;intro b vs y s1 q;refine⟨b,G1,ds,y.k.trans hk,rfl,s1,q,?_⟩;cases hF:F ds G1 with
   |bad=>rw[hF]at h;exact h
   |ok d G2=>
    rw[hF]at h;exact λb2 v y2 s2 _=>h b2 σ (y.trans y2) s2 (r.mono (y.trans y2))
   | err xn G2=>
    rw[hF]at h;dsimp only at h;split at h
    ·rename_i hw;refine⟨λz=>?_,λb2 C od y2 s2 hn hx=>.inr ⟨C,rfl,hws _ hw C (by rw[<-hk,<-y.k,<-y2.k];exact hn),λea oe vs fe hc hd hda=>?_⟩⟩
     ·have:=congrFun (congrFun (congrFun z Value.none) vS) w.H;exact cast this (.inl rfl)
     ·subst hd;have yp:=Ext.push (a:=b2) (p:=ea) (ho:=.frz oe (.own 0)) fe;refine⟨b2.push ea (.frz oe (.own 0)),S.set i (vR (.ref G2.length)),G2++[.exc xn.cls xn.fs],?_,rfl,?_,?_,?_⟩
      ·show b2.K=_;rw[y2.k,y.k,hk]
      ·exact s2.push fe ⟨C,oe,.own 0,vs,hn,rfl,hc,hda,hx.mono yp⟩
      ·refine(r.mono (y.trans (y2.trans yp))).set i ⟨?_,?_⟩
       ·show G2.length<b2.n+1;rw[s2.len];exact zU _
       ·show V.ref ea=V.ref (if G2.length=b2.n then ea else b2.m G2.length);rw[if_pos s2.len]
      ·have yw:=y.trans (y2.trans yp)
       revert h
       cases hb (S.set i (vR (.ref G2.length))) (G2++[.exc xn.cls xn.fs])with
       |nx S3 G3=>exact λh c σ3 y3 s3 r3=>h c _ (yw.trans y3) s3 (r3.unset i)
       |bk S3 G3=>exact λh c σ3 y3 s3 r3=>h c _ (yw.trans y3) s3 (r3.unset i)
       |ct S3 G3=>exact λh c σ3 y3 s3 r3=>h c _ (yw.trans y3) s3 (r3.unset i)
       |rt d3 G3=>exact λh c v3 y3 s3 r3=>h c v3 (yw.trans y3) s3 r3
       |err x3 G3=>exact λh=>h.elim
       |bad=>exact λh=>h.elim
    ·exact h.elim
end
theorem ZCn{b:DS}(F:Fun K x qual st f fd)(S:FnScope N ps (Ao st))
  (hbody:∀(cdv:xB)(A:xK)(outer:List Env)(s:xy)(H:Hp)(E:XK),Room k (A.deeper (envOfC qual (Ao st) s.heap.objs.size f cdv))->QSs (Dy (CXx P w) P w K mg base N qual (Ao st) f cdv A outer s H E) E (Dv st) b):
  FnOk P w K mg base (CXx P w) (k+1) f fd ps (lFx K (Be ps.length (N.length-ps.length) b)):=by
 have hlen:∀vs H Q E,lFx K (Be ps.length (N.length-ps.length) b) vs H Q E->vs.length=ps.length:=λvs H Q E h=>by
  obtain⟨a,G,ds,hk,rfl,sm,r,h⟩:=h;unfold Be at h;split at h
  ·rename_i hl;rw[<-r.length];exact hl
  ·exact h.elim
 obtain⟨oc,od,kV,doc,pm,an,cdv,ct,osl,rfl,lk,hcd⟩:=F.ex;refine Zu lk hcd S hlen λA outer s H vs Q E hr h=>⟨lS K E b,hbody cdv A outer s H E hr,?_⟩
 have hl:=hlen vs H Q E h;obtain⟨a,G,ds,hk,rfl,sm,r,h⟩:=h;unfold Be at h;split at h
 ·have h2:=Ph sm h;refine⟨a,ds.map vR++zv (N.length-ps.length) vS,G,hk,rfl,sm,Tq r _ _ (by rw[hl]),?_⟩
  revert h2
  cases b (ds.map vR++zv (N.length-ps.length) vS) G with
  |nx S1 G1=>exact λh2 c σ x s1 _=>h2 c .non x s1 rfl
  |rt d G1=>exact λh2=>h2
  |err e G1=>exact λh2=>h2
  |bk S1 G1=>exact λh2=>h2.elim
  |ct S1 G1=>exact λh2=>h2.elim
  |bad=>exact λh2=>h2
 ·exact h.elim
theorem ZHl{scope:xk}{cd:xB}{outer:List Env}{E:XK}:
  Passes (CXx P w) (Dy (CXx P w) P w K mg base N qual scope f cd A outer s H E) E:=λpins σ H1 s1 e s' I h=>ZE9 rfl rfl rfl I h
theorem ownX{scope:xk}{cd:xB}{outer:List Env}{E:XK}:
  PassesOwn (vK P w) (Dy (CXx P w) P w K mg base N qual scope f cd A outer s H E).A (Dy (CXx P w) P w K mg base N qual scope f cd A outer s H E).env (Dy (CXx P w) P w K mg base N qual scope f cd A outer s H E).xe:=PassesOwn.leaving
section
variable{X:Cx}{E:XK}{x:Str}{p pos:Pos}{e:xY}{es:List xY}{tr:DA}
theorem ZCA(FF:FnOk X.prog X.w X.K X.mg X.base (CXx X.prog X.w) k f fd ps (lFx X.K F))(hr:Room k X.A)(hg:Gl X x)(hm:X.mg x=vR (.ref f))(hk:PySem.W.keepIn X.K (.ref f)=vT)(hb:Binds X.K fd ps [])
  (hx:Passes (CXx X.prog X.w) X E) (ha:QA X E (e::es) tr) (hdb:(x==("__debug__":Str))=vU:=by decide) (he:notStar e=vT:=by rfl) (hpl:es.all notStar=vT:=by rfl):QE X E (.Call (.Name x p) (e::es) [] pos) (dFn F tr):=
 (ZDq FF hr hg hm hk hb .nil hx ha hdb (Dz e es X.env he) (Hr pos X.env es hpl)).mono λσ H Q h=>by obtain⟨a,S,G,hk,rfl,s,r,h⟩:=Oz h;refine⟨a,S,G,hk,rfl,s,r,h.imp ?_⟩;rintro vs _ ⟨b,G1,ds,hk,rfl,s1,q,h1⟩;exact⟨b,G1,ds,hk,rfl,s1,by rw[zP];exact q,h1⟩
end
structure RoomH (k:Nat) (A:xK):Prop where
 dp:A.depth+3*k+5<recursionLimit
 un:A.units+16*k+200<cLine
theorem RoomH.of(r:Room k A):RoomH k A:=⟨r.dp,r.un⟩
theorem RoomH.held{v:Option xB}(r:RoomH k A):RoomH k (A.mark v):=⟨r.dp,r.un⟩
structure FnOkH (P:xj) (w:xC) (K:PySem.W.Frag) (mg:Str->Option xB) (base:Heap) (k:Nat) (f:xW) (fd:xq) (ps:List Str) (sp:Sp):Prop where
 len:∀vs H Q E,sp vs H Q E->vs.length=ps.length
 run:∀(A:xK)(outer:List Env)(s:xy)(H:Hp)(args:Args)(us:List xB)(vs:List V)(Q:VK)(E:XK),RoomH k A->Env0 P w K mg base A outer s H->BindsTo s fd args (ps.zip us)->Vals vs us->sp vs H Q E->
  codeAny (vK P w) A (.call (.ref f) args) (CR CX0 outer P w H s Q E) s
noncomputable def cxH(X:Cx):Cx:={X with calm:=vU}
theorem ZGH{b:DS}(F:Fun K x qual st f fd)(S:FnScope N ps (Ao st))
  (hbody:∀(cdv:xB)(A:xK)(outer:List Env)(s:xy)(H:Hp)(E:XK),RoomH k (A.deeper (envOfC qual (Ao st) s.heap.objs.size f cdv))->QSs (cxH (Dy CX0 P w K mg base N qual (Ao st) f cdv A outer s H E).nox) E0 (Dv st) b):
  FnOkH P w K mg base (k+1) f fd ps (lF K (Be ps.length (N.length-ps.length) b)):=by
 have hlen:∀vs H Q E,lF K (Be ps.length (N.length-ps.length) b) vs H Q E->vs.length=ps.length:=λvs H Q E h=>by
  obtain⟨a,G,ds,hk,rfl,sm,r,h⟩:=h;unfold Be at h;split at h
  ·rename_i hl;rw[<-r.length];exact hl
  ·exact h.elim
 obtain⟨oc,od,kV,doc,pm,an,cdv,ct,osl,rfl,lk,hcd⟩:=F.ex;refine⟨hlen,λA outer s H args us vs Q E rm ev bn rv pr=>?_⟩;have nl:=hlen _ _ _ _ pr;have old:=λb o e=>(ev.bs b o e).1
 have kin:=ev.mod.kin.keeps old;have scp:∀y∈ps.zip us,(Ao st).names.lookup y.1=vR .local∨((Ao st).names.lookup y.1=vR .cell/\((cellsFrom (s.heap.objs.size+1) (Ao st).names []).lookup y.1).isSome=vT):=λy hy=>
  (S.par y.1 (jT (a:=y.1) (b:=y.2) hy).1).imp id λq=>⟨q,PySem.W.cellsFrom_some _ _ _ (.inl q)⟩
 refine codeAny_call_function (show A.depth<_ by have:=rm.dp;lia) (kin _ _ lk) rfl S.co S.gen rfl (PySem.W.codeRec_of kin hcd) (bn _ _ _ _ (wpAny_newFunctionEnv_cells S.kind scp λenv he s1 x=>?_));subst he;refine⟨(ev.mod.nolimit.keeps old).keeps x.toInCall.keep,codeAny_func ?_⟩;have J:Inv (Dy CX0 P w K mg base N qual (Ao st) f cdv ({A with handled:=vS}:xK) outer s H E) [] (start N vs) H s1:=ZDI S rfl ⟨ev.frames,ev.mod,ev.bs,ev.bsz,ev.funs,ev.frf,ev.hok,ev.bare⟩ nl rv x
 have I:Inv (cxH (Dy CX0 P w K mg base N qual (Ao st) f cdv A outer s H E).nox) [] (start N vs) H s1:=by obtain⟨⟨a1,a2,a3,a4,a5,a6,a7,a8,_,a10,a11,a12,a13,a14,a15,a16,a17,a18⟩,b2,b3,b4,b5,b6,b7,b8,b9,b10,b11⟩:=J;exact⟨⟨a1,a2,a3,a4,a5,a6,a7,a8,λz=>absurd z (by simp[cxH]),a10,a11,a12,a13,a14,a15,a16,a17,a18⟩,b2,b3,b4,b5,b6,b7,b8,b9,b10,b11⟩
 have rm':RoomH k (A.deeper (envOfC qual (Ao st) s.heap.objs.size f cdv)):=by
  obtain⟨r1,r2⟩:=rm;constructor
  ·show A.depth+1+3*k+5<_;lia
  ·show A.units+3+16*k+200<_;lia
 have run:lS K E0 b {nx:=λ_ H'=>Q .non H',rt:=Q} (start N vs) H:=by
  obtain⟨a,G,ds,hk,rfl,sm,r,h⟩:=pr;unfold Be at h;split at h
  ·have h2:=Ph sm h;refine⟨a,ds.map vR++zv (N.length-ps.length) vS,G,hk,rfl,sm,Tq r _ _ (by rw[nl]),?_⟩
   revert h2
   cases b (ds.map vR++zv (N.length-ps.length) vS) G with
   |nx S1 G1=>exact λh2 c σ x s1 _=>h2 c .non x s1 rfl
   |rt d G1=>exact λh2=>h2
   |err e G1=>exact λh2=>h2
   |bk S1 G1=>exact λh2=>h2.elim
   |ct S1 G1=>exact λh2=>h2.elim
   |bad=>exact λh2=>h2
  ·exact h.elim
 refine vG (hbody cdv A outer s H E rm' [] s1 (start N vs) H _ I run) (λfl s' hs=>?_) λ_ _ hs=>hs.elim
 rcases fl with _|_|_|u
 ·obtain⟨_,H',Z,q⟩:=hs;exact⟨.non,H',Z.os,Z.bare,Z.base,Z.hok,rfl,q⟩
 ·obtain⟨_,_,_,q⟩:=hs;exact q.elim
 ·obtain⟨_,_,_,q⟩:=hs;exact q.elim
 ·obtain⟨v,_,H',Z,ru,q⟩:=hs;exact⟨v,H',Z.os,Z.bare,Z.base,Z.hok,ru,q⟩
section
variable{X:Cx}{E:XK}{x:Str}{p pos:Pos}{e:xY}{es:List xY}{tr:DA}
theorem ZFr(FF:FnOkH X.prog X.w X.K X.mg X.base k f fd ps (lF X.K F))(hr:RoomH k X.A)(hg:Gl X x)(hm:X.mg x=vR (.ref f))(hk:PySem.W.keepIn X.K (.ref f)=vT)(hb:Binds X.K fd ps [])
  (ha:QA X E0 (e::es) tr) (hdb:(x==("__debug__":Str))=vU:=by decide) (he:notStar e=vT:=by rfl) (hpl:es.all notStar=vT:=by rfl):QE X E0 (.Call (.Name x p) (e::es) [] pos) (dFn F tr):=by
 have PP:PE X (.Call (.Name x p) (e::es) [] pos) (ZEL (lF X.K F) [] E0 (lA X.K E0 tr)):=λpins s σ H Q I h=>by
  refine vA (Jq I hg hm ?_ hdb);refine PySem.W.callWith_K (h₀:=X.base) I.ok.mod.kin hk (thn (ha pos pins s σ H _ I h) λus s1 ⟨vs,H1,I1,r,q⟩=>⟨I1.kIn,?_⟩) (Dz e es X.env he) (Hr pos X.env es hpl);dsimp only at q;rw[zP]at q;have hl:(us++[]).length=ps.length:=by rw[zP,<-r.length];exact FF.len _ _ _ _ q
  refine wpAny_call (xO (FF.run X.A X.stack s1 H1 ⟨us,[]⟩ us vs Q E0 hr I1.env0 (by have:=hb s1 us I1.kIn hl;rwa[zP]at this) r q) λr s' hq=>?_);cases r with
  |error e=>exact hq.elim
  |ok fl=>
   cases fl with
   |ret u=>exact I1.after hq
   |next=>exact False.elim hq
   |brk=>exact False.elim hq
   |cont=>exact False.elim hq
 exact PE.mono PP λσ H Q h=>by obtain⟨a,S,G,hk,rfl,s,r,h⟩:=Oz h;refine⟨a,S,G,hk,rfl,s,r,h.imp ?_⟩;rintro vs _ ⟨b,G1,ds,hk,rfl,s1,q,h1⟩;exact⟨b,G1,ds,hk,rfl,s1,by rw[zP];exact q,h1⟩
end
structure XGet (K:PySem.W.Frag) (C:xW):Prop where
 ga:PySem.W.findIn K (.ref C) "__getattribute__"=vR (vR (.builtin "BaseException.__getattribute__"))
 gn:PySem.W.findIn K (.ref C) "__getattr__"=vR vS
 sb:PySem.W.subIn K (.ref C) (.type "BaseException")=vR vT
 hd:PySem.W.hasDictIn K C=vT
 cl:PySem.W.findIn K (.ref C) "__class__"=vR (vR (.builtin "object.__class__"))
 cg:PySem.W.specialIn K (.builtin "object.__class__") "__get__"=vR (vR (.builtin "getset_descriptor.__get__"))
 ct:PySem.W.takesIn K (.builtin "object.__class__")=vR vT
 mo:PySem.W.mroIn K C (.type "object")=vR vT
 kc:PySem.W.kitCls K (.ref C) (.ref C)=vR vT
 ec:K5 K C=vT
section
variable{prog:xj}{w:xC}{A:xK}{E:xB->xy->Prop}{s:xy}{K:PySem.W.Frag}{x C:xW}{ox:Obj}{od:Option Obj}{name:Str}{tk:Tok}
theorem ZF8{M:Model}{nameV:xB}{Q:Unit->xy->Prop}(X:K.In s.heap)(I:PySem.W.InstAt s.heap x ox C od)(hs:PySem.W.subIn K (.ref C) (.type "BaseException")=vR vT)(hq:Q () s):
  vk M A (xN "BaseException.__getattribute__" ⟨[.ref x,nameV],[]⟩) Q E s:=by
 have hk:builtinKind "BaseException.__getattribute__"=vR .slot:=by decide +kernel
 have hsplit:splitId "BaseException.__getattribute__"=vR ("BaseException","__getattribute__"):=by decide +kernel
 have ha:=F.args_bexc_ga (.ref x) nameV;have LI:PySem.W.Looks M s.heap (isInstance (.ref x) (.type "BaseException")) vT:=(I.type (M:=M)).andThen (PySem.W.looks_subIn X hs);obtain⟨h,g,d,t,os⟩:=s;simp only[xN,hk,hsplit];refine vB (LI.at ?_)
 repeat (first|wp_step)
 exact hq
theorem ZCh{Q:xB->xy->Prop}(X:K.In s.heap)(I:PySem.W.InstAt s.heap x ox C od)(G:XGet K C)
  (h:∀A',vk (vK prog w) A' (Builtin.«object.__getattribute__» ⟨[.ref x,.str name tk],[]⟩) (λfin s'=>match fin with | .done (.ret v)=>PySem.W.handedIn v=vT/\Q v s'|_=>False) (λ_ _=>False) s):
  vk (vK prog w) A (getAttrBy (.ref x) (.str name tk) fill expr) Q E s:=by
 have L0:=I.type (M:=vK prog w);have L1:=PySem.W.looks_findIn (M:=vK prog w) X G.ga;have _L:=PySem.W.looks_findIn (M:=vK prog w) X G.gn;have f3:=F.excAttr_ValueError.ga.bind (.ref x)
 have hx0:(expr&&onTheHeap (Value.builtin "BaseException.__getattribute__"))=vU:=by cases expr<;>rfl
 obtain⟨hh,g,d,t,os⟩:=s;unfold getAttrBy;refine vF (vB (L0.at (vB (L1.at ?_))));dsimp only;rw[show(onTheHeap (Value.ref C)&&Value.builtin "BaseException.__getattribute__"==Value.builtin "object.__getattribute__")=vU by rw[show(Value.builtin "BaseException.__getattribute__"==Value.builtin "object.__getattribute__")=vU by decide +kernel];rfl];simp only[jF,if_false]
 unfold getAttrByItsOwn;show vk _ _ (typeLookup (.ref C) "__getattr__" >>=_) _ _ _;refine vB (_L.at ?_);refine vB (wpAny_attempt (vF ?_));unfold callGetattribute;rw[hx0];simp only[jF,if_false];unfold boundAndCalled;rw[f3];refine vB (vL ?_);refine wpAny_call (codeAny_call_builtin F.excAttr_ValueError.ga.plain F.entry_bexc_ga (ZF8 X I G.sb (vG (h _) (λfin s' z=>?_) λ_ _ z=>z.elim)))
 rcases fin with(_|_|_|_)|_<;>first|exact z.elim|exact PySem.W.handed_on z.1 z.2
theorem ZFU{v:xB}{Q:xB->xy->Prop}(X:K.In s.heap)(I:PySem.W.InstAt s.heap x ox C od)(G:XGet K C)(hf:PySem.W.findObj K C od name=vR (.value v))(hv:PySem.W.handedIn v=vT)(h:Q v s):
  vk (vK prog w) A (getAttrBy (.ref x) (.str name tk) fill expr) Q E s:=by
 refine ZCh X I G λA'=>?_
 have L0:=I.type (M:=vK prog w);have L1:=PySem.W.looks_find (M:=vK prog w) X I hf;obtain⟨hh,g,d,t,os⟩:=s;refine vB (vL (vB (vL (vB (L0.at (vB (L1.at ?_)))))));exact vL ⟨hv,h⟩
theorem ZFF{od:Obj}{Q:xB->xy->Prop}(X:K.In s.heap)(I:PySem.W.InstAt s.heap x ox C (vR od))(G:XGet K C)(h:Q (.ref C) s):
  vk (vK prog w) A (getAttrBy (.ref x) (.str "__class__" tk) fill expr) Q E s:=by
 refine ZCh X I G λA'=>?_
 have hf:PySem.W.findObj K C (vR od) "__class__"=vR (.bind (.builtin "getset_descriptor.__get__") (.builtin "object.__class__")):=PySem.W.findObj_data (by obtain⟨cd,hc,_⟩:=PySem.W.any_some G.hd;rw[hc];rfl) G.cl G.cg G.ct;have L0:=I.type (M:=vK prog w);have L1:=PySem.W.looks_find (M:=vK prog w) X I hf;have cg:=λ(A:xK)(R:Result->xy->Prop)(z:R (.ok (.ret (.ref C))) s)=>PySem.W.class_get (prog:=prog) (w:=w) (A:=A) (R:=R) (tp:=.ref C) X I G.mo z
 obtain⟨hh,g,d,t,os⟩:=s;refine vB (vL (vB (vL (vB (L0.at (vB (L1.at ?_)))))));show vk _ _ (holding _ (call (.builtin "getset_descriptor.__get__") [.builtin "object.__class__",.ref x,.ref C]) >>=ret) _ _ _;exact vB (vF (wpAny_call (cg _ _ (vL ⟨rfl,h⟩))))
theorem ZBM{od:Obj}(G:XGet K C):PySem.W.KitX K (.ref x) (.ref C) (λh=>PySem.W.InstAt h x ox C (vR od)):=by
 refine⟨λ_ _ _ I=>I.type,λ_ _ X _=>(PySem.W.kit_cls X G.kc).2.1,λh tp dd its n sl X htp=>?_,λ{_ _ _ _ _ s}X I k=>?_⟩
 ·cases q:(Value.ref C == .ref tp)with
  |false=>rfl
  |true=>
   have z:C=tp:=Value.ref.inj (beq_iff_eq.mp q);obtain⟨_,_,_,_,_,_,_,_,_,_,_,_,_,_,_,hcl,_⟩:=Nq X G.ec;rw[z,htp]at hcl;have:=congrArg Obj.cls (Option.some.inj hcl);have z2:Value.type "tuple"=Value.type "type":=this;exact absurd (Value.type.inj z2) (by decide)
 ·obtain⟨hh,g,d,t,os⟩:=s;unfold getAttr? getAttrBy?;refine vB (wpAny_mkText (vB (wpAny_attempt ?_)));exact ZFF (s:=⟨hh,g,d,t+1,os⟩) X I G (vL k)
end
noncomputable def isx(tb:List (Str×Bool))(x:D)(G:DH):R D:=match x with
 | .ref i=>(match G[i]? with
  |some (.exc c (_::_))=>(match tb.lookup c with
   |some b=>.ok (.bl b) G
   |none=>.bad)
  |_=>.bad)
 |_=>.bad
def gtx(cs:List Str)(f:Str)(x:D)(G:DH):R D:=match x with
 | .ref i=>(match G[i]? with
  |some (.exc c (p::r))=>if c∈cs then(match(p::r).lookup f with
   |some d=>.ok d G
   |none=>.bad)else .bad
  |_=>.bad)
 |_=>.bad
def HeldAt(H:Hp)(x:V)(C:xW)(us:List (Str×V)):Prop:=∃a oe u vs dx o,x=.ref a/\H a=vR (.frz oe u)/\oe.cls=.ref C/\oe.data=.fields vs/\oe.dict=vR dx/\H dx=vR (.frz o (.xd us))
theorem Sim.exc{b:Wd}{G:DH}{i:Nat}{c:Str}{p:Str×D}{fs:List (Str×D)}{v:V}(s:Sim b G)(r:Rep b (.ref i) v)(h:G[i]?=vR (.exc c (p::fs))):∃C us,PySem.W.nsIn b.K vW c=vR (vR (.ref C))/\HeldAt b.H v C us/\RepF b (p::fs) us:=by
 obtain⟨_,ev⟩:=r;obtain⟨C,oe,u,vs,n,e,k1,k2,z⟩:=s.obj i _ h;rcases z with⟨z,_⟩|⟨dx,o,us,z1,z2,z3⟩
 ·cases z
 ·exact⟨C,us,n,⟨_,oe,u,vs,dx,o,ev,e,k1,k2,z1,z2⟩,z3⟩
section
variable{X:Cx}{E:XK}{pins:List (xW×Obj)}{σ:St}{H:Hp}{s:xy}
theorem Zx{x:V}{us:List (Str×V)}(I:Inv X pins σ H s)(h:HeldAt H x C us):∃(a:xW)(oe od:Obj)(mA:Str->Option xB),x=.ref a/\PySem.W.InstAt s.heap a oe C (vR od)/\(∀name,PySem.W.lookIn name od=vR (mA name))/\∀f,RelO (us.lookup f) (mA f):=by
 obtain⟨a,oe,u,vs,dx,o,rfl,ea,k1,k2,k3,ed⟩:=h
 obtain⟨ha,_⟩:=(show ObjOk X.prog X.w H s.heap a (.frz oe u)from I.hok a _ ea)
 obtain⟨hd,mA,hn,hr⟩:=(show ObjOk X.prog X.w H s.heap dx (.frz o (.xd us))from I.hok dx _ ed)
 obtain⟨od,ho,hl⟩:=ZDQ hn;refine⟨a,oe,od,mA,rfl,⟨ha,k1,?_,?_⟩,hl,hr⟩
 ·unfold PySem.W.notCls;rw[k2]
 ·rw[k3];exact ho
def rIs1(K:PySem.W.Frag)(cv:V)(cu:xB):List V->Hp->VK->Prop:=λvs H Q=>∃x C us b,vs=[x,cv]/\HeldAt H x C us/\XGet K C/\PySem.W.kitOne K (.ref C) cu=vR b/\Q (.bl b) H
theorem ZGm{cv:V}{cu:xB}(hcu:∀u,RelV cv u->u=cu):CallR X (.builtin "isinstance") (rIs1 X.K cv cu):=by
 intro pins s σ H xs us Q I rs h;obtain⟨x,C,fs,b,rfl,hx,G,hk,q⟩:=h;obtain⟨u,u',rfl,ru,ru'⟩:∃u u',us=[u,u']/\RelV x u/\RelV cv u':=by
  cases rs with
  |cons p q=>cases q with
   |cons p' q'=>cases q';exact⟨_,_,rfl,p,p'⟩
 cases hcu _ ru';obtain⟨a,oe,od,mA,rfl,J,_,_⟩:=Zx I hx
 cases(show u=Value.ref a from ru)
 exact PySem.W.kia_one (ZBM G) I.kIn J hk (λz=>nomatch z) λtk=>⟨.bl b,H,I.tok _,rfl,q⟩
def rIsT(K:PySem.W.Frag)(cvs:List V)(cus:List xB):List V->Hp->VK->Prop:=λvs H Q=>∃x C us b p,vs=[x,.ref p]/\H p=vR (.tup cvs)/\HeldAt H x C us/\XGet K C/\PySem.W.kitAny K (.ref C) cus=vR b/\Q (.bl b) H
theorem ZMY{cvs:List V}{cus:List xB}(hcu:∀us,Vals cvs us->us=cus):CallR X (.builtin "isinstance") (rIsT X.K cvs cus):=by
 intro pins s σ H xs us Q I rs h;obtain⟨x,C,fs,b,p,rfl,hp,hx,G,hk,q⟩:=h;obtain⟨u,u',rfl,ru,ru'⟩:∃u u',us=[u,u']/\RelV x u/\RelV (.ref p) u':=by
  cases rs with
  |cons p q=>cases q with
   |cons p' q'=>cases q';exact⟨_,_,rfl,p,p'⟩
 cases(show u'=Value.ref p from ru')
 obtain⟨a,oe,od,mA,rfl,J,_,_⟩:=Zx I hx
 cases(show u=Value.ref a from ru)
 obtain⟨_,its,hv,ot,h1,h2,n,h3⟩:=(show ObjOk X.prog X.w H s.heap p (.tup cvs)from I.hok p _ hp)
 cases hcu _ hv;obtain⟨oc,od',odt,osl⟩:=ot;cases h2;cases h3
 exact PySem.W.kia_tup (ZBM G) I.kIn J h1 hk (λz=>nomatch z) λtk=>⟨.bl b,H,I.tok _,rfl,q⟩
variable{e ce:xY}{ces:List xY}{t:DE}{tb:List (Str×Bool)}{cv:V}{cu:xB}{cvs:List V}{cus:List xB}{p pos tp:Pos}
theorem ZCV(hg:Gl X "isinstance")(hm:X.mg "isinstance"=vS)(ha:QE X E e t)(hc:PE X ce (tC cv))(hcu:∀u,RelV cv u->u=cu)
  (htb:∀c b,tb.lookup c=vR b->∀C,PySem.W.nsIn X.K vW c=vR (vR (.ref C))->XGet X.K C/\PySem.W.kitOne X.K (.ref C) cu=vR b) (he:notStar e=vT:=by rfl) (hs:notStar ce=vT:=by rfl):
  QE X E (.Call (.Name "isinstance" p) [e,ce] [] pos) (dUn (isx tb) t):=
 (Vq (ZGm hcu) hg hm Qh (Jd ha (Jd hc Pg (Dz ce [] X.env hs)) (Dz e [ce] X.env he)) (by decide) (by decide) (Dz e [ce] X.env he) (Hr pos X.env [ce] (by simp[hs]))).mono λσ H Q h=>by
  obtain⟨a,S,G,hk,rfl,s,r,h⟩:=h;refine⟨a,S,G,hk,rfl,s,r,(Dj h).imp ?_⟩;rintro v _ ⟨b,d,G1,rfl,x,s1,q,-,h1⟩;unfold isx at h1;split at h1
  ·rename_i i;split at h1
   ·rename_i c pf fs hi;split at h1
    ·rename_i bb hb;obtain⟨C,us,n,hx,_⟩:=s1.exc q hi;obtain⟨g1,g2⟩:=htb c bb hb C (by rw[<-hk,<-x.k];exact n);exact⟨v,C,us,bb,rfl,hx,g1,g2,h1 b _ (Ext.refl b) s1 rfl⟩
    ·exact h1.elim
   ·exact h1.elim
  ·exact h1.elim
theorem ZK7(hg:Gl X "isinstance")(hm:X.mg "isinstance"=vS)(ha:QE X E e t)(hc:PA X ces (λ_ H Q=>Q cvs H))(hl:cvs.length<=1000)(hcu:∀us,Vals cvs us->us=cus)
  (htb:∀c b,tb.lookup c=vR b->∀C,PySem.W.nsIn X.K vW c=vR (vR (.ref C))->XGet X.K C/\PySem.W.kitAny X.K (.ref C) cus=vR b) {x1:Nat} (he:notStar e=vT:=by rfl):
  QE X E (.Call (.Name "isinstance" p) [e,.Tuple ces x1 tp] [] pos) (dUn (isx tb) t):=
 (Vq (ZMY hcu) hg hm Qh (Jd ha (Jd (ZCy hc) Pg (Dz _ [] X.env rfl)) (Dz e _ X.env he)) (by decide) (by decide) (Dz e _ X.env he) (Hr pos X.env _ rfl)).mono λσ H Q h=>by
  obtain⟨a,S,G,hk,rfl,s,r,h⟩:=h;refine⟨a,S,G,hk,rfl,s,r,(Dj h).imp ?_⟩;rintro v _ ⟨b,d,G1,rfl,x,s1,q,-,h1⟩;unfold isx at h1;split at h1
  ·rename_i i;split at h1
   ·rename_i c pf fs hi;split at h1
    ·rename_i bb hb;refine⟨by rw[vq];lia,λp hp=>?_⟩;obtain⟨C,us,n,hx,_⟩:=(s1.put (ho:=.tup cvs) hp).exc (q.mono (Ext.put hp)) hi;obtain⟨g1,g2⟩:=htb c bb hb C (by rw[<-hk,<-x.k];exact n);exact⟨v,C,us,bb,p,rfl,Do,hx,g1,g2,h1 _ _ (Ext.put hp) (s1.put hp) rfl⟩
    ·exact h1.elim
   ·exact h1.elim
  ·exact h1.elim
variable{f:Str}{cs:List Str}
noncomputable def tXf(K:PySem.W.Frag)(ta:TE)(f:Str):TE:=λσ H Q=>ta σ H λx H1=>∃C us v,HeldAt H1 x C us/\XGet K C/\NoAttr K C f/\us.lookup f=vR v/\Q v H1
theorem ZJz{ta:TE}(he:PE X e ta)(hb:xE e f X.env (eval e X.env)=eval e X.env):PE X (.Attribute e f pos) (tXf X.K ta f):=by
 intro pins s σ H Q I h;refine ZCR hb (thn (he pins s σ H _ I h) λu s1 ⟨x,H1,I1,rx,C,us,v,hx,G,n,l,q⟩=>?_);obtain⟨a,oe,od,mA,rfl,J,hl,hr⟩:=Zx I1 hx
 cases(show u=Value.ref a from rx)
 obtain⟨u',hu,ru⟩:=RelO.some_of (v:=v) (o:=mA f) (by rw[<-l];exact hr f);obtain⟨hh,g,d,t,os⟩:=s1;unfold getAttr;refine vB (wpAny_mkText ?_);exact ZFU (s:=⟨hh,g,d,t+1,os⟩) I1.kIn J G (PySem.W.findObj_own G.hd n rfl (by rw[hl,hu])) (ZAo ru) ⟨v,H1,I1.tok _,ru,q⟩
theorem ZLB(ha:QE X E e t)(hcs:∀c∈cs,∀C,PySem.W.nsIn X.K vW c=vR (vR (.ref C))->XGet X.K C/\NoAttr X.K C f)(hb:xE e f X.env (eval e X.env)=eval e X.env:=by rfl):
  QE X E (.Attribute e f pos) (dUn (gtx cs f) t):=
 (ZJz ha hb).mono λσ H Q h=>by
  obtain⟨a,S,G,hk,rfl,s,r,h⟩:=h;refine⟨a,S,G,hk,rfl,s,r,(Dj h).imp ?_⟩;rintro v _ ⟨b,d,G1,rfl,x,s1,q,-,h1⟩;unfold gtx at h1;split at h1
  ·rename_i i;split at h1
   ·rename_i c pf fs hi;split at h1
    ·rename_i hc;split at h1
     ·rename_i d' hd;obtain⟨C,us,n,hx,rf⟩:=s1.exc q hi;obtain⟨g1,g2⟩:=hcs c hc C (by rw[<-hk,<-x.k];exact n);obtain⟨u,eu,ru⟩:=rf.look hd;exact⟨C,us,u,hx,g1,g2,eu,h1 b u (Ext.refl b) s1 ru⟩
     ·exact h1.elim
    ·exact h1.elim
   ·exact h1.elim
  ·exact h1.elim
end
end _D
namespace _D
open PySem PySem.Spec PySem.W _L
open PyProof.Rows hiding St
variable{h:Heap}{mg:Str->Option xB}{X:Cx}{G:DH}{E:XK}
noncomputable def isB(r:Option (Option xB))(n:String):Bool:=match r with
 |some (vR (.builtin m))=>m==n
 |_=>vU
theorem Tc{r:Option (Option xB)}{n:String}(h:isB r n=vT):r=vR (vR (.builtin n)):=by
 unfold isB at h;split at h
 ·rw[beq_iff_eq.mp h]
 ·cases h
noncomputable def Du(r:Option Bool)(b:Bool):Bool:=match r with
 |some c=>c==b
 |_=>vU
theorem Lx{r:Option Bool}{b:Bool}(h:Du r b=vT):r=vR b:=by
 unfold Du at h;split at h
 ·rw[beq_iff_eq.mp h]
 ·cases h
noncomputable def Tu{α:Type}(r:Option (Option α)):Bool:=match r with
 |some vS=>vT
 |_=>vU
theorem ZC8{α:Type}{r:Option (Option α)}(h:Tu r=vT):r=vR vS:=by
 unfold Tu at h;split at h
 ·rfl
 ·cases h
structure ET (K:vO) (mg:Str->Option xB) (c f:Str):Prop where
 N:nsIn K vW c=vR (vR (.ref (Af K c)))
 g:mg c=vR (.ref (Af K c))
 k:keepIn K (.ref (Af K c))=vT
 X:XSet K (Af K c) f
 i:Kz K (Af K c) (Bw K (Af K c) "__init__")=vT
 o:∃o,K.lookup (Bw K (Af K c) "__init__")=vR o/\o.cls=.type "function"
 G:XGet K (Af K c)
 no:NoAttr K (Af K c) f
noncomputable def V8(K:vO)(a:xW):Bool:=match K.lookup a with
 |some ⟨.type t,_,_,_⟩=>t == "function"
 |_=>vU
theorem ZMD{K:vO}{a:xW}(h:V8 K a=vT):∃o,K.lookup a=vR o/\o.cls=.type "function":=by
 unfold V8 at h;split at h
 ·rename_i t _ _ _ e;exact⟨_,e,by rw[beq_iff_eq.mp h]⟩
 ·cases h
def Wy(c f:Str)(K:vO):Bool:=gOk K c&&keepIn K (.ref (Af K c))&&(K5 K (Af K c)&&Sw K (Af K c)&&Uj K (Af K c)&&Tu (takerIn K (Af K c) f)&&hasDictIn K (Af K c))&&Kz K (Af K c) (Bw K (Af K c) "__init__")&&V8 K (Bw K (Af K c) "__init__") &&
 (isB (findIn K (.ref (Af K c)) "__getattribute__") "BaseException.__getattribute__"&&Tu (findIn K (.ref (Af K c)) "__getattr__")&&Du (subIn K (.ref (Af K c)) (.type "BaseException")) vT&&isB (findIn K (.ref (Af K c)) "__class__") "object.__class__" &&
  isB (specialIn K (.builtin "object.__class__") "__get__") "getset_descriptor.__get__"&&Du (takesIn K (.builtin "object.__class__")) vT&&Du (mroIn K (Af K c) (.type "object")) vT&&Du (kitCls K (.ref (Af K c)) (.ref (Af K c))) vT)&&noF K (Af K c) f
theorem ZFE{K:vO}{c f:Str}(X:K.In h)(G:h.Ns vW mg)(s:Wy c f K=vT):ET K mg c f:=by simp only[Wy,zB]at s;obtain⟨⟨⟨⟨⟨⟨h1,h2⟩,⟨⟨⟨h3,h4⟩,h5⟩,h6⟩,h7⟩,h8⟩,h9⟩,⟨⟨⟨⟨⟨⟨g1,g2⟩,g3⟩,g4⟩,g5⟩,g6⟩,g7⟩,g8⟩,h10⟩:=s;exact⟨M7 h1,mg_of X G (M7 h1),h2,⟨h3,ZBF h4,h5,ZC8 h6,h7⟩,h8,ZMD h9,⟨Tc g1,ZC8 g2,Lx g3,h7,Tc g4,Tc g5,Lx g6,Lx g7,Lx g8,h3⟩,ZBq h10⟩
noncomputable def ZAW(r:Option CFound)(n:String):Bool:=match r with
 |some (.val (.builtin m))=>m==n
 |_=>vU
theorem ZHd{r:Option CFound}{n:String}(h:ZAW r n=vT):r=vR (.val (.builtin n)):=by
 unfold ZAW at h;split at h
 ·rw[beq_iff_eq.mp h]
 ·cases h
def Vg(x:Str)(K:vO):Bool:=gOk K x&&isB (specialIn K (.ref (Af K x)) "__getattribute__") "type.__getattribute__"&&readsIn K (Af K x) (.type "type")&&ZAW (findCls K (.ref (Af K x)) (.type "type") "__init__") "ValueError.__init__"
theorem ZFL{K:vO}{x:Str}(X:K.In h)(G:h.Ns vW mg)(s:Vg x K=vT):XBase K mg x (Af K x):=by simp only[Vg,zB]at s;obtain⟨⟨⟨h1,h2⟩,h3⟩,h4⟩:=s;exact⟨mg_of X G (M7 h1),Tc h2,h3,ZHd h4⟩
theorem Fq{K:vO}{x:Str}(X:K.In h)(G:h.Ns vW mg)(s:gOk K x=vT):mg x=vR (.ref (Af K x)):=mg_of X G (M7 s)
abbrev FnX(P:xj)(w:xC)(K:vO)(mg:Str->Option xB)(base:Heap)(k:Nat)(n:Str)(ps:List Str)(F:List D->DH->R D):Prop:=FnOk P w K mg base (CXx P w) k (Af K n) (Bj K (Af K n)) ps (lFx K F)
abbrev FnH(P:xj)(w:xC)(K:vO)(mg:Str->Option xB)(base:Heap)(k:Nat)(n:Str)(ps:List Str)(F:List D->DH->R D):Prop:=FnOkH P w K mg base k (Af K n) (Bj K (Af K n)) ps (lF K F)
theorem ZJF:Passes (CXx X.prog X.w) X E0:=λpins σ H s e s' I h=>by obtain⟨_,_,_,_,_,_,_,_,_,_,_,_,_,z,_⟩:=h;exact z.elim
theorem RoomH.mono{j k:Nat}{A:xK}(r:RoomH k A)(h:j<=k):RoomH j A:=⟨by have:=r.dp;lia,by have:=r.un;lia⟩
section
variable{X:Cx}{E:XK}{c x n f v:Str}{e a:xY}{es:List xY}{t:DE}{tr:DA}{p q pos cpos np:Pos}{b:Bool}{F:List D->DH->R D}{k j:Nat}{ps:List Str}{st:xA}
theorem ZGa(FF:FnX X.prog X.w X.K X.mg X.base k n ps F)(T:FT X.K X.mg n st ps)(hr:Room j X.A)(ha:QA X E0 (e::es) tr)(hj:Nat.ble k j=vT:=by rfl)(hg:Gl X n:=by rfl)(hdb:(n==("__debug__":Str))=vU:=by decide)(he:notStar e=vT:=by rfl)(hpl:es.all notStar=vT:=by rfl):
  QE X E0 (.Call (.Name n p) (e::es) [] pos) (dFn F tr):=ZCA FF (hr.mono (qH hj)) hg T.m T.k T.b ZJF ha hdb he hpl
theorem ZJq(FF:FnH X.prog X.w X.K X.mg X.base k n ps F)(T:FT X.K X.mg n st ps)(hr:RoomH j X.A)(ha:QA X E0 (e::es) tr)(hj:Nat.ble k j=vT:=by rfl)(hg:Gl X n:=by rfl)(hdb:(n==("__debug__":Str))=vU:=by decide)(he:notStar e=vT:=by rfl)(hpl:es.all notStar=vT:=by rfl):
  QE X E0 (.Call (.Name n p) (e::es) [] pos) (dFn F tr):=ZFr FF (hr.mono (qH hj)) hg T.m T.k T.b ha hdb he hpl
theorem Uw{K:vO}{P:xW->Bool->Prop}(hn:nsIn K vW c=vR (vR (.ref (Af K c))))(h:P (Af K c) b):∀c' b',[(c,b)].lookup c'=vR b'->∀C,nsIn K vW c'=vR (vR (.ref C))->P C b':=by
 intro c' b' hl C hC;by_cases z:c'=c
 ·subst z;rw[hn]at hC;cases hC;simp only[q0,beq_self_eq_true]at hl;cases hl;exact h
 ·have:(c'==c)=vU:=by simpa using z
  simp only[q0,this]at hl;cases hl
theorem ZHr{w:Str}(N:nsIn X.K vW c=vR (vR (.ref (Af X.K c))))(G:XGet X.K (Af X.K c))(hm:X.mg "isinstance"=vS)(mw:X.mg w=vR (.ref (Af X.K w)))(k:Du (kitOne X.K (.ref (Af X.K c)) (.ref (Af X.K w))) b=vT)(ha:QE X E e t)(hg:Gl X "isinstance":=by rfl)(gw:Gl X w:=by rfl)(hd:(w==("__debug__":Str))=vU:=by decide)(he:notStar e=vT:=by rfl):
  QE X E (.Call (.Name "isinstance" p) [e,.Name w q] [] pos) (dUn (isx [(c,b)]) t):=
 ZCV (cv:=.ref (Af X.K w)) (cu:=.ref (Af X.K w)) hg hm ha (ZAE gw mw rfl hd) (λu h=>h) (Uw N ⟨G,Lx k⟩) he rfl
theorem ZKG{w:Str}{T:String}(N:nsIn X.K vW c=vR (vR (.ref (Af X.K c))))(G:XGet X.K (Af X.K c))(hm:X.mg "isinstance"=vS)(mw:X.mg w=vS)(hv:xL w=vR (.type T))(k:Du (kitOne X.K (.ref (Af X.K c)) (.type T)) b=vT)(ha:QE X E e t)(hg:Gl X "isinstance":=by rfl)(gw:Gl X w:=by rfl)(hn:w≠"__name__":=by decide)(hd:(w==("__debug__":Str))=vU:=by decide)(he:notStar e=vT:=by rfl):
  QE X E (.Call (.Name "isinstance" p) [e,.Name w q] [] pos) (dUn (isx [(c,b)]) t):=
 ZCV (cv:=.ty T) (cu:=.type T) hg hm ha (ZBw gw mw hv rfl hn hd) (λu h=>h) (Uw N ⟨G,Lx k⟩) he rfl
def PC(X:Cx)(es:List xY)(ws:List Str):Prop:=PA X es (λ_ H Q=>Q (ws.map λw=>V.ref (Af X.K w)) H)
theorem ZA0:PC X [] []:=Pg
theorem Gx{w:Str}{ws:List Str}(mw:X.mg w=vR (.ref (Af X.K w)))(r:PC X es ws)(gw:Gl X w:=by rfl)(hd:(w==("__debug__":Str))=vU:=by decide):PC X (.Name w q::es) (w::ws):=
 Jd (ZAE gw mw (v:=.ref (Af X.K w)) rfl hd) r (Dz _ es X.env rfl)
theorem ZD4{K:vO}:∀{ws:List Str}{us:List xB},Vals (ws.map λw=>V.ref (Af K w)) us->us=ws.map λw=>Value.ref (Af K w)
 |[],_,h=>by cases h;rfl
 | w::ws,_,h=>by
  cases h with
  |cons a b=>
   rw[ZD4 b]
   exact congrArg (·::_) a
theorem ZBK{ws:List Str}{x1:Nat}{tp:Pos}{ces:List xY}(N:nsIn X.K vW c=vR (vR (.ref (Af X.K c))))(G:XGet X.K (Af X.K c))(hm:X.mg "isinstance"=vS)(hc:PC X ces ws)(k:Du (kitAny X.K (.ref (Af X.K c)) (ws.map λw=>Value.ref (Af X.K w))) b=vT)(ha:QE X E e t)(hl:Nat.ble ws.length 1000=vT:=by rfl)(hg:Gl X "isinstance":=by rfl)(he:notStar e=vT:=by rfl):
  QE X E (.Call (.Name "isinstance" p) [e,.Tuple ces x1 tp] [] pos) (dUn (isx [(c,b)]) t):=
 ZK7 hg hm ha hc (by rw[zO];exact qH hl) (λus h=>ZD4 h) (Uw N ⟨G,Lx k⟩) he
theorem ZEj(T:ET X.K X.mg c f)(ha:QE X E e t)(hb:xE e f X.env (eval e X.env)=eval e X.env:=by rfl):QE X E (.Attribute e f pos) (dUn (gtx [c] f) t):=
 ZLB ha (λc' hc C hC=>by cases jG.mp hc;rw[T.N]at hC;cases hC;exact⟨T.G,T.no⟩) hb
theorem ZLm(T:ET X.K X.mg c f)(FI:FnOk X.prog X.w X.K X.mg X.base CX0 k (Bw X.K (Af X.K c) "__init__") (Bj X.K (Bw X.K (Af X.K c) "__init__")) ["self",v] (spI (Af X.K c) f))(hb:Binds X.K (Bj X.K (Bw X.K (Af X.K c) "__init__")) ["self",v] [])(hr:Room j X.A)(ha:QA X E [a] tr)
  (hxe:∀e s,Kv X E e s->X.xe e s:=by exact λ_ _ h=>h) (hj:Nat.ble (k+1) j=vT:=by rfl) (hcalm:X.calm=vT:=by rfl) (hs:X.stack=X.env::X.outer:=by rfl) (hex:X.ex=[]:=by rfl) (hfr:X.env.frame=vR X.env.locals:=by rfl) (hg:Gl X c:=by rfl) (hdb:(c==("__debug__":Str))=vU:=by decide) (hst:notStar a=vT:=by rfl):
  QS X E (.Raise (vR (.Call (.Name c np) [a] [] cpos)) vS pos) (sRz c f tr):=
 ZJP T.N hcalm hs hex hfr hxe T.X T.i T.o FI (hr.mono (qH hj)) hb hg T.g T.k ha hdb hst
theorem ZDE{i:Nat}{fp cp ep hp:Pos}{b₀:xA}{suite:List xA}{hb:DS}{w:Str}(N:nsIn X.K vW c=vR (vR (.ref (Af X.K c))))(hw:takes X.K (Af X.K c) (Af X.K w)=vT)(mw:X.mg w=vR (.ref (Af X.K w)))(FF:FnX X.prog X.w X.K X.mg X.base k n ps F)(T:FT X.K X.mg n st ps)(hr:Room j X.A)
  (ha:QA X.nox E0 (a::es) tr) (hN:X.N.Nodup) (hh:∀ea,RoomH j (Jx X ea).A->QSs (Jx X ea) E0 (b₀::suite) hb) (hj:Nat.ble k j=vT:=by rfl) (hcalm:X.calm=vT:=by rfl) (hs:X.stack=X.env::X.outer:=by rfl) (hfr:X.env.frame=vR X.env.locals:=by rfl) (hg:Gl X n:=by rfl) (hgw:Gl X w:=by rfl) (hi:X.N[i]?=vR x:=by rfl) (hl:X.env.kindOf x=vR .local:=by rfl)
  (hdb:(n==("__debug__":Str))=vU:=by decide) (hdx:(w==("__debug__":Str))=vU:=by decide) (he:vj (a::es) X.env=(vU,eval a X.env)::vj es X.env:=by rfl) (hpl:(xF cp (vj es X.env)).any (·.1)=vU:=by rfl)
  (hsw:swapsWith (.Call (.Name n fp) (a::es) [] cp) vS ep.line X.env=pure vU:=by rfl):
  QS X E (.Try [.Expr (.Call (.Name n fp) (a::es) [] cp) ep] [.ExceptHandler (vR (.Name w np)) (vR x) (b₀::suite) hp] [] [] pos) (Gr [c] i F tr hb):=
 ZI2 hcalm hs hfr FF (hr.mono (qH hj)) T.b hg T.m T.k ha hgw mw hN hi hl (λc' hc C hC=>by cases jG.mp hc;rw[N]at hC;cases hC;exact hw) (λea=>hh ea (RoomH.held (.of hr))) hdb hdx he hpl hsw
end
noncomputable def SR.nr:SR->SR
 |.err _ _=>.bad
 |r=>r
def sNr(t:DS):DS:=λS G=>(t S G).nr
@[simp]theorem ev_sNr{t:DS}{S:DSt}:sNr t S G=(t S G).nr:=id rfl
@[simp]theorem nr_nx{S:DSt}:(SR.nx S G).nr=.nx S G:=id rfl
@[simp]theorem nr_rt{d:D}:(SR.rt d G).nr=.rt d G:=id rfl
theorem ZBO{K:vO}{t:DS}{W:Ends}{σ:St}{H:Hp}(h:lS K E (sNr t) W σ H):lS K E0 t W σ H:=by
 obtain⟨a,S,G,hk,rfl,sm,r,h⟩:=h;refine⟨a,S,G,hk,rfl,sm,r,?_⟩;unfold sNr at h
 revert h
 cases t S G with
 |err x G1=>exact λh=>h.elim
 |nx S1 G1=>exact λh=>h
 |bk S1 G1=>exact λh=>h
 |ct S1 G1=>exact λh=>h
 |rt d G1=>exact λh=>h
 |bad=>exact λh=>h
theorem ZFQ{s:xA}{t:DS}(h:QS X E0 s t):QS X E s (sNr t):=PS.mono h λ_ _ _ z=>ZBO z
theorem ZGq{s:List xA}{t:DS}(h:QSs X E0 s t):QSs X E s (sNr t):=λpins s σ H D I hw=>h pins s σ H D I (ZBO hw)
end _D
namespace _W
open PySem _L _D
noncomputable def top(i:Nat):xA:=PySem.Challenge.pw_sluiceway_k64_no_way.main.body.getD i (.Pass ⟨0,0,0,0⟩)
noncomputable def fuel:Nat:=1000000000000000000000000000000000000000000000000000000000000
noncomputable def inC(s:xA)(j:Nat):xA:=match s with
 |.ClassDef _ _ _ body _ _ _ _ _ _ _=>body.getD j (.Pass ⟨0,0,0,0⟩)
 |_=>.Pass ⟨0,0,0,0⟩
noncomputable abbrev Xg:xA:=inC (top 13) 0
theorem ZKH:FnScope ["self","node"] ["self","node"] (Ao Xg):=⟨rfl,rfl,rfl,by decide +kernel,rfl,by decide +kernel,by decide +kernel⟩
noncomputable abbrev ZAJ:xA:=top 24
noncomputable abbrev ZB5:List Str:=["_law_script","_law_k"]
noncomputable abbrev ZAg:List Str:=ZB5.take 2
theorem ZKO:FnScope ZB5 ZAg (Ao ZAJ):=⟨rfl,rfl,rfl,by decide +kernel,rfl,by decide +kernel,by decide +kernel⟩
noncomputable abbrev Rr:xA:=top 32
noncomputable abbrev W2:List Str:=["_law_many","_law_arcs","_law_node"]
noncomputable abbrev X8:List Str:=W2.take 2
theorem ZCF:FnScope W2 X8 (Ao Rr):=⟨rfl,rfl,rfl,by decide +kernel,rfl,by decide +kernel,by decide +kernel⟩
noncomputable abbrev V1:xA:=top 26
noncomputable abbrev ZDV:List Str:=["_law_cell","_law_prime","_law_many"]
noncomputable abbrev Vv:List Str:=ZDV.take 3
theorem ZJo:FnScope ZDV Vv (Ao V1):=⟨rfl,rfl,rfl,by decide +kernel,rfl,by decide +kernel,by decide +kernel⟩
noncomputable abbrev Wq:xA:=top 27
noncomputable abbrev ZDi:List Str:=["_law_cell","_law_kind","_law_scale"]
noncomputable abbrev ZAB:List Str:=ZDi.take 3
theorem ZMU:FnScope ZDi ZAB (Ao Wq):=⟨rfl,rfl,rfl,by decide +kernel,rfl,by decide +kernel,by decide +kernel⟩
noncomputable abbrev Vp:xA:=top 28
noncomputable abbrev ZBc:List Str:=["_law_pool","_law_many","_law_number"]
noncomputable abbrev Yq:List Str:=ZBc.take 2
theorem ZCC:FnScope ZBc Yq (Ao Vp):=⟨rfl,rfl,rfl,by decide +kernel,rfl,by decide +kernel,by decide +kernel⟩
noncomputable abbrev Uk:xA:=top 29
noncomputable abbrev Zt:List Str:=["_law_pool","_law_many","_law_scale","_law_arcs","_law_k","_law_other","_law_node","_law_most","_law_arc","_law_at","_law_supplies"]
noncomputable abbrev Z4:List Str:=Zt.take 1
theorem Fd:FnScope Zt Z4 (Ao Uk):=⟨rfl,rfl,rfl,by decide +kernel,rfl,by decide +kernel,by decide +kernel⟩
noncomputable abbrev Oo:xA:=top 30
noncomputable abbrev Rb:List Str:=["_law_script","_law_cell","_law_kind","_law_scale","_law_many","_law_long","_law_far","_law_arcs","_law_k","_law_one","_law_reach","_law_node","_law_most","_law_arc","_law_at","_law_supplies"]
noncomputable abbrev ZAh:List Str:=Rb.take 1
theorem Cv:FnScope Rb ZAh (Ao Oo):=⟨rfl,rfl,rfl,by decide +kernel,rfl,by decide +kernel,by decide +kernel⟩
noncomputable abbrev Yp:xA:=top 25
noncomputable abbrev ZEp:List Str:=["_law_found"]
noncomputable abbrev ZAC:List Str:=ZEp.take 1
theorem ZGQ:FnScope ZEp ZAC (Ao Yp):=⟨rfl,rfl,rfl,by decide +kernel,rfl,by decide +kernel,by decide +kernel⟩
noncomputable abbrev V5:xA:=inC (top 22) 1
noncomputable abbrev ZBn:List Str:=["self","node","end","gain","room"]
noncomputable abbrev W4:List Str:=ZBn.take 5
theorem ZHL:FnScope ZBn W4 (Ao V5):=⟨rfl,rfl,rfl,by decide +kernel,rfl,by decide +kernel,by decide +kernel⟩
noncomputable abbrev T5:xA:=inC (top 22) 0
noncomputable abbrev We:List Str:=["self","many","arcs","supplies","wide","arc"]
noncomputable abbrev Wo:List Str:=We.take 4
theorem Vc:FnScope We Wo (Ao T5):=⟨rfl,rfl,rfl,by decide +kernel,rfl,by decide +kernel,by decide +kernel⟩
noncomputable abbrev Vk:xA:=inC (top 22) 5
noncomputable abbrev ZBb:List Str:=["self","node","ways","found","link","onward","way"]
noncomputable abbrev Zm:List Str:=ZBb.take 3
theorem Mj:FnScope ZBb Zm (Ao Vk):=⟨rfl,rfl,rfl,by decide +kernel,rfl,by decide +kernel,by decide +kernel⟩
noncomputable abbrev Rm:xA:=inC (top 22) 4
noncomputable abbrev Vx:List Str:=["self","ways","is_done","node","way"]
noncomputable abbrev Xb:List Str:=Vx.take 1
theorem Lr:FnScope Vx Xb (Ao Rm):=⟨rfl,rfl,rfl,by decide +kernel,rfl,by decide +kernel,by decide +kernel⟩
noncomputable abbrev Sx:xA:=inC (top 22) 8
noncomputable abbrev Uu:List Str:=["self"]
noncomputable abbrev ZAK:List Str:=Uu.take 1
theorem ZF0:FnScope Uu ZAK (Ao Sx):=⟨rfl,rfl,rfl,by decide +kernel,rfl,by decide +kernel,by decide +kernel⟩
noncomputable abbrev Xl:xA:=inC (top 22) 2
noncomputable abbrev ZEV:List Str:=["self","way"]
noncomputable abbrev Xj:List Str:=ZEV.take 2
theorem ZHD:FnScope ZEV Xj (Ao Xl):=⟨rfl,rfl,rfl,by decide +kernel,rfl,by decide +kernel,by decide +kernel⟩
noncomputable abbrev Vb:xA:=inC (top 22) 3
noncomputable abbrev ZBo:List Str:=["self","way"]
noncomputable abbrev Wc:List Str:=ZBo.take 2
theorem ZMF:FnScope ZBo Wc (Ao Vb):=⟨rfl,rfl,rfl,by decide +kernel,rfl,by decide +kernel,by decide +kernel⟩
noncomputable abbrev Vy:xA:=inC (top 22) 7
noncomputable abbrev ZBP:List Str:=["self","node","link","cubes","back"]
noncomputable abbrev Wn:List Str:=ZBP.take 4
theorem ZCB:FnScope ZBP Wn (Ao Vy):=⟨rfl,rfl,rfl,by decide +kernel,rfl,by decide +kernel,by decide +kernel⟩
noncomputable abbrev Tj:xA:=inC (top 22) 6
noncomputable abbrev Xk:List Str:=["self","ways","nodes","node","link"]
noncomputable abbrev Vh:List Str:=Xk.take 2
theorem U5:FnScope Xk Vh (Ao Tj):=⟨rfl,rfl,rfl,by decide +kernel,rfl,by decide +kernel,by decide +kernel⟩
noncomputable abbrev Tg:xA:=top 21
noncomputable abbrev Wh:List Str:=["many","arcs","unbounded","node"]
noncomputable abbrev Z6:List Str:=Wh.take 2
theorem Xf:FnScope Wh Z6 (Ao Tg):=⟨rfl,rfl,rfl,by decide +kernel,rfl,by decide +kernel,by decide +kernel⟩
noncomputable abbrev Px:xA:=top 20
noncomputable abbrev S7:List Str:=["many","arcs","supplies","sending","ways","flow","earned"]
noncomputable abbrev Ws:List Str:=S7.take 3
theorem Np:FnScope S7 Ws (Ao Px):=⟨rfl,rfl,rfl,by decide +kernel,rfl,by decide +kernel,by decide +kernel⟩
noncomputable abbrev Vl:xA:=top 33
noncomputable abbrev ZDn:List Str:=["_law_many","_law_arcs","_law_supplies","e"]
noncomputable abbrev ZAO:List Str:=ZDn.take 3
theorem ZCu:FnScope ZDn ZAO (Ao Vl):=⟨rfl,rfl,rfl,by decide +kernel,rfl,by decide +kernel,by decide +kernel⟩
noncomputable abbrev W5:xA:=top 34
noncomputable abbrev ZDL:List Str:=["_law_many","_law_arcs","_law_supplies","e"]
noncomputable abbrev Za:List Str:=ZDL.take 3
theorem ZCj:FnScope ZDL Za (Ao W5):=⟨rfl,rfl,rfl,by decide +kernel,rfl,by decide +kernel,by decide +kernel⟩
noncomputable abbrev Wt:xA:=top 31
noncomputable abbrev ZEO:List Str:=["_law_arcs","_law_cell","_law_kept","_law_one","_law_other","_law_most","_law_gain","_law_bad"]
noncomputable abbrev Vr:List Str:=ZEO.take 2
theorem Lp:FnScope ZEO Vr (Ao Wt):=⟨rfl,rfl,rfl,by decide +kernel,rfl,by decide +kernel,by decide +kernel⟩
noncomputable abbrev Gn:xA:=top 35
noncomputable abbrev ZBN:List Str:=["_law_script","_law_many","_law_arcs","_law_supplies","_law_node","_law_told","_law_found"]
noncomputable abbrev Vu:List Str:=ZBN.take 1
theorem Hq:FnScope ZBN Vu (Ao Gn):=⟨rfl,rfl,rfl,by decide +kernel,rfl,by decide +kernel,by decide +kernel⟩
def ZDG:DS:=(Ak (sIf (Bc (dOp Jj (dV 1) (dFn Dr (Ab (dV 0) Ag)))) (sRt (dOp Av (dV 0) (dV 1))) sNx) (sRt (dC (.int 0))))
def Fj:List D->DH->R D:=Be 2 0 ZDG
def Z5:DE:=(dV 0)
def Xm:DB:=(Qd (Bc (dOp Ed (dOp Av (dV 0) (dC (.int 0))) (dV 1))) (Bc (dOp Gm (dOp Av (dV 0) (dC (.int 2))) (dC .non))))
def Qm:DS:=(sIf (Bc (dOp Ed (dFn Dr (Ab (Ay (Ex (Eg (dV 1)) 1 [2] (gV 0) Xm Z5)) Ag)) (dC (.int 0)))) (sRt (dV 2)) sNx)
def ZEu:DS:=(Ak (Es (Dw rng1 (Ab (dV 0) Ag)) (gV 2) Qm) (sRt (dC .non)))
def Qf:List D->DH->R D:=Be 2 1 ZEu
def ZC2:DS:=(sRt (dOp Ef (dOp Ef (dOp Cg (dV 0) (dC (.int 48271))) (dV 1)) (dV 2)))
def Ci:List D->DH->R D:=Be 3 0 ZC2
def Vf:DS:=(Ak (sIf (Bc (dOp Ed (dV 1) (dC (.int 3)))) (sRt (dOp Ef (dOp Cg (dV 0) (dC (.int 69621))) (dOp Bb (dOp J7 (dC (.int 10)) (dC (.int 30))) (dC (.int 57))))) sNx) (sRt (dOp Cg (dFn Ci (Ab (dV 0) (Ab (dC (.int 10067)) (Ab (dC (.int 5)) Ag)))) (dV 2))))
def Jy:List D->DH->R D:=Be 3 0 Vf
def ZBA:DS:=(Ak (sAs (dOp Av (dV 0) (dC (.int 0))) (gV 2)) (Ak (sAs (dOp Fl (dV 2) (dV 1)) (gIx (dV 0) (dC (.int 0)))) (sRt (dOp Ef (dV 2) (dV 1)))))
def Dg:List D->DH->R D:=Be 2 1 ZBA
def Ny:DS:=(Ak (sAs (dOp Bb (dOp Bb (dV 4) (dC (.int 1))) (dFn Dg (Ab (dV 0) (Ab (dOp Dq (dV 1) (dV 4)) Ag)))) (gV 5)) (sEx (Hs Em (dV 3) (Ab (dFn Df (Ab (dV 4) (Ab (dV 5) (Ab (dC .non) (Ab (dOp Dq (dFn Dg (Ab (dV 0) (Ab (dC (.int 1801)) Ag))) (dC (.int 900))) Ag))))) Ag))))
def Q9:DS:=(Ak (sAs (dFn Dg (Ab (dV 0) (Ab (dV 1) Ag))) (gV 6)) (Ak (sAs (dOp Bb (dOp Bb (dV 6) (dC (.int 1))) (dFn Dg (Ab (dV 0) (Ab (dOp Dq (dV 1) (dV 6)) Ag)))) (gV 5)) (Ak (sAs (dOp Cg (dFn Dg (Ab (dV 0) (Ab (dC (.int 6)) Ag))) (dV 2)) (gV 7)) (Ak (sIf (Bc (dOp Ed (dV 7) (dOp Cg (dC (.int 5)) (dV 2)))) (sAs (dC .non) (gV 7)) sNx) (Ak (sAs (dFn Df (Ab (dV 6) (Ab (dV 5) (Ab (dV 7) (Ab (dOp Dq (dFn Dg (Ab (dV 0) (Ab (dC (.int 1801)) Ag))) (dC (.int 900))) Ag))))) (gV 8)) (Ak (sAs (dFn Dg (Ab (dV 0) (Ab (dOp Bb (dFn Dr (Ab (dV 3) Ag)) (dC (.int 1))) Ag))) (gV 9)) (sAs (Cp (dOp Bb (Ay (dOp Bb (Ay (dSl (dV 3) vS (vR (dV 9)))) (Ay (dFn Ar (Ab (dV 8) Ag))))) (Ay (dSl (dV 3) (vR (dV 9)) vS)))) (gV 3))))))))
def Qg:DE:=(dOp Cg (dFn Dg (Ab (dV 1) (Ab (dC (.int 5)) Ag))) (dV 2))
def ZEi:DS:=(sRt (dFn Df (Ab (dV 1) (Ab (dV 3) (Ab (dV 10) Ag)))))
def ZC3:DS:=(Ak (sAs (Ex (Dw rng1 (Ab (dV 1) Ag)) 1 [0,2] (gV 0) Cj Qg) (gV 10)) ZEi)
def ZEM:DS:=(Ak (Es (Dw rng1 (Ab (dFn Dg (Ab (dV 0) (Ab (dC (.int 11)) Ag))) Ag)) (gV 4) Q9) ZC3)
def ZBU:DS:=(Ak (Es (Dw rng1 (Ab (dV 1) Ag)) (gV 4) Ny) ZEM)
def ZBk:DS:=(Ak (sAs (Cp (dFn Ar Ag)) (gV 3)) ZBU)
def ZBg:DS:=(Ak (sAs (dOp Av (Ay (dFn Ar (Ab (dC (.int 1)) (Ab (dC (.int 1)) (Ab (dOp Bb (dOp J7 (dC (.int 10)) (dC (.int 9))) (dC (.int 7))) (Ab (dOp J7 (dC (.int 10)) (dC (.int 30))) Ag)))))) (dFn Dg (Ab (dV 0) (Ab (dC (.int 4)) Ag)))) (gV 2)) ZBk)
def ZEC:DS:=(Ak (sAs (dOp Bb (dC (.int 1)) (dFn Dg (Ab (dV 0) (Ab (dC (.int 6)) Ag)))) (gV 1)) ZBg)
def Ub:List D->DH->R D:=Be 1 10 ZEC
def Ng:DS:=(Ak (sAs (dFn Fj (Ab (dV 0) (Ab (dOp Bb (dC (.int 1)) (dV 8)) Ag))) (gV 9)) (Ak (sAs (dOp Dq (dV 4) (dV 8)) (gV 10)) (Ak (sIf (Bc (dV 5)) (sAs (dFn Qt (Ab (dV 10) (Ab (dC (.int 2)) Ag))) (gV 10)) sNx) (sEx (Hs Em (dV 7) (Ab (dFn Df (Ab (dV 8) (Ab (dOp Bb (dOp Bb (dV 8) (dC (.int 1))) (dFn Ci (Ab (dV 9) (Ab (dC (.int 10007)) (Ab (dV 10) Ag))))) (Ab (dC .non) (Ab (dOp Cg (dOp Dq (dFn Ci (Ab (dV 9) (Ab (dC (.int 10009)) (Ab (dC (.int 19)) Ag)))) (dC (.int 9))) (dV 6)) Ag))))) Ag))))))
def Pu:DS:=(Ak (sAs (dFn Ci (Ab (dV 9) (Ab (dC (.int 10037)) (Ab (dV 4) Ag)))) (gV 11)) (Ak (sAs (dFn Jy (Ab (dV 9) (Ab (dV 2) (Ab (dV 3) Ag)))) (gV 12)) (Ak (sIf (Bc (dOp Ed (dFn Ci (Ab (dV 9) (Ab (dC (.int 10039)) (Ab (dC (.int 7)) Ag)))) (dC (.int 1)))) (sAs (dC .non) (gV 12)) sNx) (Ak (sAs (dFn Df (Ab (dV 11) (Ab (dOp Bb (dOp Bb (dV 11) (dC (.int 1))) (dFn Ci (Ab (dV 9) (Ab (dC (.int 10061)) (Ab (dOp Dq (dV 4) (dV 11)) Ag))))) (Ab (dV 12) (Ab (dOp Cg (dOp Dq (dFn Ci (Ab (dV 9) (Ab (dC (.int 10069)) (Ab (dC (.int 19)) Ag)))) (dC (.int 9))) (dV 6)) Ag))))) (gV 13)) (Ak (sAs (dFn Ci (Ab (dV 9) (Ab (dC (.int 10079)) (Ab (dOp Bb (dFn Dr (Ab (dV 7) Ag)) (dC (.int 1))) Ag)))) (gV 14)) (sAs (Cp (dOp Bb (Ay (dOp Bb (Ay (dSl (dV 7) vS (vR (dV 14)))) (Ay (dFn Ar (Ab (dV 13) Ag))))) (Ay (dSl (dV 7) (vR (dV 14)) vS)))) (gV 7)))))))
def Ri:DE:=(dFn Jy (Ab (dFn Fj (Ab (dV 1) (Ab (dOp Bb (dC (.int 7)) (dV 0)) Ag))) (Ab (dV 2) (Ab (dV 3) Ag))))
def U9:DE:=(dOp Cg (dOp Av (dV 2) (dV 0)) (dFn Sh (Ab (dOp Ed (dOp Ef (dV 0) (dC (.int 8))) (dOp Ef (dOp Fl (dV 1) (dC (.int 7))) (dC (.int 8)))) Ag)))
def Vi:DS:=(sRt (dFn Df (Ab (dV 4) (Ab (dV 7) (Ab (dV 15) Ag)))))
def ZDe:DS:=(Ak (sIf (Bc (dV 5)) (sAs (Ay (Ex (Dw rng1 (Ab (dV 4) Ag)) 1 [1,15] (gV 0) Cj U9)) (gV 15)) sNx) Vi)
def T3:DS:=(Ak (sAs (Ay (Ex (Dw rng1 (Ab (dV 4) Ag)) 1 [0,2,3] (gV 0) Cj Ri)) (gV 15)) ZDe)
def Sv:DS:=(Ak (Es (Eg (Ay (dSl (dV 0) (vR (dC (.int 13))) (vR (dOp Bb (dC (.int 13)) (dOp Av (Ay (dFn Ar (Ab (dC (.int 10)) (Ab (dC (.int 10)) (Ab (dC (.int 10)) (Ab (dC (.int 5)) Ag)))))) (dV 2))))))) (gV 9) Pu) T3)
def ZDb:DS:=(Ak (Es (Dw rng1 (Ab (dV 4) Ag)) (gV 8) Ng) Sv)
def Ue:DS:=(Ak (sAs (Cp (dFn Ar Ag)) (gV 7)) ZDb)
def Tf:DS:=(Ak (sAs (dOp Av (Ay (dFn Ar (Ab (dC (.int 1)) (Ab (dC (.int 1)) (Ab (dC (.int 100)) Ag))))) (dFn Ci (Ab (dV 1) (Ab (dC (.int 10103)) (Ab (dC (.int 3)) Ag))))) (gV 6)) Ue)
def Ud:DS:=(Ak (sIf (Bc (dV 5)) (sAs (dOp Bb (dC (.int 11)) (dOp Ef (dOp Fl (dV 1) (dC (.int 96))) (dC (.int 20)))) (gV 4)) sNx) Tf)
def Ti:DS:=(Ak (sAs (M5 (dOp Jj (dV 2) (dC (.int 3))) (dOp Ed (dFn Ci (Ab (dV 1) (Ab (dC (.int 10271)) (Ab (dC (.int 8)) Ag)))) (dC (.int 1)))) (gV 5)) Ud)
def Ra:DS:=(Ak (sIf (Bc (dOp Ed (dV 2) (dC (.int 3)))) (sAs (dOp Bb (dC (.int 1)) (dOp Ef (dOp Fl (dV 1) (dC (.int 16))) (dC (.int 2)))) (gV 4)) sNx) Ti)
def ZEc:DS:=(Ak (sAs (dOp Bb (dC (.int 1)) (dOp Ef (dOp Fl (dV 1) (dC (.int 16))) (dC (.int 6)))) (gV 4)) Ra)
def Xq:DS:=(Ak (sAs (dOp Av (Ay (dFn Ar (Ab (dC (.int 1)) (Ab (dC (.int 1)) (Ab (dOp Bb (dOp J7 (dC (.int 10)) (dC (.int 9))) (dC (.int 7))) (Ab (dOp J7 (dC (.int 10)) (dC (.int 30))) Ag)))))) (dOp Ef (dOp Fl (dV 1) (dC (.int 4))) (dC (.int 4)))) (gV 3)) ZEc)
def ZC5:DS:=(Ak (sAs (dOp Ef (dV 1) (dC (.int 4))) (gV 2)) Xq)
def ZAD:DS:=(Ak (sIf (Lh (Bc (Ro V7 Jj (dC (.int 0)) (dFn Fj (Ab (dV 0) (Ab (dC (.int 1)) Ag))) (dOp J7 (dC (.int 10)) (dC (.int 18)))))) (sRt (dFn Ub (Ab (Cp (dFn Ar (Ab (dFn Fj (Ab (dV 0) (Ab (dC (.int 1)) Ag))) Ag))) Ag))) sNx) ZC5)
def Xw:DS:=(Ak (sAs (dFn Fj (Ab (dV 0) (Ab (dC (.int 0)) Ag))) (gV 1)) ZAD)
def Li:List D->DH->R D:=Be 1 15 Xw
def ZDK:DS:=(sRt (M5 (dFn K8 (Ab (dV 0) (Ab (dC (.ty "int")) Ag))) (Wb (dFn K8 (Ab (dV 0) (Ab (dC (.ty "bool")) Ag))))))
def Qx:List D->DH->R D:=Be 1 0 ZDK
def ZBe:DS:=(Ak (sEx (Hs Em (dOp Av (Bk "Sending" (dV 0) "links_from") (dV 1)) (Ab (Cp (dFn Dr (Ab (Bk "Sending" (dV 0) "ends") Ag))) Ag))) (Ak (sEx (Hs Em (Bk "Sending" (dV 0) "ends") (Ab (Cp (dV 2)) Ag))) (Ak (sEx (Hs Em (Bk "Sending" (dV 0) "worths") (Ab (Cp (dOp Dq (dOp Cg (dV 3) (Bk "Sending" (dV 0) "scale")) (dC (.int 1)))) Ag))) (sEx (Hs Em (Bk "Sending" (dV 0) "rooms") (Ab (Cp (dV 4)) Ag))))))
def H9:List D->DH->R D:=Be 5 0 ZBe
def M4:DE:=(Cp (dFn Ar Ag))
def Od:DS:=(Ak (sEx (Fv "Sending" "add_link" H9 (dV 0) (Ab (dOp Av (dV 5) (dC (.int 0))) (Ab (dOp Av (dV 5) (dC (.int 1))) (Ab (dOp Av (dV 5) (dC (.int 3))) (Ab (dIf (Bc (dOp Gm (dOp Av (dV 5) (dC (.int 2))) (dC .non))) (dV 4) (dOp Av (dV 5) (dC (.int 2)))) Ag)))))) (sEx (Fv "Sending" "add_link" H9 (dV 0) (Ab (dOp Av (dV 5) (dC (.int 1))) (Ab (dOp Av (dV 5) (dC (.int 0))) (Ab (dUn Ik (dOp Av (dV 5) (dC (.int 3)))) (Ab (dC (.int 0)) Ag)))))))
def ZBa:DS:=(Ak (sAs (dOp Bb (dFn Hy (Ab (dV 3) Ag)) (dC (.int 1))) (gV 4)) (Ak (Eh "Sending" (dV 0) (dOp Bb (dV 1) (dC (.int 1))) "scale") (Ak (Eh "Sending" (dV 0) (Cp (dOp Bb (Ay (dFn Dk (Ab (dV 3) Ag))) (Ay (dFn Ar (Ab (dC (.int 0)) Ag))))) "left") (Ak (Eh "Sending" (dV 0) (Ex (Eg (Bk "Sending" (dV 0) "left")) 1 [] (gV 0) Cj M4) "links_from") (Ak (Eh "Sending" (dV 0) (Cp (dFn Ar Ag)) "ends") (Ak (Eh "Sending" (dV 0) (Cp (dFn Ar Ag)) "worths") (Ak (Eh "Sending" (dV 0) (Cp (dFn Ar Ag)) "rooms") (Es (Eg (dV 2)) (gV 5) Od))))))))
def Ui:List D->DH->R D:=Be 4 2 ZBa
def Qs:DS:=(Ak (sAs (dOp Av (dV 2) (dOp Av (Bk "Sending" (dV 0) "ends") (dV 4))) (gV 5)) (sIf (Qd (Bc (dOp Sg (dOp Av (Bk "Sending" (dV 0) "rooms") (dV 4)) (dC (.int 0)))) (Bc (dOp Lw (dV 5) (dC .non)))) (Ak (sAs (dOp Bb (dV 5) (dOp Av (Bk "Sending" (dV 0) "worths") (dV 4))) (gV 6)) (sIf (dOr (Bc (dOp Gm (dV 3) (dC .non))) (Bc (dOp Jj (dV 3) (dV 6)))) (sAs (dV 6) (gV 3)) sNx)) sNx))
def ZEA:DS:=(Ak (sAs (dOp Av (dV 2) (dV 1)) (gV 3)) (Ak (Es (Eg (dOp Av (Bk "Sending" (dV 0) "links_from") (dV 1))) (gV 4) Qs) (sRt (dV 3))))
def O3:List D->DH->R D:=Be 3 4 ZEA
def ZDp:DE:=(dC .non)
def O4:DS:=(Ak (sAs (Fv "Sending" "best_way" O3 (dV 0) (Ab (dV 3) (Ab (dV 1) Ag))) (gV 4)) (sIf (Bc (dOp Hn (dV 4) (dOp Av (dV 1) (dV 3)))) (Ak (sAs (dV 4) (gIx (dV 1) (dV 3))) (sAs (dC (.bl vU)) (gV 2))) sNx))
def T6:DS:=(Ak (sAs (dC (.bl vT)) (gV 2)) (Es (Dw rng3 (Ab (dOp Dq (dFn Dr (Ab (dV 1) Ag)) (dC (.int 2))) (Ab (dUn Ik (dC (.int 1))) (Ab (dUn Ik (dC (.int 1))) Ag)))) (gV 3) O4))
def M9:DB:=(Lh (Bc (dV 2)))
def ZEH:DS:=(Ak (sAs (Ex (Eg (Bk "Sending" (dV 0) "left")) 1 [] (gV 0) Cj ZDp) (gV 1)) (Ak (sAs (dC (.int 0)) (gIx (dV 1) (dUn Ik (dC (.int 1))))) (Ak (sAs (dC (.bl vU)) (gV 2)) (Ak (sWh M9 T6 fuel) (sRt (dV 1))))))
def Iw:List D->DH->R D:=Be 1 4 ZEH
def Yz:DE:=(dV 1)
def Wi:DB:=(Bc (dOp Ed (dOp Ef (dV 0) (dC (.int 2))) (dC (.int 1))))
def ZBl:DS:=(sRt (Ex (Dw Q3 (Ab (Bk "Sending" (dV 0) "rooms") Ag)) 2 [] (Fg 2 (Bu (gV 0) (Bu (gV 1) Gg))) Wi Yz))
def Ko:List D->DH->R D:=Be 1 0 ZBl
def ZB6:DS:=(sRt (dUn Ik (dOp Fl (dUn Ik (dV 1)) (Bk "Sending" (dV 0) "scale"))))
def Ky:List D->DH->R D:=Be 2 0 ZB6
def ZCl:DS:=(sRt (dOp Ef (dUn Ik (dV 1)) (Bk "Sending" (dV 0) "scale")))
def Pz:List D->DH->R D:=Be 2 0 ZCl
def ZDC:DS:=(Ak (sAs (dIf (Bc (dOp Ed (dOp Ef (dV 2) (dC (.int 2))) (dC (.int 0)))) (dOp Bb (dV 2) (dC (.int 1))) (dOp Dq (dV 2) (dC (.int 1)))) (gV 4)) (Ak (Mg (Bk "Sending" (dV 0) "left") (dV 1) (dV 3) Dq) (Ak (Mg (Bk "Sending" (dV 0) "left") (dOp Av (Bk "Sending" (dV 0) "ends") (dV 2)) (dV 3) Py) (Ak (Mg (Bk "Sending" (dV 0) "rooms") (dV 2) (dV 3) Dq) (Mg (Bk "Sending" (dV 0) "rooms") (dV 4) (dV 3) Py)))))
def O9:List D->DH->R D:=Be 4 1 ZDC
def Ua:DE:=(Fv "Sending" "links_of" Pz (dV 1) (Ab (dOp Av (dV 2) (dV 0)) Ag))
def Qc:DS:=(sIf (Bc (dOp Ed (dOp Av (dV 1) (dV 3)) (dOp Bb (dOp Av (dV 1) (dOp Av (Bk "Sending" (dV 0) "ends") (dV 4))) (dOp Av (Bk "Sending" (dV 0) "worths") (dV 4))))) (sEx (Fv "Sending" "send_along" O9 (dV 0) (Ab (dV 3) (Ab (dV 4) (Ab (dFn Qt (Ab (dOp Av (Bk "Sending" (dV 0) "left") (dV 3)) (Ab (dOp Av (Bk "Sending" (dV 0) "rooms") (dV 4)) Ag))) Ag))))) sNx)
def Rz:DS:=(Es (Eg (dOp Av (Bk "Sending" (dV 0) "links_from") (dV 3))) (gV 4) Qc)
def ZBf:DS:=(Ak (sAs (Ay (Sq "Sending" "send_by" (Ab (dOp Dq (dFn Dr (Ab (dV 1) Ag)) (dC (.int 1))) Ag) [0,1] Ua)) (gV 2)) (Es (Eg (dV 2)) (gV 3) Rz))
def Pk:List D->DH->R D:=Be 2 3 ZBf
def Ow:DE:=(dOp Av (dV 0) (dC (.int 0)))
def Oi:DB:=(Bc (dOp Gm (dOp Av (dV 0) (dC (.int 2))) (dC .non)))
def Ha:DS:=(sIf (Bc (dOp Lj (dV 3) (dV 2))) (sRz "NoWay" "node" (Ab (dV 3) Ag)) sNx)
def Xu:DS:=(Ak (sNr (sAs (Ay (Ex (Eg (dV 1)) 1 [] (gV 0) Oi Ow)) (gV 2))) (Es (Dw rng1 (Ab (dV 0) Ag)) (gV 3) Ha))
def Nj:List D->DH->R D:=Be 2 2 Xu
def Ox:DS:=(Ak (sEx (Fv "Sending" "send_by" Pk (dV 3) (Ab (dV 4) Ag))) (sAs (Ay (Fv "Sending" "best_ways" Iw (dV 3) Ag)) (gV 4)))
def Qj:DB:=(Bc (dOp Sg (dFn Hy (Ab (Ay (dSl (Bk "Sending" (dV 3) "left") vS (vR (dV 0)))) Ag)) (dC (.int 0))))
def Zy:DE:=(dOp Cg (dV 0) (dOp Av (dV 1) (dC (.int 3))))
def Nv:DE:=(Fv "Sending" "gain_of" Ky (dV 1) (Ab (dV 0) Ag))
def ZCM:DS:=(sRt (dFn Df (Ab (dV 6) (Ab (dV 5) (Ab (Ay (Ex (Eg (Ay (dSl (dV 4) vS (vR (dV 0))))) 1 [3] (gV 0) Cj Nv)) Ag)))))
def ZBG:DS:=(Ak (sAs (dFn Hy (Ab (Ay (Ex (Dw (Ln 2) (Ab (dV 5) (Ab (dV 1) Ag))) 2 [] (Fg 2 (Bu (gV 0) (Bu (gV 1) Gg))) Cj Zy)) Ag)) (gV 6)) ZCM)
def ZDy:DS:=(Ak (sAs (Ay (Fv "Sending" "flow_sent" Ko (dV 3) Ag)) (gV 5)) ZBG)
def ZBz:DS:=(Ak (sWh Qj Ox fuel) ZDy)
def ZEg:DS:=(Ak (sAs (Ay (Fv "Sending" "best_ways" Iw (dV 3) Ag)) (gV 4)) ZBz)
def ZEF:DS:=(Ak (sAs (Yc "Sending" Ui (Ab (dV 0) (Ab (dV 1) (Ab (dV 2) Ag)))) (gV 3)) ZEg)
def Yw:DS:=(Ak (sEx (dFn Nj (Ab (dV 0) (Ab (dV 1) Ag)))) (sNr ZEF))
def Fw:List D->DH->R D:=Be 3 4 Yw
def Nu:DS:=(Ak (sIf (Bc (dUn (isx [("NoWay",vU)]) (dV 3))) (sRt (dFn Df (Ab (dC (.str "bad")) Ag))) sNx) (Ak (sIf (Bc (dUn (isx [("NoWay",vU)]) (dV 3))) (sRt (dFn Df (Ab (dC (.str "bad")) Ag))) sNx) (Ak (sIf (Lh (Bc (dFn Qx (Ab (dUn (gtx ["NoWay"] "node") (dV 3)) Ag)))) (sRt (dFn Df (Ab (dC (.str "bad")) Ag))) sNx) (sRt (dFn Df (Ab (dUn (gtx ["NoWay"] "node") (dV 3)) Ag))))))
def Wf:DS:=(Ak (Gr ["NoWay"] 3 Fw (Ab (dV 0) (Ab (Ay (dFn Dk (Ab (dV 1) Ag))) (Ab (Ay (dFn Dk (Ab (dV 2) Ag))) Ag))) Nu) (sRt (dC .non)))
def Mu:List D->DH->R D:=Be 3 1 Wf
def S9:DS:=(sRt (M5 (dUn (isx [("NoWay",vT)]) (dV 3)) (dUn (isx [("NoWay",vT)]) (dV 3))))
def ZB3:DS:=(Ak (Gr ["NoWay"] 3 Fw (Ab (dV 0) (Ab (Ay (dFn Dk (Ab (dV 1) Ag))) (Ab (Ay (dFn Dk (Ab (dV 2) Ag))) Ag))) S9) (sRt (dC (.bl vU))))
def Uh:List D->DH->R D:=Be 3 1 ZB3
def Q6:DS:=(Ak (sAs (dOp Ed (dFn Ci (Ab (dV 1) (Ab (dOp Bb (dC (.int 10141)) (dOp Cg (dC (.int 10)) (dV 3))) (Ab (dC (.int 3)) Ag)))) (dC (.int 1))) (gV 7)) (sIf (dOr (Lh (Bc (dV 7))) (Bc (dOp Lw (dV 5) (dC .non)))) (sEx (Hs Em (dV 2) (Ab (dFn Df (Ab (dV 3) (Ab (dV 4) (Ab (dV 5) (Ab (dV 6) Ag))))) Ag))) (sIf (Bc (dOp Ed (dFn Ci (Ab (dV 1) (Ab (dC (.int 10151)) (Ab (dC (.int 2)) Ag)))) (dC (.int 0)))) (sEx (Hs Em (dV 2) (Ab (dFn Df (Ab (dV 3) (Ab (dV 4) (Ab (dFn Ci (Ab (dV 1) (Ab (dC (.int 10159)) (Ab (dC (.int 5)) Ag)))) (Ab (dV 6) Ag))))) Ag))) sNx)))
def ZCP:DS:=(Ak (sAs (Cp (dFn Ar Ag)) (gV 2)) (Ak (Es (Eg (dV 0)) (Fg 4 (Bu (gV 3) (Bu (gV 4) (Bu (gV 5) (Bu (gV 6) Gg))))) Q6) (sRt (dV 2))))
def Ry:List D->DH->R D:=Be 2 6 ZCP
def Mm:DS:=(Ak (sAs (Ay (dOp Bb (Ay (dFn Ar (Ab (dFn Df (Ab (dV 4) (Ab (dV 1) (Ab (dC .non) (Ab (dC (.int 3)) Ag))))) Ag))) (dV 2))) (gV 2)) (sAs (dFn Qf (Ab (dV 1) (Ab (dV 2) Ag))) (gV 4)))
def M8:DB:=(Bc (dOp Lw (dV 4) (dC .non)))
def ZBD:DS:=(sRt (M5 (dFn K8 (Ab (dV 6) (Ab (dC (.ty "tuple")) Ag))) (dOp Ed (dFn Dr (Ab (dV 6) Ag)) (dC (.int 3)))))
def ZBL:DS:=(Ak (sAs (Ay (dFn Fw (Ab (dV 1) (Ab (Ay (dFn Dk (Ab (dV 2) Ag))) (Ab (Ay (dFn Dk (Ab (dV 3) Ag))) Ag))))) (gV 6)) ZBD)
def ZDl:DS:=(Ak (sWh M8 Mm fuel) ZBL)
def ZDN:DS:=(Ak (sIf (dOr (Bc (dOp Hn (dV 5) (dFn Df (Ab (dV 4) Ag)))) (Lh (Bc (dFn Uh (Ab (dV 1) (Ab (dV 2) (Ab (dV 3) Ag))))))) (sRt (dC (.bl vU))) sNx) ZDl)
def Yd:DS:=(Ak (sIf (Bc (dOp Gm (dV 4) (dC .non))) (sRt (dOp Gm (dV 5) (dC .non))) sNx) ZDN)
def W6:DS:=(Ak (sAs (dFn Mu (Ab (dV 1) (Ab (dV 2) (Ab (dV 3) Ag)))) (gV 5)) Yd)
def ZAS:DS:=(Ak (sAs (dFn Qf (Ab (dV 1) (Ab (dV 2) Ag))) (gV 4)) W6)
def Wa:DS:=(Ak (sAs (Ay (dFn Ry (Ab (dV 2) (Ab (dFn Fj (Ab (dV 0) (Ab (dC (.int 23)) Ag))) Ag)))) (gV 2)) ZAS)
def Zg:DS:=(Ak (sAs (Ay (dFn Li (Ab (dV 0) Ag))) (Fg 3 (Bu (gV 1) (Bu (gV 2) (Bu (gV 3) Gg))))) Wa)
def Jg:List D->DH->R D:=Be 1 6 Zg
def Holds:Prop:=∀ns:List Int,ns.length<=63->∃G,Jg [.fl (ns.map D.int)] [.tab "Sending" "send_by"]=.ok (.bl vT) G
end _W
namespace _W
open PySem _L _D
variable{G L H Γ G1 G2:DH}{ds A S':List D}{S:DSt}{n m i w p q j k t u l b:Nat}{f g s:Nat->Int}{c sc z wide:Int}{xs:List Int}{P:List (Option Int)}{lk:Nat->List Nat}{F:List D->DH->R D}{o:DO}{d:D}
noncomputable def cellAt(ns:List Int)(k:Int):Int:=ns.getD k.toNat 0
theorem Nr{ns:List Int}{k:Int}(hk:0<=k):Fj [.fl (ns.map D.int),.int k] G=.ok (.int (cellAt ns k)) G:=by
 unfold Fj ZDG cellAt;rw[Bv];by_cases h:k<ns.length
 ·simp[h];rw[Gi (d:=D.int (ns[k.toNat]'(by lia))) (k:=k.toNat) (by lia) (by rw[zC,zY (by lia)];rfl)];simp[Ej,zY (show k.toNat<ns.length by lia)]
 ·simp[h,Ej,zH (show ns.length<=k.toNat by lia)]
theorem ZH4{A:DO}(h:bels (G.length+1) ds=vT):freeze (G++[A]) (.ok (.ref (G.length+1)) (G++A:: .lst ds::L))=.ok (.fl ds) (G++[A]):=by have:=Cd (G:=G++[A]) (ds:=ds) (L:=L) (by simpa using h);simpa using this
theorem ZJt{A:DO}(h:bels (G.length+1) ds=vT):tidy (G++[A]) (.ok (.ref (G.length+1)) (G++A:: .lst ds::L))=.ok (.ref (G.length+1)) (G++[A,.lst ds]):=by have:=Hk (G:=G++[A]) (ds:=ds) (L:=L) (by simpa using h);simpa using this
theorem Yv{α:Type}{xs:List α}{a:Nat}(h:a<=xs.length):cutD xs vS (vR (a:Int))=xs.take a:=by
 have:=(Jw xs.length (a:Int)).1;have e:HT.sIx xs.length xs.length (vR (a:Int))=a:=by lia
 unfold cutD;rw[e];simp[HT.sIx]
theorem ZFz{α:Type}{xs:List α}{a:Nat}(h:a<=xs.length):cutD xs (vR (a:Int)) vS=xs.drop a:=by
 have:=(Jw xs.length (a:Int)).2;have e:HT.sIx xs.length 0 (vR (a:Int))=a:=by lia
 unfold cutD;rw[e];simp only[HT.sIx];exact jL (by simp)
theorem ZDT{te:DE}{F:Nat->D}(h:∀k:Nat,k<n->te (S.set 0 (vR (.int k))) G=.ok (F k) G):Cq (gV 0) Cj te S (Bd 0 n) G=.ok ((zJ n).map F) G:=by
 have e:Bd 0 n=(zJ n).map λ(i:Nat)=>D.int (i:Int):=by
  refine j0 λi=>?_
  simp[Bd]
 rw[Qe (F:=λd=>match d with | .int i=>vR (F i.toNat)|_=>vS) (λq hq=>?_)]
 ·congr 1
  rw[e,qP];show(zJ n).filterMap (λ(i:Nat)=>vR (F ((i:Int).toNat)))=_;rw[jM];simp
 ·rw[e]at hq;obtain⟨i,hi,rfl⟩:=zS.mp hq;exact⟨S.set 0 (vR (.int i)),by simp,.inr ⟨rfl,F i,h i (qX.mp hi),by simp⟩⟩
noncomputable def Aj:Nat->(Nat->Int)->Int
 |0,_=>0
 |n+1,f=>Aj n f+f n
theorem Fb:∀{n:Nat},(∀k,k<n->f k=g k)->Aj n f=Aj n g
 |0,_=>rfl
 |n+1,h=>by show Aj n f+f n=Aj n g+g n;rw[Fb λk hk=>h k (by lia),h n (by lia)]
theorem Fo:∀(n:Nat),Aj n (λk=>f k+g k)=Aj n f+Aj n g
 |0=>rfl
 |n+1=>by show Aj n (λk=>f k+g k)+(f n+g n)=_;rw[Fo n];show _=(Aj n f+f n)+(Aj n g+g n);lia
theorem Hd:∀(n:Nat),Aj n (λ_=>0)=0
 |0=>rfl
 |n+1=>by
  show Aj n (λ_=>0)+0=0;rw[Hd n]
  rfl
theorem ZAR:∀(n:Nat),Aj n (λk=>c*f k)=c*Aj n f
 |0=>by show 0=c*0;rw[jH]
 |n+1=>by show Aj n (λk=>c*f k)+c*f n=c*(Aj n f+f n);rw[ZAR n,xX]
theorem Dt:∀{n:Nat},(∀k,k<n->f k<=g k)->Aj n f<=Aj n g
 |0,_=>qW _
 |n+1,h=>by
  show Aj n f+f n<=Aj n g+g n;have h1:=Dt (n:=n) λk hk=>h k (by lia)
  have h2:=h n (by lia);lia
theorem Hv{x:Nat->Int}:∀{n u:Nat},u<n->Aj n (λk=>if k=u then x k else 0)=x u
 |0,u,h=>by lia
 |n+1,u,h=>by
  show Aj n (λk=>if k=u then x k else 0)+(if n=u then x n else 0)=x u;by_cases e:n=u
  ·subst e;rw[if_pos rfl,Fb (g:=λ_=>0) λk hk=>if_neg (by lia),Hd];lia
  ·rw[if_neg e,Hv (n:=n) (u:=u) (by lia)];lia
theorem ZAV{x:Nat->Nat->Int}:∀(n:Nat),Aj n (λu=>Aj m λi=>x u i)=Aj m λi=>Aj n λu=>x u i
 |0=>by
  show 0=Aj m λi=>0
  rw[Hd]
 |n+1=>by
  show Aj n (λu=>Aj m λi=>x u i)+Aj m (λi=>x n i)=Aj m λi=>Aj n (λu=>x u i)+x n i
  rw[ZAV n,Fo]
structure Arc where
 fr:Nat
 to:Nat
 mo:Option Int
 ga:Int
variable{a:Nat->Arc}{x:Arc}{as:List Arc}
def Cu(a:Nat->Arc)(m:Nat)(f:Nat->Int)(u:Nat):Int:=Aj m λi=>if(a i).fr=u then f i else 0
def inA(a:Nat->Arc)(m:Nat)(f:Nat->Int)(u:Nat):Int:=Aj m λi=>if(a i).to=u then f i else 0
structure Feas (n m:Nat) (a:Nat->Arc) (s f:Nat->Int):Prop where
 nn:∀i,i<m->0<=f i
 le:∀i b,i<m->(a i).mo=vR b->f i<=b
 bal:∀u,u<n->Cu a m f u=s u+inA a m f u
structure Slack (m:Nat) (a:Nat->Arc) (f p:Nat->Int):Prop where
 more:∀i,i<m->(∀b,(a i).mo=vR b->f i<b)->(a i).ga+p (a i).to<=p (a i).fr
 some_:∀i,i<m->0<f i->p (a i).fr<=(a i).ga+p (a i).to
def O8(a:Nat->Arc)(m:Nat)(f:Nat->Int):Int:=Aj m λi=>f i*(a i).ga
theorem ZD2{q:Nat->Nat}{p:Nat->Int}(h:∀i,i<m->q i<n):Aj m (λi=>f i*p (q i))=Aj n λu=>p u*Aj m λi=>if q i=u then f i else 0:=by
 have e:(λu=>p u*Aj m λi=>if q i=u then f i else 0)=λu=>Aj m λi=>if q i=u then f i*p (q i)else 0:=by
  funext u;rw[<-ZAR];refine Fb λi _=>?_
  by_cases e:q i=u
  ·rw[if_pos e,if_pos e,e,Int.mul_comm]
  ·rw[if_neg e,if_neg e,jH]
 rw[e,ZAV];refine Fb λi hi=>?_
 have e2:(λu=>if q i=u then f i*p (q i)else 0)=λu=>if u=q i then f i*p (q i)else 0:=by
  funext u;by_cases e:q i=u
  ·rw[if_pos e,if_pos e.symm]
  ·rw[if_neg e,if_neg λz=>e z.symm]
 rw[e2];exact(Hv (x:=λ_=>f i*p (q i)) (h i hi)).symm
theorem ZGF{p:Nat->Int}(hp:p n=0)(ha:∀i,i<m->(a i).fr<n/\(a i).to<=n)(F:Feas n m a s f):Aj m (λi=>f i*p (a i).fr)-Aj m (λi=>f i*p (a i).to)=Aj n λu=>p u*s u:=by
 have h1:=ZD2 (q:=λi=>(a i).fr) (f:=f) (p:=p) (n:=n) (m:=m) λi hi=>(ha i hi).1
 have h2:=ZD2 (q:=λi=>(a i).to) (f:=f) (p:=p) (n:=n+1) (m:=m) λi hi=>by have:=(ha i hi).2;lia
 have h3:Aj (n+1) (λu=>p u*Aj m λi=>if(a i).to=u then f i else 0)=Aj n (λu=>p u*inA a m f u):=by
  show Aj n _+p n*_=_;rw[hp,Int.zero_mul,Int.add_zero]
  rfl
 have h4:Aj n (λu=>p u*Cu a m f u)=Aj n (λu=>p u*s u)+Aj n (λu=>p u*inA a m f u):=by
  rw[<-Fo];refine Fb λu hu=>?_
  rw[F.bal u hu,xX]
 have h1':Aj m (λi=>f i*p (a i).fr)=Aj n (λu=>p u*Cu a m f u):=h1;have h2':Aj m (λi=>f i*p (a i).to)=Aj n (λu=>p u*inA a m f u):=h2.trans h3;lia
theorem most{p:Nat->Int}(hp:p n=0)(ha:∀i,i<m->(a i).fr<n/\(a i).to<=n)(F:Feas n m a s f)(S:Slack m a f p)(H:Feas n m a s g):O8 a m g<=O8 a m f:=by
 have e:∀x:Nat->Int,Feas n m a s x->O8 a m x=Aj m (λi=>x i*((a i).ga+p (a i).to-p (a i).fr))+Aj n λu=>p u*s u:=λx X=>by
  have h1:=ZGF hp ha X;have h2:Aj m (λi=>x i*((a i).ga+p (a i).to-p (a i).fr))+Aj m (λi=>x i*p (a i).fr)=O8 a m x+Aj m (λi=>x i*p (a i).to):=by
   rw[<-Fo];unfold O8;rw[<-Fo];refine Fb λi _=>?_
   rw[Int.mul_sub,xX];lia
  lia
 rw [e g H,e f F];have:Aj m (λi=>g i*((a i).ga+p (a i).to-p (a i).fr))<=Aj m (λi=>f i*((a i).ga+p (a i).to-p (a i).fr)):=Dt λi hi=>by
  generalize hr:(a i).ga+p (a i).to-p (a i).fr=r;rcases Int.lt_trichotomy r 0 with z|z|z
  ·have hf:f i=0:=by have h1:=F.nn i hi;have h2:=S.some_ i hi;lia
   rw[hf,Int.zero_mul];have h3:=H.nn i hi;exact Int.mul_nonpos_of_nonneg_of_nonpos h3 (by lia)
  ·rw[z,jH,jH];exact qW _
  ·have hb:∃b,(a i).mo=vR b/\b<=f i:=by
    cases hm:(a i).mo with
    |none=>
     have:=S.more i hi λb hb=>by rw[hm]at hb;cases hb
     lia
    |some b=>
     refine⟨b,rfl,Int.not_lt.mp λhlt=>?_⟩;have:=S.more i hi λb' hb'=>by rw[hm]at hb';cases hb';exact hlt
     lia
   obtain⟨b,h1,h2⟩:=hb;have h3:=H.le i b hi h1;exact zL (by lia) (by lia)
 lia
inductive Way (m:Nat) (a:Nat->Arc) (f:Nat->Int):Nat->Nat->Int->Prop
 |here (u:Nat):Way m a f u u 0
 |on {i v:Nat} {w:Int}:i<m->(∀b,(a i).mo=vR b->f i<b)->Way m a f (a i).to v w->Way m a f (a i).fr v ((a i).ga+w)
 |back {i v:Nat} {w:Int}:i<m->0<f i->Way m a f (a i).fr v w->Way m a f (a i).to v (w-(a i).ga)
def bump(f:Nat->Int)(i:Nat)(c:Int):Nat->Int:=λk=>if k=i then f k+c else f k
theorem ZCi{q:Nat->Nat}:∀{m:Nat},i<m->Aj m (λk=>if q k=w then bump f i c k else 0)=Aj m (λk=>if q k=w then f k else 0)+(if q i=w then c else 0):=λ{m}hi=>by
 have e:(λk=>if q k=w then bump f i c k else 0)=λk=>(if q k=w then f k else 0)+(if k=i then(λk=>if q k=w then c else 0) k else 0):=by
  funext k;unfold bump;by_cases h2:k=i
  ·subst h2
   by_cases h1:q k=w<;>simp[h1]
  ·simp[h2]
 rw[e,Fo,Hv hi]
def ex(a:Nat->Arc)(m:Nat)(f:Nat->Int)(w:Nat):Int:=Cu a m f w-inA a m f w
theorem ZLw(hi:i<m):ex a m (bump f i c) w=ex a m f w+(if(a i).fr=w then c else 0)-(if(a i).to=w then c else 0):=by unfold ex Cu inA;rw[ZCi (q:=λk=>(a k).fr) hi,ZCi (q:=λk=>(a k).to) hi];lia
noncomputable def moD:Option Int->D
 |none=>.non
 |some b=>.int b
def encA(x:Arc):D:=.tup [.int x.fr,.int x.to,moD x.mo,.int x.ga]
@[simp]theorem ZLE{o:Option Int}:bel n (moD o)=vT:=by cases o<;>rfl
@[simp]theorem ZLa:bel n (encA x)=vT:=by simp[encA]
theorem Gk{l:List Arc}:bels n (l.map encA)=vT:=La λ_ _=>ZLa
theorem Cz:bels m (xs.map D.int)=vT:=La λ_ _=>rfl
structure ArcOk (n:Nat) (x:Arc):Prop where
 lt:x.fr<n
 up:x.fr<x.to
 le:x.to<=n
 mo:∀b,x.mo=vR b->0<=b
 ga: -1000<=x.ga/\x.ga<=1000
structure NetG (n:Nat) (as:List Arc) (s:List Int):Prop where
 n1:1<=n
 n2:n<=30
 len:as.length<=40
 arc:∀x∈as,ArcOk n x
 way:∀k,k<n->∃x∈as,x.fr=k/\x.mo=vS
 sl:s.length=n
 sn:∀x∈s,0<=x
 sb:∀x∈s,x<10^40
theorem divS{i k:Int}(h:0<k)(h2:k<1000000):Fl (.int i) (.int k) G=.ok (.int (i/k)) G:=by obtain⟨n,rfl⟩:=Int.eq_ofNat_of_zero_le (xZ h);exact ZFj (by lia) (log2_small (Nat.lt_trans (show n<1000000 by lia) (by decide)))
theorem Vw{x k:Int}(hk:0<k)(hk9:k<1000000)(G L:DH):Dg [.ref G.length,.int k] (G++ .lst [.int x]::L)=.ok (.int (x%k)) (G++ .lst [.int (x/k)]::L):=by
 have td:tidy (G++ .lst [.int x]::L) (.ok (.int (x%k)) (G++ .lst [.int (x/k)]::L))=.ok (.int (x%k)) (G++ .lst [.int (x/k)]::L):=R8 (by simp) rfl;have g0:∀o:DO,(G++o::L)[G.length]?=vR o:=λo=>by rw[Qq];rfl
 have s0:∀o o':DO,(G++o::L).set G.length o'=G++o'::L:=λo o'=>by rw[Lg];rfl
 have dv:∀H:DH,Fl (.int x) (.int k) H=.ok (.int (x/k)) H:=λH=>divS hk hk9
 unfold Dg ZBA;rw[Bv];have i0:ixN 1 0=vR 0:=by decide
 simp[g0,s0,hk,dv,td,i0]
theorem ZCr(hn:n<=30):∀(m k:Nat)(x:Int),k+m=n->∃(as:List Arc)(x':Int),as.length=m/\(∀a∈as,ArcOk n a)/\(∀j,k<=j->j<n->∃a∈as,a.fr=j/\a.mo=vS)/\∀(G:DH)(acc:List Arc)(s2 s6 s7 s8 s9 s10 x4 x5:Option D),acc.length+m<=100->∃y4 y5,
  Bt (gV 4) Ny (Bd k m) [vR (.ref G.length),vR (.int n),s2,vR (.ref (G.length+1)),x4,x5,s6,s7,s8,s9,s10] (G++[.lst [.int x],.lst (acc.map encA)])=
   .nx [vR (.ref G.length),vR (.int n),s2,vR (.ref (G.length+1)),y4,y5,s6,s7,s8,s9,s10] (G++[.lst [.int x'],.lst ((acc++as).map encA)])
 |0,k,x,e=>⟨[],x,rfl,(λ_ h=>absurd h (by simp)),(λj h1 h2=>by lia),λG acc s2 s6 s7 s8 s9 s10 x4 x5 _=>⟨x4,x5,by rw[Qp,Nb,zP]⟩⟩
 | m + 1,k,x,e=>by
  have hp:(0:Int)<(n:Int)-(k:Int):=by lia
  obtain⟨t,et⟩:∃t:Nat,(t:Int)=x%((n:Int)-(k:Int)):=⟨(x%((n:Int)-(k:Int))).toNat,by have:=jv x (show(n:Int)-(k:Int)≠0 by lia);lia⟩
  have htl:k+1+t<=n:=by have:=jq x hp;lia
  let y:Int:=x/((n:Int)-(k:Int));let a:Arc:=⟨k,k+1+t,vS,y%1801-900⟩;obtain⟨as,x',hl,hok,hw,ih⟩:=ZCr hn m (k+1) (y/1801) (by lia);refine⟨a::as,x',by simp[hl],λb hb=>?_,λj h1 h2=>?_,λG acc s2 s6 s7 s8 s9 s10 x4 x5 ha=>?_⟩
  ·rcases zq.mp hb with rfl|hb
   ·refine⟨?_,?_,htl,(λb h=>by cases h),?_⟩
    ·show k<n;lia
    ·show k<k+1+t;lia
    ·show -1000<=y%1801-900/\y%1801-900<=1000;lia
   ·exact hok b hb
  ·by_cases ej:j=k
   ·exact⟨a,by simp,ej.symm,rfl⟩
   ·obtain⟨b,hb,h3⟩:=hw j (by lia) h2;exact⟨b,zZ _ hb,h3⟩
  ·obtain⟨y4,y5,hL⟩:=ih G (acc++[a]) s2 s6 s7 s8 s9 s10 (vR (.int k)) (vR (.int ((k:Int)+1+(t:Int)))) (by simp;lia);refine⟨y4,y5,?_⟩;have t1:=Vw (x:=x) hp (by lia) G [.lst (acc.map encA)];have t2:=Vw (x:=y) (k:=1801) (by lia) (by lia) G [.lst (acc.map encA)];rw[<-et]at t1;have hb:Ny [vR (.ref G.length),vR (.int n),s2,vR (.ref (G.length+1)),vR (.int k),x5,s6,s7,s8,s9,s10] (G++[.lst [.int x],.lst (acc.map encA)])=
     .nx [vR (.ref G.length),vR (.int n),s2,vR (.ref (G.length+1)),vR (.int k),vR (.int ((k:Int)+1+(t:Int))),s6,s7,s8,s9,s10] (G++[.lst [.int (y/1801)],.lst ((acc++[a]).map encA)]):=by
    have hal:(acc.map encA).length<1000000:=by simp;lia
    have g1:∀a b:DO,(G++[a,b])[G.length+1]?=vR b:=λa b=>by simp
    have s1:∀a b c:DO,(G++[a,b]).set (G.length+1) c=G++[a,c]:=λa b c=>by simp
    have ea:encA a=.tup [.int k,.int ((k:Int)+1+(t:Int)),.non,.int (y%1801-900)]:=by show D.tup [.int k,.int ((k+1+t:Nat):Int),.non,.int (y%1801-900)]=_;rw[show((k+1+t:Nat):Int)=(k:Int)+1+(t:Int) by lia]
    have ey:x/((n:Int)-(k:Int))=y:=rfl;rw[ey]at t1;rw[jD,zA,jW,ea];generalize acc.map encA=A at*;generalize y=z at*;unfold Ny;simp[t1,t2,g1,s1,hal]
   rw[Je,Hc];simp only[Ff,R.Dn,qT,hb,Ea];have e1:((k:Int)+1)=((k+1:Nat):Int):=by lia
   rw[e1]at hL⊢;rw[hL,qB]
   rfl
theorem ZEt{xs ys:List D}(h:xs.length+ys.length<=1000000):Bb (.fl xs) (.fl ys) G=.ok (.ref G.length) (G++[.lst (xs++ys)]):=by simp[h]
noncomputable def Di(as:List Arc)(p:Nat)(x:Arc):List Arc:=as.take p++[x]++as.drop p
theorem ZDj{y:Arc}(h:y∈Di as p x):y=x∨y∈as:=by
 unfold Di at h;simp only[jA,jG]at h;rcases h with(h|h)|h
 ·exact .inr (List.mem_of_mem_take h)
 ·exact .inl h
 ·exact .inr (List.mem_of_mem_drop h)
theorem ZEk{y:Arc}(h:y∈as):y∈Di as p x:=by
 rw[<-List.take_append_drop p as]at h;unfold Di;simp only[jA,jG]at h⊢;rcases h with h|h
 ·exact .inl (.inl h)
 ·exact .inr h
theorem Rn:(Di as p x).length=as.length+1:=by unfold Di;simp;lia
theorem ZDm(hi:S[i]?=vR (vR (.ref q)))(hj:S[j]?=vR (vR (.int (p:Int))))(hk:S[k]?=vR (vR (encA x)))(hq:H[q]?=vR (.lst (as.map encA)))(hp:p<=as.length)(hl:as.length<=1000):
  Cp (dOp Bb (Ay (dOp Bb (Ay (dSl (dV i) vS (vR (dV j)))) (Ay (dFn Ar (Ab (dV k) Ag))))) (Ay (dSl (dV i) (vR (dV j)) vS))) S H=.ok (.ref H.length) (H++[.lst ((Di as p x).map encA)]):=by
 have sl:∀lo hi,Kf (.ref q) lo hi H=.ok (.ref H.length) (H++[.lst (cutD (as.map encA) lo hi)]):=λlo hi=>by simp[Kf,Gp,hq]
 have ct:cutD (as.map encA) vS (vR (p:Int))=(as.take p).map encA:=by rw[Yv (by simpa using hp),List.map_take]
 have cd:cutD (as.map encA) (vR (p:Int)) vS=(as.drop p).map encA:=by rw[ZFz (by simpa using hp),List.map_drop]
 have fz:∀l:List Arc,freeze H (.ok (.ref H.length) (H++[.lst (l.map encA)]))=.ok (.fl (l.map encA)) H:=λl=>Cd Gk
 have f1:=fz (as.take p);have f2:=fz [x];have f3:=fz (as.drop p);have f4:=fz (as.take p++[x]);have td:tidy H (.ok (.ref H.length) (H++[.lst ((Di as p x).map encA)]))=.ok (.ref H.length) (H++[.lst ((Di as p x).map encA)]):=Hk Gk;have l1:((as.take p).map encA).length+([x].map encA).length<=1000000:=by simp;lia
 have l2:((as.take p++[x]).map encA).length+((as.drop p).map encA).length<=1000000:=by simp;lia
 have a1:=ZEt (G:=H) l1;have a2:=ZEt (G:=H) l2;rw[<-jD]at a1 a2;have ei:as.take p++[x]++as.drop p=Di as p x:=rfl;rw[ei]at a2;have ex:([x].map encA)=[encA x]:=rfl;rw[ex]at f2 a1;generalize(as.take p).map encA=X1 at*;generalize(as.drop p).map encA=X3 at*;generalize(as.take p++[x]).map encA=X4 at*;generalize(Di as p x).map encA=X5 at*;generalize encA x=X6 at*;simp[-ZFD,hi,hj,hk,sl,ct,cd,f1,Ar,f2,a1,f4,f3,a2,td]
theorem R4(x:Int)(h:0<k):∃t:Nat,x%(k:Int)=(t:Int)/\t<k:=by have h1:=jv x (show(k:Int)≠0 by lia);have h2:=jq x (show(0:Int)<(k:Int) by lia);exact⟨(x%(k:Int)).toNat,by lia,by lia⟩
theorem J1(x:Int)(h:0<k)(h9:k<1000000)(G L:DH):∃t:Nat,t<k/\Dg [.ref G.length,.int (k:Int)] (G++ .lst [.int x]::L)=.ok (.int (t:Int)) (G++ .lst [.int (x/(k:Int))]::L):=by obtain⟨t,e,ht⟩:=R4 x h;exact⟨t,ht,by rw[Vw (by lia) (by lia),e]⟩
theorem ZFA{x:Int}{s4 s5 s6 s7 s8 s9 s10:Option D}(hn1:1<=n)(hn:n<=30)(hsc:0<sc)(hq:G.length<q)(hg:∀o:DO,(G++o::L)[q]?=vR (.lst (as.map encA)))(ha:as.length<=100):
  ∃(x':Int)(p:Nat)(a:Arc)(y5 y6 y7 y8 y9:Option D),ArcOk n a/\
  Q9 [vR (.ref G.length),vR (.int n),vR (.int sc),vR (.ref q),s4,s5,s6,s7,s8,s9,s10] (G++ .lst [.int x]::L)=
   .nx [vR (.ref G.length),vR (.int n),vR (.int sc),vR (.ref (G.length+(L.length+1))),s4,y5,y6,y7,y8,y9,s10] (G++ .lst [.int x']::(L++[.lst ((Di as p a).map encA)])):=by
 obtain⟨t1,h1,e1⟩:=J1 x (show 0<n by lia) (by lia) G L;generalize x/(n:Int)=x1 at e1;obtain⟨t2,h2,e2⟩:=J1 x1 (show 0<n-t1 by lia) (by lia) G L;rw[show((n-t1:Nat):Int)=(n:Int)-(t1:Int) by lia]at e2;generalize x1/((n:Int)-(t1:Int))=x2 at e2;obtain⟨t3,h3,e3⟩:=J1 x2 (show 0<6 by lia) (by lia) G L;generalize x2/((6:Nat):Int)=x3 at e3;obtain⟨t4,h4,e4⟩:=J1 x3 (show 0<1801 by lia) (by lia) G L
 generalize x3/((1801:Nat):Int)=x4 at e4;obtain⟨t5,h5,e5⟩:=J1 x4 (show 0<as.length+1 by lia) (by lia) G L;rw[show((as.length+1:Nat):Int)=(as.length:Int)+1 by lia]at e5;generalize x4/((as.length:Int)+1)=x5 at e5;have e3':Dg [.ref G.length,.int 6] (G++ .lst [.int x2]::L)=.ok (.int (t3:Int)) (G++ .lst [.int x3]::L):=e3;have e4':Dg [.ref G.length,.int 1801] (G++ .lst [.int x3]::L)=.ok (.int (t4:Int)) (G++ .lst [.int x4]::L):=e4
 have mu:∀H:DH,Cg (.int (t3:Int)) (.int sc) H=.ok (.int ((t3:Int)*sc)) H:=λH=>K9 (by lia) (by lia)
 have q5:(t3:Int)*sc=5*sc↔t3=5:=⟨λh=>by have:=Int.eq_of_mul_eq_mul_right (by lia) h;lia,λh=>by subst h;rfl⟩;let a:Arc:=⟨t1,t1+1+t2,if t3=5 then vS else vR ((t3:Int)*sc),(t4:Int)-900⟩;have ea:encA a=.tup [.int t1,.int ((t1:Int)+1+(t2:Int)),(if t3=5 then .non else .int ((t3:Int)*sc)),.int ((t4:Int)-900)]:=by
  show D.tup [.int t1,.int ((t1+1+t2:Nat):Int),moD (if t3=5 then vS else vR ((t3:Int)*sc)),.int ((t4:Int)-900)]=_;rw[show((t1+1+t2:Nat):Int)=(t1:Int)+1+(t2:Int) by lia]
  by_cases h:t3=5<;>simp[h,moD]
 have hok:ArcOk n a:=by
  refine⟨h1,?_,?_,λb hb=>?_,?_⟩
  ·show t1<t1+1+t2;lia
  ·show t1+1+t2<=n;lia
  ·change (if t3=5 then vS else vR ((t3:Int)*sc))=vR b at hb
   split at hb
   ·cases hb
   ·cases hb;exact jI (by lia) (by lia)
  ·show -1000<=(t4:Int)-900/\(t4:Int)-900<=1000;lia
 refine⟨x5,t5,a,vR (.int ((t1:Int)+1+(t2:Int))),vR (.int t1),vR (if t3=5 then .non else .int ((t3:Int)*sc)),vR (encA a),vR (.int t5),hok,?_⟩;have rn:=ZDm (q:=q) (p:=t5) (as:=as) (x:=a) (S:=[vR (.ref G.length),vR (.int n),vR (.int sc),vR (.ref q),s4,vR (.int ((t1:Int)+1+(t2:Int))),vR (.int t1),vR (if t3=5 then .non else .int ((t3:Int)*sc)),vR (encA a),vR (.int t5),s10]) (i:=3) (j:=9) (k:=8) (H:=(G++ .lst [.int x5]::L)) rfl rfl rfl (hg _) (by lia) (by lia)
 have le:(G++DO.lst [.int x5]::L).length=G.length+(L.length+1):=by simp
 rw[le,qB,jV]at rn;generalize(Di as t5 a).map encA=B at*;have g4:=hg (.lst [.int x4]);have rn2:=rn;rw[ea]at rn2
 clear_value a
 clear hg;unfold Q9;rw[ea];by_cases h:t3=5
 ·simp only[h,if_true]at*;simp[-Uc,e1,e2,e3',e4',e5,mu,g4,rn2]
 ·simp only[h,if_false]at*;simp[-Uc,e1,e2,e3',e4',e5,mu,q5,h,g4,rn2]
theorem ZBy(hn1:1<=n)(hn:n<=30)(hsc:0<sc){s10:Option D}:∀(m k q:Nat)(x:Int)(as:List Arc)(L:DH)(s4 s5 s6 s7 s8 s9:Option D),G.length<q->(∀o:DO,(G++o::L)[q]?=vR (.lst (as.map encA)))->as.length+m<=100->(∀a∈as,ArcOk n a)->
  ∃(x':Int) (as':List Arc) (L':DH) (q':Nat) (y4 y5 y6 y7 y8 y9:Option D),G.length<q'/\(∀o:DO,(G++o::L')[q']?=vR (.lst (as'.map encA)))/\as'.length=as.length+m/\(∀a∈as',ArcOk n a)/\(∀a∈as,a∈as')/\
   Bt (gV 4) Q9 (Bd k m) [vR (.ref G.length),vR (.int n),vR (.int sc),vR (.ref q),s4,s5,s6,s7,s8,s9,s10] (G++ .lst [.int x]::L)=
    .nx [vR (.ref G.length),vR (.int n),vR (.int sc),vR (.ref q'),y4,y5,y6,y7,y8,y9,s10] (G++ .lst [.int x']::L')
 |0,k,q,x,as,L,s4,s5,s6,s7,s8,s9,hq,hg,_,ho=>⟨x,as,L,q,s4,s5,s6,s7,s8,s9,hq,hg,rfl,ho,λ_ h=>h,by rw[Qp,Nb]⟩
 | m+1,k,q,x,as,L,s4,s5,s6,s7,s8,s9,hq,hg,hl,ho=>by
  obtain⟨x1,p,a,y5,y6,y7,y8,y9,ao,hb⟩:=ZFA (x:=x) (s4:=vR (.int k)) (s5:=s5) (s6:=s6) (s7:=s7) (s8:=s8) (s9:=s9) (s10:=s10) hn1 hn hsc hq hg (by lia);have hg':∀o:DO,(G++o::(L++[.lst ((Di as p a).map encA)]))[G.length+(L.length+1)]?=vR (.lst ((Di as p a).map encA)):=λo=>by rw[Pn];simp
  obtain⟨x',as',L',q',z4,z5,z6,z7,z8,z9,h1,h2,h3,h4,h5,hL⟩:=ZBy hn1 hn hsc m (k+1) _ x1 (Di as p a) _ (vR (.int k)) y5 y6 y7 y8 y9 (by lia) hg' (by rw[Rn];lia) (λb hb=>by
   rcases ZDj hb with rfl|hb
   ·exact ao
   ·exact ho b hb)
  refine⟨x',as',L',q',z4,z5,z6,z7,z8,z9,h1,h2,by rw[h3,Rn];lia,h4,λb hb=>h5 b (ZEk hb),?_⟩;rw[Je,Hc];simp only[Ff,R.Dn,qT,hb,Ea];have e1:((k:Int)+1)=((k+1:Nat):Int):=by lia
  rw[e1,hL]
theorem ZDg(hsc:0<sc)(hsc2:sc<=10^30){G L:DH}{s0:Option D}:∀(m k:Nat)(x:Int),∃(s:List Int)(x':Int),s.length=m/\(∀v∈s,0<=v/\v<10^39)/\
  Cq (gV 0) Cj Qg [s0,vR (.ref G.length),vR (.int sc)] (Bd k m) (G++ .lst [.int x]::L)=.ok (s.map D.int) (G++ .lst [.int x']::L)
 |0,k,x=>⟨[],x,rfl,λ_ h=>absurd h (by simp),by rw[Qp,ZHo];rfl⟩
 | m+1,k,x=>by
  obtain⟨t,ht,e⟩:=J1 x (show 0<5 by lia) (by lia) G L;obtain⟨s,x',h1,h2,h3⟩:=ZDg hsc hsc2 (G:=G) (L:=L) (s0:=s0) m (k+1) (x/((5:Nat):Int));have mu:∀H:DH,Cg (.int (t:Int)) (.int sc) H=.ok (.int ((t:Int)*sc)) H:=λH=>K9 (by lia) (by lia)
  refine⟨(t:Int)*sc::s,x',by simp[h1],λv hv=>?_,?_⟩
  ·rcases zq.mp hv with rfl|hv
   ·have h9:=zL (show(t:Int)<=4 by lia) (show 0<=sc by lia);exact⟨jI (by lia) (by lia),by lia⟩
   ·exact h2 v hv
  ·generalize x/((5:Nat):Int)=x1 at*;have e':Dg [.ref G.length,.int 5] (G++ .lst [.int x]::L)=.ok (.int (t:Int)) (G++ .lst [.int x1]::L):=e;have e1:((k:Int)+1)=((k+1:Nat):Int):=by lia
   rw[<-e1]at h3;rw[Je,ZAe];have eb:Qg [vR (.int (k:Int)),vR (.ref G.length),vR (.int sc)] (G++ .lst [.int x]::L)=.ok (.int ((t:Int)*sc)) (G++ .lst [.int x1]::L):=by unfold Qg;simp[e',mu]
   simp[eb,h3]
theorem Wg{G':DH}(h:bels G.length ds=vU):tidy G (.ok (.tup ds) G')=.ok (.tup ds) G':=by
 unfold tidy;have:bel G.length (.tup ds)=vU:=by simpa[bel]using h
 simp[this]
theorem scales(ht:t<4):∃sc:Int,0<sc/\sc<=10^30/\Av (.fl [.int 1,.int 1,.int 1000000007,.int 1000000000000000000000000000000]) (.int (t:Int)) H=.ok (.int sc) H:=by
 match t,ht with
 |0,_=>exact⟨1,by decide,by decide,rfl⟩
 |1,_=>exact⟨1,by decide,by decide,rfl⟩
 |2,_=>exact⟨1000000007,by decide,by decide,rfl⟩
 |3,_=>exact⟨1000000000000000000000000000000,by decide,by decide,rfl⟩
 |n+4,h=>exact absurd h (by lia)
theorem ZMH{n:Int}{r:Nat}{B:List D}(hq:G.length<=q)(gq:(G++L)[q]?=vR (.lst A))(hr:G.length<=r)(gr:(G++L)[r]?=vR (.lst B))(ha:bels G.length A=vT)(hb:bels G.length B=vT):freeze G (.ok (.tup [.int n,.ref q,.ref r]) (G++L))=.ok (.tup [.int n,.fl A,.fl B]) G:=by
 unfold freeze;have b1:bel G.length (.ref q)=vU:=by simp[bel];lia
 have b2:bel G.length (.ref r)=vU:=by simp[bel];lia
 have f1:By (G++L) G.length 8 (.ref q)=vR (.fl A):=by unfold By;simp[b1,gq,Nx ha]
 have f2:By (G++L) G.length 8 (.ref r)=vR (.fl B):=by unfold By;simp[b2,gr,Nx hb]
 have f0:By (G++L) G.length 8 (.int n)=vR (.int n):=by unfold By;simp
 have m:By (G++L) G.length 9 (.tup [.int n,.ref q,.ref r])=vR (.tup [.int n,.fl A,.fl B]):=by
  rw[By];have:bel G.length (.tup [.int n,.ref q,.ref r])=vU:=by simp[b1]
  simp[this,Hm,f0,f1,f2]
 simp[m]
theorem ZFs{n:Int}{B:List D}(hq:G.length<=q)(gq:(G++L)[q]?=vR (.lst A))(ha:bels G.length A=vT)(hb:bels G.length B=vT):freeze G (.ok (.tup [.int n,.ref q,.fl B]) (G++L))=.ok (.tup [.int n,.fl A,.fl B]) G:=by
 unfold freeze;have b1:bel G.length (.ref q)=vU:=by simp[bel];lia
 have f1:By (G++L) G.length 8 (.ref q)=vR (.fl A):=by unfold By;simp[b1,gq,Nx ha]
 have f2:By (G++L) G.length 8 (.fl B)=vR (.fl B):=by unfold By;simp[hb]
 have f0:By (G++L) G.length 8 (.int n)=vR (.int n):=by unfold By;simp
 have m:By (G++L) G.length 9 (.tup [.int n,.ref q,.fl B])=vR (.tup [.int n,.fl A,.fl B]):=by
  rw[By];have:bel G.length (.tup [.int n,.ref q,.fl B])=vU:=by simp[b1]
  simp[this,Hm,f0,f1,f2]
 simp[m]
theorem ZHp(x:Int)(G:DH):∃(n:Nat)(as:List Arc)(s:List Int),NetG n as s/\(∀x∈s,x<10^39)/\∃(q r:Nat)(L:DH),G.length<=q/\(G++L)[q]?=vR (.lst (as.map encA))/\G.length<=r/\(G++L)[r]?=vR (.lst (s.map D.int))/\
  Ub [.ref G.length] (G++[.lst [.int x]])=.ok (.tup [.int n,.ref q,.ref r]) (G++L):=by
 obtain⟨t1,h1,e1⟩:=J1 x (show 0<6 by lia) (by lia) G [];generalize x/((6:Nat):Int)=x1 at e1;obtain⟨t2,h2,e2⟩:=J1 x1 (show 0<4 by lia) (by lia) G [];generalize x1/((4:Nat):Int)=x2 at e2;obtain⟨sc,hsc,hsc2,esc⟩:=scales h2 (H:=G++[.lst [.int x2]]);obtain⟨as1,x3,l1,o1,w1,r1⟩:=ZCr (n:=1+t1) (by lia) (1+t1) 0 x2 (by lia);obtain⟨y4,y5,r1⟩:=r1 G [] (vR (.int sc)) vS vS vS vS vS vS vS (by simp;lia)
 obtain⟨t3,h3,e3⟩:=J1 x3 (show 0<11 by lia) (by lia) G [.lst (as1.map encA)];generalize x3/((11:Nat):Int)=x4 at e3;have g1:∀o:DO,(G++o::[.lst (as1.map encA)])[G.length+1]?=vR (.lst (as1.map encA)):=λo=>by rw[Pn];rfl
 obtain⟨x5,as2,_L,q2,z4,z5,z6,z7,z8,z9,q2l,g2,l2,o2,w2,r2⟩:=ZBy (n:=1+t1) (s10:=vS) (by lia) (by lia) hsc t3 0 (G.length+1) x4 as1 [.lst (as1.map encA)] y4 y5 vS vS vS vS (by lia) g1 (by lia) o1;obtain⟨s,x6,ls,ns,r3⟩:=ZDg hsc hsc2 (G:=G) (L:=_L) (s0:=vS) (1+t1) 0 x5;have e1':Dg [.ref G.length,.int 6] (G++[.lst [.int x]])=.ok (.int (t1:Int)) (G++[.lst [.int x1]]):=e1;have e2':Dg [.ref G.length,.int 4] (G++[.lst [.int x1]])=.ok (.int (t2:Int)) (G++[.lst [.int x2]]):=e2
 have e3':Dg [.ref G.length,.int 11] (G++[.lst [.int x3],.lst (as1.map encA)])=.ok (.int (t3:Int)) (G++[.lst [.int x4],.lst (as1.map encA)]):=e3;have le:(G++DO.lst [.int x6]::_L).length=G.length+(_L.length+1):=by simp
 have q2u:q2<G.length+(_L.length+1):=by have:=(zk.mp (g2 (.lst [.int x6]))).1;simpa using this
 refine⟨1+t1,as2,s,⟨by lia,by lia,by lia,o2,λk hk=>?_,ls,λx hx=>(ns x hx).1,λx hx=>by have:=(ns x hx).2;lia⟩,λx hx=>(ns x hx).2,q2,G.length+(_L.length+1),.lst [.int x6]::(_L++[.lst (s.map D.int)]),by lia,?_,by lia,?_,?_⟩
 ·obtain⟨a,ha,h⟩:=w1 k (by lia) hk;exact⟨a,w2 a ha,h⟩
 ·have:=g2 (.lst [.int x6]);rw[show G++DO.lst [.int x6]::(_L++[.lst (s.map D.int)])=(G++DO.lst [.int x6]::_L)++[.lst (s.map D.int)] by simp,zG (by rw[le];exact q2u),this]
 ·rw[Pn];simp
 have r1':Bt (gV 4) Ny (Bd 0 (1+t1)) [vR (.ref G.length),vR (.int (1+(t1:Int))),vR (.int sc),vR (.ref (G.length+1)),vS,vS,vS,vS,vS,vS,vS] (G++[.lst [.int x2],.lst []])=.nx [vR (.ref G.length),vR (.int (1+(t1:Int))),vR (.int sc),vR (.ref (G.length+1)),y4,y5,vS,vS,vS,vS,vS] (G++[.lst [.int x3],.lst (as1.map encA)]):=by have:=r1;rw[show((1+t1:Nat):Int)=1+(t1:Int) by lia]at this;exact this
 have r2':Bt (gV 4) Q9 (Bd 0 t3) [vR (.ref G.length),vR (.int (1+(t1:Int))),vR (.int sc),vR (.ref (G.length+1)),y4,y5,vS,vS,vS,vS,vS] (G++[.lst [.int x4],.lst (as1.map encA)])=.nx [vR (.ref G.length),vR (.int (1+(t1:Int))),vR (.int sc),vR (.ref q2),z4,z5,z6,z7,z8,z9,vS] (G++ .lst [.int x5]::_L):=by have:=r2;rw[show((1+t1:Nat):Int)=1+(t1:Int) by lia]at this;exact this
 have r3':Cq (gV 0) Cj Qg [vS,vR (.ref G.length),vR (.int sc)] (Bd 0 (1+t1)) (G++ .lst [.int x5]::_L)=.ok (s.map D.int) (G++ .lst [.int x6]::_L):=r3;have en:(1+(t1:Int)).toNat=1+t1:=by lia
 have td:∀H:DH,tidy (G++[.lst [.int x]]) (.ok (.tup [.int (1+(t1:Int)),.ref q2,.ref (G.length+(_L.length+1))]) H)=.ok (.tup [.int (1+(t1:Int)),.ref q2,.ref (G.length+(_L.length+1))]) H:=λH=>Wg (by simp[bels,bel])
 have tn:tidy (G++[.lst [.int x2]]) (.ok (.ref (G.length+1)) (G++[.lst [.int x2],.lst []]))=.ok (.ref (G.length+1)) (G++[.lst [.int x2],.lst []]):=ZJt rfl;rw[show((1+t1:Nat):Int)=1+(t1:Int) by lia];have fz:freeze (G++[.lst [.int x1]]) (.ok (.ref (G.length+1)) (G++[.lst [.int x1],.lst [.int 1,.int 1,.int 1000000007,.int 1000000000000000000000000000000]]))=.ok (.fl [.int 1,.int 1,.int 1000000007,.int 1000000000000000000000000000000]) (G++[.lst [.int x1]]):=ZH4 rfl
 have i1:inR (1+(t1:Int)):=⟨by lia,by lia⟩;have i2:inR (t3:Int):=⟨by lia,by lia⟩;have lS:(s.map D.int).length<=1000000:=by simp;lia
 have cp:Bf 1 [0,2] [vR (.ref G.length),vR (.int (1+(t1:Int))),vR (.int sc),vR (.ref q2),z4,z5,z6,z7,z8,z9,vS]=[vS,vR (.ref G.length),vR (.int sc)]:=rfl;unfold Ub ZEC ZBg ZBk ZBU ZEM ZC3 ZEi;rw[Bv];generalize as1.map encA=A1 at*;generalize s.map D.int=S1 at*;simp[e1',e2',esc,fz,tn,Ar,r1',e3',r2',r3',en,td,i1,i2,cp,lS]
theorem R3{p k:Int}(hp:0<p)(hk:0<k)(G:DH):Ci [.int c,.int p,.int k] G=.ok (.int (c*48271%p%k)) G:=by unfold Ci ZC2;rw[Bv];simp[hp,hk,Ej]
theorem Ih(c p:Int)(hp:0<p)(hk:0<k):∃t:Nat,t<k/\∀G,Ci [.int c,.int p,.int (k:Int)] G=.ok (.int (t:Int)) G:=by obtain⟨t,e,ht⟩:=R4 (c*48271%p) hk;exact⟨t,ht,λG=>by rw[R3 hp (by lia),e]⟩
theorem ZBQ(c kd sc:Int)(hsc:0<sc)(hsc2:sc<=10^30):∃v:Int,(0<=v/\v<10^39)/\∀G,Jy [.int c,.int kd,.int sc] G=.ok (.int v) G:=by
 by_cases h:kd=3
 ·refine⟨c*69621%1000000000000000000000000000057,⟨jv _ (by decide),Int.lt_trans (jq _ (by decide)) (by decide)⟩,λG=>?_⟩;unfold Jy Vf;rw[Bv];simp[h,Ej]
 ·obtain⟨t,ht,e⟩:=Ih c 10067 (by decide) (show 0<5 by decide);have h9:=zL (show(t:Int)<=4 by lia) (show 0<=sc by lia);refine⟨(t:Int)*sc,⟨jI (by lia) (by lia),by lia⟩,λG=>?_⟩;have e':∀G,Ci [.int c,.int 10067,.int 5] G=.ok (.int (t:Int)) G:=e;have mu:∀H:DH,Cg (.int (t:Int)) (.int sc) H=.ok (.int ((t:Int)*sc)) H:=λH=>K9 (by lia) (by lia)
  unfold Jy Vf;rw[Bv];simp[h,e',mu,Ej]
theorem ZDk{f:Int}(ht:t<19)(h1:1<=f)(h2:f<=100): -1000<=((t:Int)-9)*f/\((t:Int)-9)*f<=1000:=by have a1:=zL (show(t:Int)-9<=9 by lia) (show 0<=f by lia);have a2:=zL (show -9<=(t:Int)-9 by lia) (show 0<=f by lia);lia
theorem ZEd{ns:List Int}{n:Nat}{far:Int}{lg:Bool}(f1:1<=far)(f2:far<=100){G:DH}{s1 s2 s3 s11 s12 s13 s14 s15:Option D}:∀(m k:Nat),k+m=n->∃as:List Arc,as.length=m/\(∀a∈as,ArcOk n a)/\(∀j,k<=j->j<n->∃a∈as,a.fr=j/\a.mo=vS)/\∀(acc:List Arc)(x8 x9 x10:Option D),acc.length+m<=100->∃y8 y9 y10,
  Bt (gV 8) Ng (Bd k m) [vR (.fl (ns.map D.int)),s1,s2,s3,vR (.int n),vR (.bl lg),vR (.int far),vR (.ref G.length),x8,x9,x10,s11,s12,s13,s14,s15] (G++[.lst (acc.map encA)])=
   .nx [vR (.fl (ns.map D.int)),s1,s2,s3,vR (.int n),vR (.bl lg),vR (.int far),vR (.ref G.length),y8,y9,y10,s11,s12,s13,s14,s15] (G++[.lst ((acc++as).map encA)])
 |0,k,e=>⟨[],rfl,(λ_ h=>absurd h (by simp)),(λj h1 h2=>by lia),λacc x8 x9 x10 _=>⟨x8,x9,x10,by rw[Qp,Nb,zP]⟩⟩
 | m + 1,k,e=>by
  obtain⟨r,er,hr1,hr2⟩:∃r:Nat,(r:Int)=(if lg=vT then min ((n:Int)-(k:Int)) 2 else(n:Int)-(k:Int))/\0<r/\r<=n-k:=by
   cases lg with
   |true=>exact⟨min (n-k) 2,by simp;lia,by lia,by lia⟩
   |false=>exact⟨n-k,by simp;lia,by lia,by lia⟩
  obtain⟨t1,h1,e1⟩:=Ih (cellAt ns (1+(k:Int))) 10007 (by decide) hr1;obtain⟨t2,h2,e2⟩:=Ih (cellAt ns (1+(k:Int))) 10009 (by decide) (show 0<19 by decide);have e2':∀G,Ci [.int (cellAt ns (1+(k:Int))),.int 10009,.int 19] G=.ok (.int (t2:Int)) G:=e2;have mu:∀H:DH,Cg (.int ((t2:Int)-9)) (.int far) H=.ok (.int (((t2:Int)-9)*far)) H:=λH=>K9 (by lia) (by lia)
  have ca:∀H:DH,Fj [.fl (ns.map D.int),.int (1+(k:Int))] H=.ok (.int (cellAt ns (1+(k:Int)))) H:=λH=>Nr (by lia)
  generalize cellAt ns (1+(k:Int))=c at*;let a:Arc:=⟨k,k+1+t1,vS,((t2:Int)-9)*far⟩;have ea:encA a=.tup [.int k,.int ((k:Int)+1+(t1:Int)),.non,.int (((t2:Int)-9)*far)]:=by show D.tup [.int k,.int ((k+1+t1:Nat):Int),.non,.int (((t2:Int)-9)*far)]=_;rw[show((k+1+t1:Nat):Int)=(k:Int)+1+(t1:Int) by lia]
  have hok:ArcOk n a:=by
   refine⟨?_,?_,?_,(λb h=>by cases h),ZDk h2 f1 f2⟩
   ·show k<n;lia
   ·show k<k+1+t1;lia
   ·show k+1+t1<=n;lia
  obtain⟨as,hl,ho,hw,ih⟩:=ZEd (ns:=ns) (n:=n) (lg:=lg) f1 f2 (G:=G) (s1:=s1) (s2:=s2) (s3:=s3) (s11:=s11) (s12:=s12) (s13:=s13) (s14:=s14) (s15:=s15) m (k+1) (by lia);have ka:a.fr=k/\a.mo=vS:=⟨rfl,rfl⟩
  clear_value a
  refine⟨a::as,by simp[hl],λb hb=>?_,λj h3 h4=>?_,λacc x8 x9 x10 hac=>?_⟩
  ·rcases zq.mp hb with rfl|hb
   ·exact hok
   ·exact ho b hb
  ·by_cases ej:j=k
   ·exact⟨a,by simp,by rw[ej];exact ka.1,ka.2⟩
   ·obtain⟨b,hb,h⟩:=hw j (by lia) h4;exact⟨b,zZ _ hb,h⟩
  ·obtain⟨y8,y9,y10,hL⟩:=ih (acc++[a]) (vR (.int k)) (vR (.int c)) (vR (.int (r:Int))) (by simp;lia);refine⟨y8,y9,y10,?_⟩;have hb:Ng [vR (.fl (ns.map D.int)),s1,s2,s3,vR (.int n),vR (.bl lg),vR (.int far),vR (.ref G.length),vR (.int k),x9,x10,s11,s12,s13,s14,s15] (G++[.lst (acc.map encA)])=
     .nx [vR (.fl (ns.map D.int)),s1,s2,s3,vR (.int n),vR (.bl lg),vR (.int far),vR (.ref G.length),vR (.int k),vR (.int c),vR (.int (r:Int)),s11,s12,s13,s14,s15] (G++[.lst ((acc++[a]).map encA)]):=by
    have hal:(acc.map encA).length<1000000:=by simp;lia
    rw[jD,zA,jW,ea];generalize acc.map encA=A at*;generalize ns.map D.int=N at*;unfold Ng;cases lg with
    |true=>
     simp only[if_true]at er;simp[ca,<-er,e1,e2',mu,hal]
    |false=>
     simp only[jF,if_false]at er;simp[ca,<-er,e1,e2',mu,hal]
   rw[Je,Hc];simp only[Ff,R.Dn,qT,hb,Ea];have e1:((k:Int)+1)=((k+1:Nat):Int):=by lia
   rw[e1,hL,qB]
   rfl
theorem ZFq{kd far:Int}{s0 s1 s5 s8 s10 s11 s12 s13 s14 s15:Option D}(hn1:1<=n)(hn:n<=30)(hsc:0<sc)(hsc2:sc<=10^30)(f1:1<=far)(f2:far<=100)(hg:H[q]?=vR (.lst (as.map encA)))(ha:as.length<=100):
  ∃(p:Nat)(a:Arc)(y11 y12 y13 y14:Option D),ArcOk n a/\
  Pu [s0,s1,vR (.int kd),vR (.int sc),vR (.int n),s5,vR (.int far),vR (.ref q),s8,vR (.int z),s10,s11,s12,s13,s14,s15] H=
   .nx [s0,s1,vR (.int kd),vR (.int sc),vR (.int n),s5,vR (.int far),vR (.ref H.length),s8,vR (.int z),s10,y11,y12,y13,y14,s15] (H++[.lst ((Di as p a).map encA)]):=by
 obtain⟨t1,h1,e1⟩:=Ih z 10037 (by decide) (show 0<n by lia);obtain⟨v,hv,e2⟩:=ZBQ z kd sc hsc hsc2;obtain⟨t3,h3,e3⟩:=Ih z 10039 (by decide) (show 0<7 by lia);obtain⟨t4,h4,e4⟩:=Ih z 10061 (by decide) (show 0<n-t1 by lia);rw[show((n-t1:Nat):Int)=(n:Int)-(t1:Int) by lia]at e4;obtain⟨t5,h5,e5⟩:=Ih z 10069 (by decide) (show 0<19 by lia);obtain⟨t6,h6,e6⟩:=Ih z 10079 (by decide) (show 0<as.length+1 by lia)
 rw[show((as.length+1:Nat):Int)=(as.length:Int)+1 by lia]at e6;have e3':∀G,Ci [.int z,.int 10039,.int 7] G=.ok (.int (t3:Int)) G:=e3;have e5':∀G,Ci [.int z,.int 10069,.int 19] G=.ok (.int (t5:Int)) G:=e5;have mu:∀H:DH,Cg (.int ((t5:Int)-9)) (.int far) H=.ok (.int (((t5:Int)-9)*far)) H:=λH=>K9 (by lia) (by lia)
 let a:Arc:=⟨t1,t1+1+t4,if t3=1 then vS else vR v,((t5:Int)-9)*far⟩;have ea:encA a=.tup [.int t1,.int ((t1:Int)+1+(t4:Int)),(if t3=1 then .non else .int v),.int (((t5:Int)-9)*far)]:=by
  show D.tup [.int t1,.int ((t1+1+t4:Nat):Int),moD (if t3=1 then vS else vR v),.int (((t5:Int)-9)*far)]=_;rw[show((t1+1+t4:Nat):Int)=(t1:Int)+1+(t4:Int) by lia]
  by_cases h:t3=1<;>simp[h,moD]
 have hok:ArcOk n a:=by
  refine⟨h1,?_,?_,λb hb=>?_,ZDk h5 f1 f2⟩
  ·show t1<t1+1+t4;lia
  ·show t1+1+t4<=n;lia
  ·change (if t3=1 then vS else vR v)=vR b at hb
   split at hb
   ·cases hb
   ·cases hb;exact hv.1
 refine⟨t6,a,vR (.int t1),vR (if t3=1 then .non else .int v),vR (encA a),vR (.int t6),hok,?_⟩;have rn:=ZDm (q:=q) (p:=t6) (as:=as) (x:=a) (S:=[s0,s1,vR (.int kd),vR (.int sc),vR (.int n),s5,vR (.int far),vR (.ref q),s8,vR (.int z),s10,vR (.int t1),vR (if t3=1 then .non else .int v),vR (encA a),vR (.int t6),s15]) (i:=7) (j:=14) (k:=13) (H:=H) rfl rfl rfl hg (by lia) (by lia)
 generalize(Di as t6 a).map encA=B at*;rw[ea]at rn
 clear_value a
 unfold Pu;rw[ea];have q1:((t3:Int)=1)↔t3=1:=by lia
 by_cases h:t3=1
 ·simp only[h,if_true]at*;simp[-Uc,e1,e2,e3',e4,e5',e6,mu,hg,rn]
 ·simp only[h,if_false]at*;simp[-Uc,e1,e2,e3',e4,e5',e6,mu,q1,h,hg,rn]
theorem ZBu{kd far:Int}(hn1:1<=n)(hn:n<=30)(hsc:0<sc)(hsc2:sc<=10^30)(f1:1<=far)(f2:far<=100){G:DH}{s0 s1 s5 s8 s10 s15:Option D}:∀(zs:List Int)(q:Nat)(as:List Arc)(L:DH)(s9 s11 s12 s13 s14:Option D),G.length<=q->(G++L)[q]?=vR (.lst (as.map encA))->as.length+zs.length<=100->(∀a∈as,ArcOk n a)->
  ∃(as':List Arc) (L':DH) (q':Nat) (y9 y11 y12 y13 y14:Option D),G.length<=q'/\(G++L')[q']?=vR (.lst (as'.map encA))/\as'.length=as.length+zs.length/\(∀a∈as',ArcOk n a)/\(∀a∈as,a∈as')/\
   Bt (gV 9) Pu (zs.map D.int) [s0,s1,vR (.int kd),vR (.int sc),vR (.int n),s5,vR (.int far),vR (.ref q),s8,s9,s10,s11,s12,s13,s14,s15] (G++L)=
    .nx [s0,s1,vR (.int kd),vR (.int sc),vR (.int n),s5,vR (.int far),vR (.ref q'),s8,y9,s10,y11,y12,y13,y14,s15] (G++L')
 |[],q,as,L,s9,s11,s12,s13,s14,hq,hg,_,ho=>⟨as,L,q,s9,s11,s12,s13,s14,hq,hg,rfl,ho,λ_ h=>h,by rw[jW,Nb]⟩
 | z::zs,q,as,L,s9,s11,s12,s13,s14,hq,hg,hl,ho=>by
  rw[zR]at hl;obtain⟨p,a,y11,y12,y13,y14,ao,hb⟩:=ZFq (z:=z) (kd:=kd) (s0:=s0) (s1:=s1) (s5:=s5) (s8:=s8) (s10:=s10) (s11:=s11) (s12:=s12) (s13:=s13) (s14:=s14) (s15:=s15) hn1 hn hsc hsc2 f1 f2 hg (by lia);have lh:(G++L).length=G.length+L.length:=qJ;rw[lh,qB]at hb;obtain⟨as',L',q',z9,z11,z12,z13,z14,h1,h2,h3,h4,h5,hL⟩:=ZBu hn1 hn hsc hsc2 f1 f2 (kd:=kd) (G:=G) (s0:=s0) (s1:=s1) (s5:=s5) (s8:=s8) (s10:=s10) (s15:=s15) zs (G.length+L.length) (Di as p a) (L++[.lst ((Di as p a).map encA)]) (vR (.int z)) y11 y12 y13 y14 (by lia) (by rw[Pn];simp) (by rw[Rn];lia) (λb hb=>by
   rcases ZDj hb with rfl|hb
   ·exact ao
   ·exact ho b hb)
  refine⟨as',L',q',z9,z11,z12,z13,z14,h1,h2,by rw[h3,Rn,zR];lia,h4,λb hb=>h5 b (ZEk hb),?_⟩;rw[zA,Hc];simp only[Ff,R.Dn,qT,hb,Ea];exact hL
theorem cut13(ns:List Int)(c:Nat):∃zs:List Int,zs.length<=c/\cutD (ns.map D.int) (vR 13) (vR (13+(c:Int)))=zs.map D.int:=by
 have a1:=(Jw (ns.map D.int).length 13).2;have a2:=(Jw (ns.map D.int).length (13+(c:Int))).1;refine⟨(ns.drop (HT.sIx (ns.map D.int).length 0 (vR 13))).take (HT.sIx (ns.map D.int).length (ns.map D.int).length (vR (13+(c:Int)))-HT.sIx (ns.map D.int).length 0 (vR 13)),?_,?_⟩
 ·rw[if_neg (by decide)]at a1;rw[if_neg (show¬(13+(c:Int))<0 by lia)]at a2;rw[qF];generalize HT.sIx (ns.map D.int).length 0 (vR 13)=u1 at*;generalize HT.sIx (ns.map D.int).length (ns.map D.int).length (vR (13+(c:Int)))=u2 at*;have h1:min (13:Int) ((ns.map D.int).length:Int)<=u1:=by rw[a1];exact Int.le_max_right ..
  have h2:(u2:Int)<=max 0 (13+(c:Int)):=by rw[a2];exact Int.max_le.mpr ⟨Int.le_max_left ..,Int.le_trans (Int.min_le_left ..) (Int.le_max_right ..)⟩
  have h3:u2-u1<=c:=by
   by_cases q:(13:Int)<=((ns.map D.int).length:Int)
   ·rw[Int.min_eq_left q]at h1;rw[Int.max_eq_right (by lia)]at h2;lia
   ·have h4:(u2:Int)<=((ns.map D.int).length:Int):=by rw[a2];exact Int.max_le.mpr ⟨by lia,Int.min_le_right ..⟩
    rw[Int.min_eq_right (by lia)]at h1;lia
  exact z0 (Nat.min_le_left ..) h3
 ·unfold cutD;rw[List.map_take,List.map_drop]
theorem fars(ht:t<3):∃f:Int,1<=f/\f<=100/\∀H:DH,Av (.fl [.int 1,.int 1,.int 100]) (.int (t:Int)) H=.ok (.int f) H:=by
 match t,ht with
 |0,_=>exact⟨1,by decide,by decide,λ_=>rfl⟩
 |1,_=>exact⟨1,by decide,by decide,λ_=>rfl⟩
 |2,_=>exact⟨100,by decide,by decide,λ_=>rfl⟩
 |n+3,h=>exact absurd h (by lia)
theorem cuts4(ht:t<4):∃c:Nat,c<=10/\∀H:DH,Av (.fl [.int 10,.int 10,.int 10,.int 5]) (.int (t:Int)) H=.ok (.int (c:Int)) H:=by
 match t,ht with
 |0,_=>exact⟨10,by decide,λ_=>rfl⟩
 |1,_=>exact⟨10,by decide,λ_=>rfl⟩
 |2,_=>exact⟨10,by decide,λ_=>rfl⟩
 |3,_=>exact⟨5,by decide,λ_=>rfl⟩
 |n+4,h=>exact absurd h (by lia)
theorem supp1(ns:List Int)(kd sc:Int)(hsc:0<sc)(hsc2:sc<=10^30)(n:Nat):∃s:List Int,s.length=n/\(∀v∈s,0<=v/\v<10^39)/\∀(s0:Option D)(G:DH),Cq (gV 0) Cj Ri [s0,vR (.fl (ns.map D.int)),vR (.int kd),vR (.int sc)] (Bd 0 n) G=.ok (s.map D.int) G:=by
 have h:∀k:Nat,∃v:Int,(0<=v/\v<10^39)/\∀G,Jy [.int (cellAt ns (7+(k:Int))),.int kd,.int sc] G=.ok (.int v) G:=λk=>ZBQ _ _ _ hsc hsc2
 let f:Nat->Int:=λk=>Classical.choose (h k)
 have hf:∀k,(0<=f k/\f k<10^39)/\∀G,Jy [.int (cellAt ns (7+(k:Int))),.int kd,.int sc] G=.ok (.int (f k)) G:=λk=>Classical.choose_spec (h k)
 refine⟨(zJ n).map f,by simp,λv hv=>?_,λs0 G=>?_⟩
 ·obtain⟨k,_,rfl⟩:=zS.mp hv;exact(hf k).1
 ·rw[ZDT (F:=λk=>.int (f k)),qY]
  ·rfl
  ·intro k hk;unfold Ri;have ca:∀H:DH,Fj [.fl (ns.map D.int),.int (7+(k:Int))] H=.ok (.int (cellAt ns (7+(k:Int)))) H:=λH=>Nr (by lia)
   simp[ca,(hf k).2]
theorem supp2(s:List Int)(cell:Int)(hs:∀v∈s,0<=v/\v<10^39):∃s':List Int,s'.length=s.length/\(∀v∈s',0<=v/\v<10^39)/\∀(s0:Option D)(G:DH),Cq (gV 0) Cj U9 [s0,vR (.int cell),vR (.fl (s.map D.int))] (Bd 0 s.length) G=.ok (s'.map D.int) G:=by
 refine⟨(zJ s.length).map λk:Nat=>s.getD k 0*(if(k:Int)%8=cell/7%8 then 1 else 0),by simp,λv hv=>?_,λs0 G=>?_⟩
 ·obtain⟨k,hk,rfl⟩:=zS.mp hv;have hk:=qX.mp hk;have:0<=s.getD k 0/\s.getD k 0<10^39:=by rw[zD,zY hk];exact hs _ (qN hk)
  split
  ·lia
  ·lia
 ·rw[ZDT (F:=λk=>.int (s.getD k 0*(if(k:Int)%8=cell/7%8 then 1 else 0))),qY]
  ·rfl
  ·intro k hk;have gt:atI (s.map D.int) (k:Int)=vR (.int (s.getD k 0)):=Gi (k:=k) (by lia) (by rw[zC,zY hk,zD,zY hk];rfl);unfold U9;by_cases h:(k:Int)%8=cell/7%8
   ·simp[gt,h]
   ·simp[gt,h]
theorem ZKc(cell:Int)(kd:Nat)(lg:Bool)(hlk:lg=vT->kd<3):∃n:Nat,1<=n/\n<=30/\(n:Int)=(if lg=vT then 11+cell/96%20 else if kd=3 then 1+cell/16%2 else 1+cell/16%6):=by
 cases lg with
 |true=>
  have h1:=jv (cell/96) (show(20:Int)≠0 by decide);have h2:=jq (cell/96) (show(0:Int)<20 by decide);exact⟨(11+cell/96%20).toNat,by lia,by lia,by simp;lia⟩
 |false=>
  by_cases h:kd=3
  ·exact⟨(1+cell/16%2).toNat,by lia,by lia,by simp[h];lia⟩
  ·exact⟨(1+cell/16%6).toNat,by lia,by lia,by simp[h];lia⟩
section
variable{N Z S1 S2:List D}{cell sc far:Int}{kd n c t2 t3 t4:Nat}{lg:Bool}{T Q:D}{G H1 H2:DH}{v0 v1 v2 v3 v4 v5 v6 v7 v8 v9 v10 v11 v12 v13 v14:Option D}{X S:DSt}
theorem ZFx(i1:inR (n:Int))(m1:S1.length<=1000000)(m2:S2.length<=1000000)(k3:Cq (gV 0) Cj Ri [vS,v0,v2,v3] (Bd 0 n) H2=.ok S1 H2)(k4:Cq (gV 0) Cj U9 [vS,vR (.int cell),vR (.fl S1)] (Bd 0 n) H2=.ok S2 H2)
  (fa:freeze H2 (.ok (.ref H2.length) (H2++[.lst S1]))=.ok (.fl S1) H2) (fb:freeze H2 (.ok (.ref H2.length) (H2++[.lst S2]))=.ok (.fl S2) H2):
  T3 [v0,vR (.int cell),v2,v3,vR (.int n),vR (.bl lg),v6,vR Q,v8,v9,v10,v11,v12,v13,v14,vS] H2=.rt (.tup [.int n,Q,.fl (if lg=vT then S2 else S1)]) H2:=by
 have c3:Bf 1 [0,2,3] [v0,vR (.int cell),v2,v3,vR (.int n),vR (.bl lg),v6,vR Q,v8,v9,v10,v11,v12,v13,v14,vS]=[vS,v0,v2,v3]:=rfl;have c4:Bf 1 [1,15] [v0,vR (.int cell),v2,v3,vR (.int n),vR (.bl lg),v6,vR Q,v8,v9,v10,v11,v12,v13,v14,vR (.fl S1)]=[vS,vR (.int cell),vR (.fl S1)]:=rfl;have s14:∀S3,Vi [v0,vR (.int cell),v2,v3,vR (.int n),vR (.bl lg),v6,vR Q,v8,v9,v10,v11,v12,v13,v14,vR (.fl S3)] H2=.rt (.tup [.int n,Q,.fl S3]) H2:=λS3=>by unfold Vi;simp
 unfold T3 ZDe;cases lg with
 |true=>simp[i1,c3,k3,Ar,m1,fa,c4,k4,m2,fb,s14]
 |false=>simp[i1,c3,k3,Ar,m1,fa,s14]
theorem ZLY(fd:freeze H1 (.ok (.ref H1.length) (H1++[.lst [.int 10,.int 10,.int 10,.int 5]]))=.ok (.fl [.int 10,.int 10,.int 10,.int 5]) H1)(ec:Av (.fl [.int 10,.int 10,.int 10,.int 5]) (.int (kd:Int)) H1=.ok (.int (c:Int)) H1)(ez:cutD N (vR 13) (vR (13+(c:Int)))=Z)(fc:freeze H1 (.ok (.ref H1.length) (H1++[.lst Z]))=.ok (.fl Z) H1)
  (r2:Bt (gV 9) Pu Z (vR (.fl N)::v1::vR (.int kd)::X) H1=.nx S H2) (s12:T3 S H2=.rt T H2):Sv (vR (.fl N)::v1::vR (.int kd)::X) H1=.rt T H2:=by
 unfold Sv;simp[Ar,fd,ec,ez,fc,r2,s12]
theorem ZL0(i1:inR (n:Int))(r1:Bt (gV 8) Ng (Bd 0 n) (v0::v1::v2::v3::vR (.int n)::v5::v6::vR (.ref G.length)::X) (G++[.lst []])=.nx S H1)(s11:Sv S H1=.rt T H2):Ue (v0::v1::v2::v3::vR (.int n)::v5::v6::v7::X) G=.rt T H2:=by have tn:tidy G (.ok (.ref G.length) (G++[.lst []]))=.ok (.ref G.length) (G++[.lst []]):=Hk rfl;unfold Ue ZDb;simp[Ar,tn,i1,r1,s11]
theorem ZJy(e4:Ci [.int cell,.int 10103,.int 3] G=.ok (.int (t4:Int)) G)(ef:Av (.fl [.int 1,.int 1,.int 100]) (.int (t4:Int)) G=.ok (.int far) G)(s9:Ue (v0::vR (.int cell)::v2::v3::v4::v5::vR (.int far)::X) G=.rt T H2):Tf (v0::vR (.int cell)::v2::v3::v4::v5::v6::X) G=.rt T H2:=by have fz2:freeze G (.ok (.ref G.length) (G++[.lst [.int 1,.int 1,.int 100]]))=.ok (.fl [.int 1,.int 1,.int 100]) G:=Cd rfl;unfold Tf;simp[Ar,fz2,e4,ef,s9]
theorem ZIu{w:Int}(en:(n:Int)=if lg=vT then 11+cell/96%20 else w)(s8:Tf (v0::vR (.int cell)::v2::v3::vR (.int n)::vR (.bl lg)::X) G=.rt T H2):Ud (v0::vR (.int cell)::v2::v3::vR (.int w)::vR (.bl lg)::X) G=.rt T H2:=by
 unfold Ud;cases lg with
 |true=>
  rw[if_pos rfl]at en;simp[<-en,s8]
 |false=>
  rw[if_neg (by decide)]at en;rw[<-en];simp[s8]
theorem ZJu(e3:Ci [.int cell,.int 10271,.int 8] G=.ok (.int (t3:Int)) G)(s7:Ud (v0::vR (.int cell)::vR (.int kd)::v3::v4::vR (.bl (decide (kd<3)&&decide (t3=1)))::X) G=.rt T H2):Ti (v0::vR (.int cell)::vR (.int kd)::v3::v4::v5::X) G=.rt T H2:=by
 unfold Ti;by_cases q1:kd<3
 ·have q2:(kd:Int)<3:=by lia
  have q3:decide ((t3:Int)=1)=decide (t3=1):=decide_eq_decide.mpr (by lia);rw[decide_eq_true q1,Bool.true_and]at s7;simp[q2,e3,q3,s7]
 ·have q2:¬(kd:Int)<3:=by lia
  rw[decide_eq_false q1,Bool.false_and]at s7;simp[q2,s7]
theorem ZF9(s6:Ti (v0::vR (.int cell)::vR (.int kd)::v3::vR (.int (if kd=3 then 1+cell/16%2 else 1+cell/16%6))::X) G=.rt T H2):Ra (v0::vR (.int cell)::vR (.int kd)::v3::vR (.int (1+cell/16%6))::X) G=.rt T H2:=by
 unfold Ra;by_cases q1:kd=3
 ·subst q1;rw[if_pos rfl]at s6;simp;exact s6
 ·rw[if_neg q1]at s6;have q2:¬(kd:Int)=3:=by lia
  simp[q2,s6]
theorem ZG1(e2:cell/4%4=(t2:Int))(es:Av (.fl [.int 1,.int 1,.int 1000000007,.int 1000000000000000000000000000000]) (.int (t2:Int)) G=.ok (.int sc) G)(s5:Ra (v0::vR (.int cell)::v2::vR (.int sc)::vR (.int (1+cell/16%6))::X) G=.rt T H2):Xq (v0::vR (.int cell)::v2::v3::v4::X) G=.rt T H2:=by have fz1:freeze G (.ok (.ref G.length) (G++[.lst [.int 1,.int 1,.int 1000000007,.int 1000000000000000000000000000000]]))=.ok (.fl [.int 1,.int 1,.int 1000000007,.int 1000000000000000000000000000000]) G:=Cd rfl;unfold Xq ZEc;simp[Ar,fz1,e2,es,s5]
end
theorem ZIJ(ns:List Int)(G:DH):∃(n:Nat)(as:List Arc)(s:List Int),NetG n as s/\(∀x∈s,x<10^39)/\freeze G (Li [.fl (ns.map D.int)] G)=.ok (.tup [.int n,.fl (as.map encA),.fl (s.map D.int)]) G:=by
 have c0:∀H:DH,Fj [.fl (ns.map D.int),.int 0] H=.ok (.int (cellAt ns 0)) H:=λH=>Nr (by decide)
 have c1:∀H:DH,Fj [.fl (ns.map D.int),.int 1] H=.ok (.int (cellAt ns 1)) H:=λH=>Nr (by decide)
 generalize cellAt ns 0=cell at*;generalize cellAt ns 1=one at*;by_cases hd:0<=one/\one<1000000000000000000
 ·obtain⟨kd,ek,hkd⟩:=R4 cell (show 0<4 by decide);obtain⟨t2,e2,ht2⟩:=R4 (cell/4) (show 0<4 by decide);obtain⟨sc,hsc,hsc2,esc⟩:=scales ht2 (H:=G);obtain⟨t3,ht3,e3⟩:=Ih cell 10271 (by decide) (show 0<8 by decide);obtain⟨t4,ht4,e4⟩:=Ih cell 10103 (by decide) (show 0<3 by decide);obtain⟨far,f1,f2,efar⟩:=fars ht4;obtain⟨c,hc,ec⟩:=cuts4 hkd;obtain⟨lg,elg⟩:∃lg:Bool,lg=(decide (kd<3)&&decide (t3=1)):=⟨_,rfl⟩
  obtain⟨n,n1,n2,en⟩:=ZKc cell kd lg (λh=>by rw[h]at elg;simp at elg;lia);obtain⟨as1,l1,o1,w1,r1⟩:=ZEd (ns:=ns) (n:=n) (lg:=lg) f1 f2 (G:=G) (s1:=vR (.int cell)) (s2:=vR (.int kd)) (s3:=vR (.int sc)) (s11:=vS) (s12:=vS) (s13:=vS) (s14:=vS) (s15:=vS) n 0 (by lia);obtain⟨y8,y9,y10,r1⟩:=r1 [] vS vS vS (by simp;lia);obtain⟨zs,lz,ez⟩:=cut13 ns c;obtain⟨as2,_L,q2,z9,z11,z12,z13,z14,h1,h2,h3,h4,h5,r2⟩:=ZBu (n:=n) (kd:=kd) n1 n2 hsc hsc2 f1 f2 (G:=G) (s0:=vR (.fl (ns.map D.int))) (s1:=vR (.int cell)) (s5:=vR (.bl lg)) (s8:=y8) (s10:=y10) (s15:=vS) zs G.length as1 [.lst (as1.map encA)] y9 vS vS vS vS (by lia) (by rw[Qq];rfl) (by lia) o1
  obtain⟨s1,ls1,hs1,r3⟩:=supp1 ns kd sc hsc hsc2 n;obtain⟨s2,ls2,hs2,r4⟩:=supp2 s1 cell hs1;have hss:∀x∈(if lg=vT then s2 else s1),0<=x/\x<10^39:=by
   split
   ·exact hs2
   ·exact hs1
  refine⟨n,as2,if lg=vT then s2 else s1,⟨n1,n2,by lia,h4,λk hk=>?_,?_,λx hx=>(hss x hx).1,λx hx=>by have:=(hss x hx).2;lia⟩,λx hx=>(hss x hx).2,?_⟩
  ·obtain⟨a,ha,h⟩:=w1 k (by lia) hk;exact⟨a,h5 a ha,h⟩
  ·split <;> lia
  have fz:=λB hB=>ZFs (n:=(n:Int)) (B:=B) h1 h2 Gk hB
  have q2b:bels G.length [.int (n:Int),.ref q2,.fl ((if lg=vT then s2 else s1).map D.int)]=vU:=by simp[bels,bel];lia
  have td:=λH:DH=>Wg (G:=G) (G':=H) q2b
  have fr:=fz _ (Cz (m:=G.length) (xs:=if lg=vT then s2 else s1));have i1:inR (n:Int):=⟨by lia,by lia⟩;have r1':Bt (gV 8) Ng (Bd 0 n) [vR (.fl (ns.map D.int)),vR (.int cell),vR (.int kd),vR (.int sc),vR (.int n),vR (.bl lg),vR (.int far),vR (.ref G.length),vS,vS,vS,vS,vS,vS,vS,vS] (G++[.lst []])=.nx [vR (.fl (ns.map D.int)),vR (.int cell),vR (.int kd),vR (.int sc),vR (.int n),vR (.bl lg),vR (.int far),vR (.ref G.length),y8,y9,y10,vS,vS,vS,vS,vS] (G++[.lst (as1.map encA)]):=r1
  have fin:Li [.fl (ns.map D.int)] G=.ok (.tup [.int n,.ref q2,.fl ((if lg=vT then s2 else s1).map D.int)]) (G++_L):=by
   have k4:=r4 vS (G++_L);rw[ls1]at k4
   have eT:(if lg=vT then s2 else s1).map D.int=if lg=vT then s2.map D.int else s1.map D.int:=by cases lg<;>rfl
   have s12:=ZFx (lg:=lg) (v6:=vR (.int far)) (Q:=.ref q2) (v8:=y8) (v9:=z9) (v10:=y10) (v11:=z11) (v12:=z12) (v13:=z13) (v14:=z14) i1 (by simp;lia) (by simp;lia) (r3 vS (G++_L)) k4 (Cd Cz) (Cd Cz);rw[<-eT]at s12;have s11:=ZLY (Cd rfl) (ec _) ez (Cd Cz) r2 s12;have s7:=ZIu en (ZJy (v6:=vS) (e4 G) (efar G) (ZL0 (v7:=vS) i1 r1' s11));rw[elg]at s7;have s3:=ZG1 (v3:=vS) (v4:=vS) e2 esc (ZF9 (ZJu (v5:=vS) (e3 G) s7))
   rw[<-elg]at s3;clear s7 s11 s12 k4 r1' r1 r2 r3 r4 fr fz ez ec efar e3 e4;have ek':cell%4=(kd:Int):=ek;generalize D.tup [.int n,.ref q2,.fl ((if lg=vT then s2 else s1).map D.int)]=T at s3 td⊢;generalize ns.map D.int=N at s3 c0 c1⊢;unfold Li Xw ZAD ZC5;rw[Bv];simp[c0,c1,hd.1,hd.2,ek',s3,td]
  rw[fin];exact fr
 ·obtain⟨n,as,s,ok,ok39,q,r,L,h1,h2,h3,h4,h⟩:=ZHp one G;refine⟨n,as,s,ok,ok39,?_⟩;have td:=λH:DH=>Wg (G:=G) (G':=H) (ds:=[.int n,.ref q,.ref r]) (by simp[bels,bel];lia)
  have tn:tidy G (.ok (.ref G.length) (G++[.lst [.int one]]))=.ok (.ref G.length) (G++[.lst [.int one]]):=Hk rfl;have fin:Li [.fl (ns.map D.int)] G=.ok (.tup [.int n,.ref q,.ref r]) (G++L):=by
   unfold Li Xw ZAD;rw[Bv];by_cases h0:0<=one
   ·have h9:¬one<1000000000000000000:=λh9=>hd ⟨h0,h9⟩
    simp[c0,c1,h0,h9,tn,h,td]
   ·simp[c0,c1,h0,tn,h,td]
  rw[fin,ZMH h1 h2 h3 h4 Gk Cz]
structure NetOk (n:Nat) (as:List Arc) (s:List Int):Prop where
 n1:1<=n
 n2:n<=30
 len:as.length<=80
 arc:∀x∈as,ArcOk n x
 way:∀k,k<n->∃x∈as,x.fr=k/\x.mo=vS
 sl:s.length=n
 sn:∀x∈s,0<=x
 sb:∀x∈s,x<10^40
noncomputable def Ba(as:List Arc):Nat->Arc:=λi=>as.getD i ⟨0,0,vS,0⟩
noncomputable def Ac(xs:List Int):Nat->Int:=λi=>xs.getD i 0
theorem ZAd(h:i<as.length):Ba as i=as[i]:=by
 unfold Ba;rw[zD,zY h]
 rfl
theorem Jo(h:i<xs.length):Ac xs i=xs[i]:=by
 unfold Ac;rw[zD,zY h]
 rfl
theorem ZAv(h:i<xs.length):atI (xs.map D.int) (i:Int)=vR (.int (Ac xs i)):=Gi (k:=i) (by lia) (by rw[zC,zY h,Jo h];rfl)
theorem ArcOk.of(h:∀x∈as,ArcOk n x)(hi:i<as.length):ArcOk n (Ba as i):=by rw[ZAd hi];exact h _ (qN hi)
noncomputable def gP(P:List (Option Int))(u:Nat):Option Int:=P.getD u vS
def dP(P:List (Option Int))(u:Nat):Int:=(gP P u).getD 0
theorem Pa{x:Option Int}(hu:u<P.length):gP (P.set u x) w=if w=u then x else gP P w:=by
 unfold gP;simp only[zD];by_cases e:w=u
 ·subst e;rw[qZ hu,if_pos rfl]
  rfl
 ·rw[zw λz=>e z.symm,if_neg e]
structure Lks where
 n:Nat
 q:Nat
 fr:Nat->Nat
 to:Nat->Nat
 wo:Nat->Int
structure Lks.Ok (N:Lks):Prop where
 fr:∀l,l<N.q->N.fr l<=N.n
 to:∀l,l<N.q->N.to l<=N.n
 ne:∀l,l<N.q->N.fr l≠N.to l
 wb:∀l,l<N.q-> -40000<=N.wo l
 wu:∀l,l<N.q->N.wo l<=40000
def Lks.Way(N:Lks)(rm:Nat->Int):Prop:=∀u,u<N.n->∃l,l<N.q/\N.fr l=u/\u<N.to l/\0<rm l
def Lks.Pot(N:Lks)(rm W:Nat->Int):Prop:=∀l,l<N.q->0<rm l->W (N.to l)+N.wo l+(if N.fr l=N.n then 2 else 0)<=W (N.fr l)
structure Lks.Fix (N:Lks) (rm W:Nat->Int):Prop where
 z:W N.n=0
 fix:∀l,l<N.q->0<rm l->N.fr l<N.n->W (N.to l)+N.wo l<=W (N.fr l)
 att:∀u,u<N.n->∃l,l<N.q/\N.fr l=u/\0<rm l/\W u=W (N.to l)+N.wo l
 lo:∀u,u<N.n-> -(40000*(N.n:Int))<=W u
def pick(x:Option Int)(w:Int):Option Int:=match x with
 |none=>vR w
 |some z=>if z<w then vR w else vR z
def Lks.rl(N:Lks)(rm:Nat->Int)(P:List (Option Int))(x:Option Int)(l:Nat):Option Int:=
 if 0<rm l then(match gP P (N.to l)with
  |none=>x
  |some y=>pick x (y+N.wo l))else x
def Lks.bw(N:Lks)(rm:Nat->Int)(P:List (Option Int))(ls:List Nat)(x:Option Int):Option Int:=ls.foldl (N.rl rm P) x
section
variable{N:Lks}{rm π:Nat->Int}{P:List (Option Int)}
theorem ZKd{x:Option Int}(h:x=vR z):∃y,N.rl rm P x l=vR y/\z<=y:=by
 subst h;unfold Lks.rl;split
 ·split
  ·exact⟨z,rfl,qW _⟩
  ·unfold pick;dsimp only;split
   ·exact⟨_,rfl,by lia⟩
   ·exact⟨_,rfl,qW _⟩
 ·exact⟨z,rfl,qW _⟩
theorem ZKp{x:Option Int}{y:Int}(h:0<rm l)(hy:gP P (N.to l)=vR y):∃z,N.rl rm P x l=vR z/\y+N.wo l<=z:=by
 unfold Lks.rl;rw[if_pos h,hy];unfold pick;cases x with
 |none=>exact⟨_,rfl,qW _⟩
 |some z=>
  dsimp only;split
  ·exact⟨_,rfl,qW _⟩
  ·exact⟨_,rfl,by lia⟩
theorem ZLt{x:Option Int}:N.rl rm P x l=x∨∃y,0<rm l/\gP P (N.to l)=vR y/\N.rl rm P x l=vR (y+N.wo l):=by
 unfold Lks.rl;split
 ·rename_i h;split
  ·exact .inl rfl
  ·rename_i y hy;unfold pick;cases x with
   |none=>exact .inr ⟨y,h,hy,rfl⟩
   |some z=>
    dsimp only;split
    ·exact .inr ⟨y,h,hy,rfl⟩
    ·exact .inl rfl
 ·exact .inl rfl
theorem Ot:∀(ls:List Nat){x:Option Int}{z:Int},x=vR z->∃y,N.bw rm P ls x=vR y/\z<=y
 |[],x,z,h=>⟨z,h,qW _⟩
 |l::ls,x,z,h=>by obtain⟨y,h1,h2⟩:=ZKd (N:=N) (rm:=rm) (P:=P) (l:=l) h;obtain⟨w,h3,h4⟩:=Ot ls h1;exact⟨w,h3,by lia⟩
theorem Vn:∀(ls:List Nat){x:Option Int}{l:Nat}{y:Int},l∈ls->0<rm l->gP P (N.to l)=vR y->∃z,N.bw rm P ls x=vR z/\y+N.wo l<=z
 |k::ls,x,l,y,hm,h,hy=>by
  rcases zq.mp hm with rfl|hm
  ·obtain⟨z,h1,h2⟩:=ZKp (N:=N) (x:=x) h hy;obtain⟨w,h3,h4⟩:=Ot ls h1;exact⟨w,h3,by lia⟩
  ·exact Vn ls (x:=N.rl rm P x k) hm h hy
theorem V9:∀(ls:List Nat)(x:Option Int),N.bw rm P ls x=x∨∃l y,l∈ls/\0<rm l/\gP P (N.to l)=vR y/\N.bw rm P ls x=vR (y+N.wo l)
 |[],x=>.inl rfl
 | k::ls,x=>by
  have e:N.bw rm P (k::ls) x=N.bw rm P ls (N.rl rm P x k):=rfl;rw[e];rcases V9 ls (N.rl rm P x k)with h|⟨l,y,h1,h2,h3,h4⟩
  ·rcases ZLt (N:=N) (rm:=rm) (P:=P) (x:=x) (l:=k)with h'|⟨y,h2,h3,h4⟩
   ·exact .inl (h.trans h')
   ·exact .inr ⟨k,y,by simp,h2,h3,h.trans h4⟩
  ·exact .inr ⟨l,y,by simp[h1],h2,h3,h4⟩
structure WV (N:Lks) (rm π:Nat->Int) (P:List (Option Int)):Prop where
 len:P.length=N.n+1
 z:gP P N.n=vR 0
 up:∀u x,gP P u=vR x->u<=N.n->x<=π u
 att:∀u x,u<N.n->gP P u=vR x->∃l y,l<N.q/\N.fr l=u/\0<rm l/\gP P (N.to l)=vR y/\x<=y+N.wo l
def LkOf(N:Lks)(lk:Nat->List Nat):Prop:=∀u l,l∈lk u↔l<N.q/\N.fr l=u
def lowP(N:Lks)(P:List (Option Int))(u:Nat):Prop:=∃x,gP P u=vR x/\ -(40000*((N.n:Int)-u))<=x
theorem ZGR(ok:N.Ok)(hl:LkOf N lk)(pot:N.Pot rm π)(K:WV N rm π P)(hu:u<N.n):WV N rm π (P.set u (N.bw rm P (lk u) (gP P u))):=by
 have hlen:=K.len;have g:∀w,gP (P.set u (N.bw rm P (lk u) (gP P u))) w=if w=u then N.bw rm P (lk u) (gP P u)else gP P w:=λw=>Pa (by lia)
 have up:∀w x,gP P w=vR x->∃y,gP (P.set u (N.bw rm P (lk u) (gP P u))) w=vR y/\x<=y:=λw x h=>by
  rw[g];split
  ·rename_i e;subst e;exact Ot (lk w) h
  ·exact⟨x,h,qW _⟩
 refine⟨by rw[qD];exact hlen,by rw[g,if_neg (by lia)];exact K.z,λw x h hw=>?_,λw x hw h=>?_⟩
 ·rw[g]at h;split at h
  ·rename_i e;subst e;rcases V9 (N:=N) (rm:=rm) (P:=P) (lk w) (gP P w)with h'|⟨l,y,h1,h2,h3,h4⟩
   ·exact K.up w x (h'.symm.trans h) hw
   ·rw[h4]at h;cases h;obtain⟨e1,e2⟩:=(hl w l).mp h1;have h5:=K.up _ _ h3 (ok.to l e1);have h6:=pot l e1 h2;rw[e2,if_neg (by lia)]at h6;lia
  ·exact K.up w x h hw
 ·have old:∀x,gP P w=vR x->∃l y,l<N.q/\N.fr l=w/\0<rm l/\gP (P.set u (N.bw rm P (lk u) (gP P u))) (N.to l)=vR y/\x<=y+N.wo l:=λx h=>by obtain⟨l,y,h1,h2,h3,h4,h5⟩:=K.att w x hw h;obtain⟨y',h6,h7⟩:=up _ _ h4;exact⟨l,y',h1,h2,h3,h6,by lia⟩
  rw[g]at h;split at h
  ·rename_i e;subst e;rcases V9 (N:=N) (rm:=rm) (P:=P) (lk w) (gP P w)with h'|⟨l,y,h1,h2,h3,h4⟩
   ·exact old x (h'.symm.trans h)
   ·rw[h4]at h;cases h;obtain⟨e1,e2⟩:=(hl w l).mp h1;obtain⟨y',h6,h7⟩:=up _ _ h3;exact⟨l,y',e1,e2,h2,h6,by lia⟩
  ·exact old x h
theorem ZLv(K:WV N rm π P)(hu:u<N.n){x:Int}(h:gP P w=vR x):∃y,gP (P.set u (N.bw rm P (lk u) (gP P u))) w=vR y/\x<=y:=by
 have hlen:=K.len;rw[Pa (by lia)];split
 ·rename_i e;subst e;exact Ot (lk w) h
 ·exact⟨x,h,qW _⟩
theorem ZGb(ok:N.Ok)(hl:LkOf N lk)(way:N.Way rm)(K:WV N rm π P)(hu:u<N.n)(h:∀v,u<v->v<=N.n->lowP N P v):∀v,u<=v->v<=N.n->lowP N (P.set u (N.bw rm P (lk u) (gP P u))) v:=λv h1 h2=>by
 by_cases e:v=u
 ·subst e;obtain⟨l,q1,q2,q3,q4⟩:=way v hu;obtain⟨y,q5,q6⟩:=h (N.to l) (by lia) (ok.to l q1);obtain⟨z,q7,q8⟩:=Vn (N:=N) (P:=P) (lk v) (x:=gP P v) ((hl v l).mpr ⟨q1,q2⟩) q4 q5;have hlen:=K.len;refine⟨z,by rw[Pa (by lia),if_pos rfl];exact q7,?_⟩;have:=ok.wb l q1;lia
 ·obtain⟨x,q1,q2⟩:=h v (by lia) h2;obtain⟨y,q3,q4⟩:=ZLv (lk:=lk) K hu q1;exact⟨y,q3,by lia⟩
def Lks.dn(N:Lks)(rm:Nat->Int)(lk:Nat->List Nat):Nat->List (Option Int)->List (Option Int)
 |0,P=>P
 |k+1,P=>N.dn rm lk k (P.set k (N.bw rm P (lk k) (gP P k)))
def Lks.still(N:Lks)(rm:Nat->Int)(lk:Nat->List Nat):Nat->List (Option Int)->Bool
 |0,_=>vT
 |k+1,P=>decide (N.bw rm P (lk k) (gP P k)=gP P k)&&N.still rm lk k (P.set k (N.bw rm P (lk k) (gP P k)))
def msP(N:Lks)(π:Nat->Int)(P:List (Option Int))(u:Nat):Int:=match gP P u with
 |none=>π u+40000*(N.n:Int)+1
 |some x=>π u-x
theorem set_same{x:Option Int}(h:x=gP P k)(hk:k<P.length):P.set k x=P:=by
 refine j0 λi=>?_
 by_cases e:k=i
 ·subst e;rw[qZ hk,h];unfold gP;rw[zD,zY hk]
  rfl
 ·rw[zw e]
theorem ZCQ(ok:N.Ok)(hl:LkOf N lk)(way:N.Way rm)(pot:N.Pot rm π):∀(k:Nat){P:List (Option Int)},WV N rm π P->k<=N.n->(∀v,k<=v->v<=N.n->lowP N P v)->
  WV N rm π (N.dn rm lk k P)/\(∀v,v<=N.n->lowP N (N.dn rm lk k P) v)/\(N.still rm lk k P=vT->N.dn rm lk k P=P/\∀u,u<k->N.bw rm P (lk u) (gP P u)=gP P u)/\
  Aj N.n (msP N π (N.dn rm lk k P))+(if N.still rm lk k P=vT then 0 else 1)<=Aj N.n (msP N π P)
 |0,P,K,_,h=>⟨K,λv hv=>h v (qR _) hv,λ_=>⟨rfl,λu hu=>absurd hu (jU _)⟩,by show _+(if vT=vT then(0:Int)else 1)<=_;rw[if_pos rfl];exact Int.le_of_eq (Int.add_zero _)⟩
 | k + 1,P,K,hk,h=>by
  have hlen:=K.len;have K1:=ZGR ok hl pot K (u:=k) (by lia);have L1:=ZGb ok hl way K (u:=k) (by lia) λv q1 q2=>h v (by lia) q2
  obtain⟨r1,r2,r3,r4⟩:=ZCQ ok hl way pot k K1 (by lia) L1;refine⟨r1,r2,λhs=>?_,?_⟩
  ·have hs':(decide (N.bw rm P (lk k) (gP P k)=gP P k)&&N.still rm lk k (P.set k (N.bw rm P (lk k) (gP P k))))=vT:=hs;rw[zB,decide_eq_true_eq]at hs';have e:=set_same (P:=P) hs'.1 (by lia);obtain⟨q1,q2⟩:=r3 hs'.2;rw[e]at q1 q2;refine⟨by show N.dn rm lk k _=P;rw[e];exact q1,λu hu=>?_⟩;by_cases e2:u=k
   ·rw[e2];exact hs'.1
   ·exact q2 u (by lia)
  ·by_cases e:N.bw rm P (lk k) (gP P k)=gP P k
   ·have e1:=set_same (P:=P) e (by lia);have e2:N.still rm lk (k+1) P=N.still rm lk k P:=by
     show(decide (N.bw rm P (lk k) (gP P k)=gP P k)&&N.still rm lk k (P.set k (N.bw rm P (lk k) (gP P k))))=_;rw[e1,decide_eq_true e]
     rfl
    rw[e2];show Aj N.n (msP N π (N.dn rm lk k (P.set k (N.bw rm P (lk k) (gP P k)))))+_<=_;rw[e1]at r4⊢;exact r4
   ·have e2:N.still rm lk (k+1) P=vU:=by
     show(decide (N.bw rm P (lk k) (gP P k)=gP P k)&&_)=_;rw[decide_eq_false e]
     rfl
    rw [e2];show Aj N.n (msP N π (N.dn rm lk k (P.set k (N.bw rm P (lk k) (gP P k)))))+(if vU=vT then(0:Int)else 1)<=_;rw[if_neg (by decide)];have dec:∀v,v<N.n->msP N π (P.set k (N.bw rm P (lk k) (gP P k))) v+(if v=k then 1 else 0)<=msP N π P v:=λv hv=>by
     by_cases ev:v=k
     ·rw[if_pos ev];subst ev;obtain⟨z,q1,q2⟩:=L1 v (zK _) (by lia);have q1':=q1;rw[Pa (by lia),if_pos rfl]at q1';unfold msP;rw[q1];cases hp:gP P v with
      |none=>dsimp only;lia
      |some x=>
       obtain⟨y,q3,q4⟩:=Ot (N:=N) (rm:=rm) (P:=P) (lk v) hp;rw[q1']at q3;cases q3;have ne:z≠x:=λz'=>e (by rw[q1',hp,z'])
       dsimp only;lia
     ·rw[if_neg ev];unfold msP;rw[Pa (by lia),if_neg ev];lia
    have s1:=Dt dec;rw[Fo,Hv (x:=λ_=>1) (show k<N.n by lia)]at s1
    have:0<=(if N.still rm lk k (P.set k (N.bw rm P (lk k) (gP P k)))=vT then(0:Int)else 1):=by split <;> decide
    lia
theorem ZHc(K:WV N rm π P)(hπ:∀u,u<N.n-> -(40000*(N.n:Int))<=π u):0<=Aj N.n (msP N π P):=by
 have h:∀u,u<N.n->0<=msP N π P u:=λu hu=>by
  unfold msP;cases e:gP P u with
  |none=>have:=hπ u hu;dsimp only;lia
  |some x=>have:=K.up u x e (by lia);dsimp only;lia
 have:=Dt (f:=λ_=>0) h;rw[Hd]at this;exact this
theorem ZLu(ok:N.Ok)(hl:LkOf N lk)(K:WV N rm π P)(lo:∀v,v<=N.n->lowP N P v)(st:∀u,u<N.n->N.bw rm P (lk u) (gP P u)=gP P u):N.Fix rm (dP P)/\∀u,u<=N.n->dP P u<=π u:=by
 have val:∀u,u<=N.n->gP P u=vR (dP P u):=λu hu=>by
  obtain⟨x,h,_⟩:=lo u hu;unfold dP;rw[h]
  rfl
 have fix:∀l,l<N.q->0<rm l->N.fr l<N.n->dP P (N.to l)+N.wo l<=dP P (N.fr l):=λl h1 h2 h3=>by obtain⟨z,q1,q2⟩:=Vn (N:=N) (P:=P) (lk (N.fr l)) (x:=gP P (N.fr l)) ((hl _ l).mpr ⟨h1,rfl⟩) h2 (val _ (ok.to l h1));rw[st _ h3,val _ (by lia)]at q1;have:=Option.some.inj q1;lia
 refine⟨⟨by unfold dP;rw[K.z];rfl,fix,λu hu=>?_,λu hu=>?_⟩,λu hu=>K.up u _ (val u hu) hu⟩
 ·obtain⟨l,y,h1,h2,h3,h4,h5⟩:=K.att u _ hu (val u (by lia));rw[val _ (ok.to l h1)]at h4;cases h4;have:=fix l h1 h3 (by lia);rw[h2]at this;exact⟨l,h1,h2,h3,by lia⟩
 ·obtain⟨x,h1,h2⟩:=lo u (by lia);rw[val u (by lia)]at h1;cases h1;lia
end
theorem pigeon:∀(n:Nat)(l:List Nat),l.Nodup->(∀x∈l,x<n)->l.length<=n
 |0,l,_,h=>by
  cases l with
  |nil=>exact zK _
  |cons x l=>exact absurd (h x (by simp)) (by lia)
 |n+1,l,hd,h=>by
  have h1:=pigeon n (l.erase n) (hd.erase n) λx hx=>by have h2:=(hd.mem_erase_iff).mp hx;have h3:=h x h2.2;have h4:=h2.1;lia
  by_cases hm:n∈l
  ·rw[List.length_erase_of_mem hm]at h1;lia
  ·rw[List.erase_of_not_mem hm]at h1;lia
def Lks.Sc(N:Lks)(ga:Nat->Int):Prop:=∀l,l<N.q->N.wo l=ga l*((N.n:Int)+1)-1
noncomputable def lnk(N:Lks)(W:Nat->Int)(u:Nat):Int:= -W u%((N.n:Int)+1)
noncomputable def gn(N:Lks)(W:Nat->Int)(u:Nat):Int:= -(-W u/((N.n:Int)+1))
section
variable{N:Lks}{rm W ga:Nat->Int}
theorem Mw(u:Nat):0<=lnk N W u/\lnk N W u<=N.n:=by have h1:=jv (-W u) (show((N.n:Int)+1)≠0 by lia);have h2:=jq (-W u) (show 0<((N.n:Int)+1) by lia);unfold lnk;lia
theorem Up(u:Nat):W u=gn N W u*((N.n:Int)+1)-lnk N W u:=by have h:=Int.emod_add_mul_ediv (-W u) ((N.n:Int)+1);unfold gn lnk;rw[Int.neg_mul,Int.mul_comm];lia
theorem ZC9(sc:N.Sc ga)(hl:l<N.q)(h:W (N.fr l)=W (N.to l)+N.wo l):lnk N W (N.fr l)=(lnk N W (N.to l)+1)%((N.n:Int)+1):=by
 unfold lnk;rw[Int.add_emod,Int.emod_emod,<-Int.add_emod,h,sc l hl];have e: -(W (N.to l)+(ga l*((N.n:Int)+1)-1))= -W (N.to l)+1+((N.n:Int)+1)*(-ga l):=by rw[Int.mul_neg,Int.mul_comm];lia
 rw[e,Int.add_mul_emod_self_left]
theorem ZDP(ok:N.Ok)(sc:N.Sc ga)(F:N.Fix rm W)(hu:u<N.n):1<=lnk N W u:=by
 refine Int.not_lt.mp λhlt=>?_
 have h0:lnk N W u=0:=by have:=(Mw (N:=N) (W:=W) u).1;lia
 have ch:∀t:Nat,t<=N.n->∃v,v<N.n/\lnk N W v=if t=0 then 0 else(N.n:Int)+1-t:=λt=>by
  induction t with
  |zero=>exact λ_=>⟨u,hu,h0⟩
  | succ t ih=>
   intro ht;obtain⟨v,hv,e⟩:=ih (by lia);obtain⟨l,h1,h2,h3,h4⟩:=F.att v hv;have e2:=ZC9 sc h1 (by rw[h2];exact h4);rw[h2]at e2;have b1:=Mw (N:=N) (W:=W) (N.to l);have hto:lnk N W (N.to l)=(N.n:Int)+1-(t+1:Nat):=by
    by_cases c:lnk N W (N.to l)=N.n
    ·rw[c,Int.emod_self]at e2;rw[e2]at e;split at e
     ·lia
     ·lia
    ·rw[Int.emod_eq_of_lt (by lia) (by lia)]at e2;split at e
     ·lia
     ·lia
   refine⟨N.to l,?_,by rw[if_neg (by lia)];exact hto⟩;have h5:=ok.to l h1;by_cases c:N.to l=N.n
   ·have:lnk N W (N.to l)=0:=by
     unfold lnk;rw[c,F.z]
     rfl
    lia
   ·lia
 have hch:∀c:Nat,c<=N.n->∃v,v<N.n/\lnk N W v=c:=λc hc=>by
  by_cases e:c=0
  ·exact⟨u,hu,by rw[e];exact h0⟩
  ·obtain⟨v,h1,h2⟩:=ch (N.n+1-c) (by lia);refine⟨v,h1,?_⟩;rw[if_neg (by lia)]at h2;lia
 have fx:∃f:Nat->Nat,∀c,c<=N.n->f c<N.n/\lnk N W (f c)=c:=⟨λc=>if h:c<=N.n then(hch c h).choose else 0,λc hc=>by dsimp only;rw[dif_pos hc];exact(hch c hc).choose_spec⟩
 obtain⟨f,hf⟩:=fx;have:=pigeon N.n ((zJ (N.n+1)).map f) (by
  rw[List.nodup_iff_pairwise_ne,List.pairwise_map];refine(List.pairwise_lt_range (n:=N.n+1)).imp_of_mem λ{a b}ha hb hab e=>?_
  have h1:=(hf a (by have:=qX.mp ha;lia)).2;have h2:=(hf b (by have:=qX.mp hb;lia)).2;rw[e]at h1;lia) λx hx=>by
  obtain⟨c,hc,rfl⟩:=zS.mp hx;exact(hf c (by have:=qX.mp hc;lia)).1
 rw[zO,List.length_range]at this;lia
theorem ZF7{x S:Int}(hS:0<S)(h: -S<x*S):0<=x:=by
 refine Int.not_lt.mp λhx=>?_
 have:=zL (show x<= -1 by lia) (xZ hS);lia
theorem ZCa(ok:N.Ok)(sc:N.Sc ga)(F:N.Fix rm W)(pot:N.Pot rm W)(hl:l<N.q)(hr:0<rm l):gn N W (N.to l)+ga l<=gn N W (N.fr l):=by
 have e1:=Up (N:=N) (W:=W) (N.fr l);have e2:=Up (N:=N) (W:=W) (N.to l);have b1:=Mw (N:=N) (W:=W) (N.fr l);have b2:=Mw (N:=N) (W:=W) (N.to l);have p:=pot l hl hr;rw[sc l hl]at p;have p1:1<=lnk N W (N.fr l)+(if N.fr l=N.n then 2 else 0):=by
  split
  ·lia
  ·have:=ZDP ok sc F (u:=N.fr l) (by have:=ok.fr l hl;lia);lia
 have:=ZF7 (x:=gn N W (N.fr l)-gn N W (N.to l)-ga l) (S:=(N.n:Int)+1) (by lia) (by rw[xV,xV];lia)
 lia
theorem ZFY(ok:N.Ok)(sc:N.Sc ga)(F:N.Fix rm W)(hl:l<N.q)(hf:N.fr l<N.n)(h:W (N.fr l)=W (N.to l)+N.wo l):gn N W (N.fr l)=gn N W (N.to l)+ga l/\lnk N W (N.fr l)=lnk N W (N.to l)+1:=by
 have t:=ZC9 sc hl h;have p:=ZDP ok sc F hf;have b2:=Mw (N:=N) (W:=W) (N.to l);have hL:lnk N W (N.fr l)=lnk N W (N.to l)+1:=by
  by_cases c:lnk N W (N.to l)=N.n
  ·rw[c,Int.emod_self]at t;lia
  ·rw[Int.emod_eq_of_lt (by lia) (by lia)]at t;exact t
 refine⟨?_,hL⟩;have e1:=Up (N:=N) (W:=W) (N.fr l);have e2:=Up (N:=N) (W:=W) (N.to l);rw[sc l hl]at h;have e3:(gn N W (N.fr l)-gn N W (N.to l)-ga l)*((N.n:Int)+1)=0:=by rw[xV,xV];lia
 rcases Int.mul_eq_zero.mp e3 with z|z<;>lia
theorem fall{rm' W':Nat->Int}(ok:N.Ok)(pot:N.Pot rm' W)(F:N.Fix rm' W')(le:∀u,u<=N.n->W' u<=W u)(hu:u<N.n)(full:∀l,l<N.q->N.fr l=u->W u=W (N.to l)+N.wo l->rm' l=0):W' u+1<=W u:=by
 obtain⟨l,h1,h2,h3,h4⟩:=F.att u hu;have h5:=pot l h1 h3;have h6:=le (N.to l) (ok.to l h1);rw[h2,if_neg (by lia)]at h5;by_cases e:W u=W (N.to l)+N.wo l
 ·have:=full l h1 h2 e;lia
 ·lia
end
def mate(l:Nat):Nat:=if l%2=0 then l+1 else l-1
theorem ZKj(l:Nat):mate (mate l)=l:=by
 unfold mate;by_cases h:l%2=0
 ·rw[if_pos h,if_neg (by lia)];lia
 ·rw[if_neg h,if_pos (by lia)];lia
theorem ZHz(l:Nat):mate l≠l:=by
 unfold mate
 split <;> lia
structure Lks.Mt (N:Lks):Prop where
 lt:∀l,l<N.q->mate l<N.q
 fr:∀l,l<N.q->N.fr (mate l)=N.to l
 to:∀l,l<N.q->N.to (mate l)=N.fr l
 wo:∀l,l<N.q->N.wo (mate l)= -2-N.wo l
theorem M6{x:Int}(h:i<xs.length):Ac (xs.set i x) k=if k=i then x else Ac xs k:=by
 unfold Ac;simp only[zD];by_cases e:k=i
 ·subst e;rw[qZ h,if_pos rfl]
  rfl
 ·rw[zw λz=>e z.symm,if_neg e]
structure LR where
 L:List Int
 R:List Int
variable{y:LR}
def LR.sa(N:Lks)(x:LR)(u l:Nat)(c:Int):LR:=
 ⟨(x.L.set u (Ac x.L u-c)).set (N.to l) (Ac (x.L.set u (Ac x.L u-c)) (N.to l)+c),(x.R.set l (Ac x.R l-c)).set (mate l) (Ac (x.R.set l (Ac x.R l-c)) (mate l)+c)⟩
structure LR.Ok (N:Lks) (x:LR):Prop where
 ll:x.L.length=N.n+1
 rl:x.R.length=N.q
 ln:∀u,u<=N.n->0<=Ac x.L u
 rn:∀l,l<N.q->0<=Ac x.R l
section
variable{N:Lks}{W:Nat->Int}{x:LR}
theorem O5(ok:N.Ok)(K:x.Ok N)(hl:l<N.q)(c:Int)(v:Nat):Ac (x.sa N (N.fr l) l c).L v=Ac x.L v-(if v=N.fr l then c else 0)+(if v=N.to l then c else 0):=by
 have h1:=ok.fr l hl;have h2:=ok.to l hl;have h3:=K.ll;have h4:=ok.ne l hl;unfold LR.sa;dsimp only;rw[M6 (by rw[qD];lia),M6 (by lia)];by_cases e1:v=N.to l
 ·rw[if_pos e1,if_neg (λz=>h4 z.symm),if_neg (λz=>h4 (z.symm.trans e1)),if_pos e1,e1];lia
 ·rw[if_neg e1,M6 (by lia)];by_cases e2:v=N.fr l
  ·rw[if_pos e2,if_pos e2,if_neg e1,e2];lia
  ·rw[if_neg e2,if_neg e2,if_neg e1];lia
theorem S6(mt:N.Mt)(K:x.Ok N)(hl:l<N.q)(u:Nat)(c:Int)(k:Nat):Ac (x.sa N u l c).R k=Ac x.R k-(if k=l then c else 0)+(if k=mate l then c else 0):=by
 have h1:=mt.lt l hl;have h3:=K.rl;have h4:=ZHz l;unfold LR.sa;dsimp only;rw[M6 (by rw[qD];lia),M6 (by lia)];by_cases e1:k=mate l
 ·rw[if_pos e1,if_neg h4,if_neg (λz=>h4 (e1.symm.trans z)),if_pos e1,e1];lia
 ·rw[if_neg e1,M6 (by lia)];by_cases e2:k=l
  ·rw[if_pos e2,if_pos e2,if_neg e1,e2];lia
  ·rw[if_neg e2,if_neg e2,if_neg e1];lia
theorem ZK2(ok:N.Ok)(mt:N.Mt)(K:x.Ok N)(hl:l<N.q)(h0:0<=c)(h1:c<=Ac x.L (N.fr l))(h2:c<=Ac x.R l):(x.sa N (N.fr l) l c).Ok N:=by
 refine⟨by unfold LR.sa;simp[K.ll],by unfold LR.sa;simp[K.rl],λv hv=>?_,λk hk=>?_⟩
 ·have:=K.ln v hv;rw[O5 ok K hl];by_cases e:v=N.fr l
  ·rw[<-e]at h1;rw[if_pos e]
   split <;> lia
  ·rw[if_neg e]
   split <;> lia
 ·have:=K.rn k hk;rw[S6 mt K hl];by_cases e:k=l
  ·rw[<-e]at h2;rw[if_pos e]
   split <;> lia
  ·rw[if_neg e]
   split <;> lia
def tight(N:Lks)(W:Nat->Int)(l:Nat):Prop:=W (N.fr l)=W (N.to l)+N.wo l
def Gain(N:Lks)(W:Nat->Int)(R0:Nat->Int)(x:LR):Prop:=∀l,l<N.q->0<Ac x.R l->0<R0 l∨tight N W (mate l)
theorem ZJY{R0:Nat->Int}(mt:N.Mt)(K:x.Ok N)(g:Gain N W R0 x)(hl:l<N.q)(ht:tight N W l)(u:Nat)(h0:0<=c):Gain N W R0 (x.sa N u l c):=λk hk h=>by
 rw[S6 mt K hl]at h;by_cases e:k=mate l
 ·refine .inr ?_;rw[e,ZKj];exact ht
 ·rw[if_neg e]at h;refine g k hk ?_
  split at h<;>lia
theorem ZGv(ok:N.Ok)(mt:N.Mt){R0:Nat->Int}(pot:N.Pot R0 W)(g:Gain N W R0 x):N.Pot (Ac x.R) W:=λl hl h=>by
 rcases g l hl h with z|z
 ·exact pot l hl z
 ·unfold tight at z;rw[mt.fr l hl,mt.to l hl,mt.wo l hl]at z
  split <;> lia
theorem ZAj(ok:N.Ok){rm π:Nat->Int}(pot:N.Pot rm π)(F:N.Fix rm W)(hz:π N.n=0)(le:∀u,u<=N.n->W u<=π u):N.Pot rm W:=λl hl h=>by
 by_cases e:N.fr l=N.n
 ·have h1:=pot l hl h;have h2:=le _ (ok.to l hl);have h3:=F.z;rw[e,if_pos rfl]at h1⊢;lia
 ·rw[if_neg e];have:=F.fix l hl h (by have:=ok.fr l hl;lia);lia
def LR.one(N:Lks)(W:Nat->Int)(x:LR)(u l:Nat):LR:=open Classical in if W u=W (N.to l)+N.wo l then x.sa N u l (min (Ac x.L u) (Ac x.R l))else x
def far(N:Lks)(W:Nat->Int)(x:LR):Int:=Aj N.n λu=>Ac x.L u*lnk N W u
structure Kp (N:Lks) (W R0:Nat->Int) (B:LR->Prop) (x:LR):Prop where
 ok:x.Ok N
 g:Gain N W R0 x
 b:B x
structure Snt (N:Lks) (W:Nat->Int) (A:Nat->Prop) (x y:LR):Prop where
 le:far N W y<=far N W x
 same:far N W y=far N W x->(∀u,Ac y.L u=Ac x.L u)/\(∀l,Ac y.R l=Ac x.R l)/\∀l,A l->tight N W l->Ac x.L (N.fr l)=0∨Ac x.R l=0
theorem Snt.refl(x:LR):Snt N W (λ_=>False) x x:=⟨qW _,λ_=>⟨λ_=>rfl,λ_=>rfl,λ_ h=>h.elim⟩⟩
theorem Snt.trans{A A':Nat->Prop}{x z:LR}(h:Snt N W A x y)(k:Snt N W A' y z):Snt N W (λl=>A l∨A' l) x z:=by
 have h1:=h.le;have h2:=k.le;refine⟨by lia,λe=>?_⟩;obtain⟨p1,p2,p3⟩:=h.same (by lia);obtain⟨q1,q2,q3⟩:=k.same (by lia);refine⟨λu=>(q1 u).trans (p1 u),λl=>(q2 l).trans (p2 l),λl hl ht=>?_⟩;rcases hl with hl|hl
 ·exact p3 l hl ht
 ·have:=q3 l hl ht;rw[p1,p2]at this;exact this
theorem Snt.imp{A A':Nat->Prop}{x:LR}(h:Snt N W A x y)(w:∀l,A' l->A l):Snt N W A' x y:=⟨h.le,λe=>let⟨p,q,r⟩:=h.same e;⟨p,q,λl hl=>r l (w l hl)⟩⟩
variable{rm ga R0:Nat->Int}{B:LR->Prop}
theorem ZAy(ok:N.Ok)(sc:N.Sc ga)(F:N.Fix rm W)(K:x.Ok N)(hl:l<N.q)(hf:N.fr l<N.n)(ht:tight N W l)(c:Int):far N W (x.sa N (N.fr l) l c)=far N W x-c:=by
 have e:∀(w:Nat),w<=N.n->lnk N W N.n=0->Aj N.n (λu=>if u=w then c*lnk N W u else 0)=c*lnk N W w:=λw hw hz=>by
  by_cases h:w<N.n
  ·exact Hv (x:=λu=>c*lnk N W u) h
  ·rw[show w=N.n by lia,hz,jH,Fb (g:=λ_=>0) λk hk=>if_neg (by lia),Hd]
 have hz:lnk N W N.n=0:=by
  unfold lnk;rw[F.z]
  rfl
 have h1:=e _ (ok.fr l hl) hz;have h2:=e _ (ok.to l hl) hz;have h3:=(ZFY ok sc F hl hf ht).2;have h4:far N W (x.sa N (N.fr l) l c)+Aj N.n (λu=>if u=N.fr l then c*lnk N W u else 0)=far N W x+Aj N.n (λu=>if u=N.to l then c*lnk N W u else 0):=by
  unfold far;rw[<-Fo,<-Fo];refine Fb λu _=>?_
  rw[O5 ok K hl,Int.add_mul,xV];by_cases e1:u=N.fr l
  ·rw[if_pos e1,if_pos e1]
   split <;> lia
  ·rw[if_neg e1,if_neg e1,Int.zero_mul]
   split <;> lia
 rw[h1,h2,h3,xX,Int.mul_one]at h4;lia
theorem ZFM(ok:N.Ok)(mt:N.Mt)(sc:N.Sc ga)(F:N.Fix rm W)(hB:∀(y:LR)(l:Nat)(c:Int),y.Ok N->l<N.q->B y->B (y.sa N (N.fr l) l c))(K:Kp N W R0 B x)(hl:l<N.q)(hf:N.fr l<N.n):Kp N W R0 B (x.one N W (N.fr l) l)/\Snt N W (λk=>k=l) x (x.one N W (N.fr l) l):=by
 unfold LR.one;have h1:=K.ok.ln _ (ok.fr l hl);have h2:=K.ok.rn l hl;split
 ·rename_i h;refine⟨⟨ZK2 ok mt K.ok hl (by lia) (by lia) (by lia),ZJY mt K.ok K.g hl h _ (by lia),hB x l _ K.ok hl K.b⟩,?_,λe=>?_⟩
  ·rw[ZAy ok sc F K.ok hl hf h];lia
  ·rw[ZAy ok sc F K.ok hl hf h]at e;have hc:min (Ac x.L (N.fr l)) (Ac x.R l)=0:=by lia
   refine⟨λu=>?_,λk=>?_,λk hk _=>?_⟩
   ·rw[O5 ok K.ok hl,hc]
    split <;> split <;> lia
   ·rw[S6 mt K.ok hl,hc]
    split <;> split <;> lia
   ·subst hk;lia
 ·rename_i h;exact⟨K,qW _,λ_=>⟨λ_=>rfl,λ_=>rfl,λk hk ht=>by subst hk;exact absurd ht h⟩⟩
end
def gaN(as:List Arc)(l:Nat):Int:=if l%2=0 then(Ba as (l/2)).ga else -(Ba as (l/2)).ga
def lkN(n:Nat)(as:List Arc):Lks where
 n:=n
 q:=2*as.length
 fr l:=if l%2=0 then(Ba as (l/2)).fr else(Ba as (l/2)).to
 to l:=if l%2=0 then(Ba as (l/2)).to else(Ba as (l/2)).fr
 wo l:=gaN as l*((n:Int)+1)-1
theorem Rp(h:l%2=0):(lkN n as).fr l=(Ba as (l/2)).fr/\(lkN n as).to l=(Ba as (l/2)).to/\gaN as l=(Ba as (l/2)).ga:=⟨if_pos h,if_pos h,if_pos h⟩
theorem V2(h:¬l%2=0):(lkN n as).fr l=(Ba as (l/2)).to/\(lkN n as).to l=(Ba as (l/2)).fr/\gaN as l= -(Ba as (l/2)).ga:=⟨if_neg h,if_neg h,if_neg h⟩
theorem Zn:(lkN n as).Sc (gaN as):=λ_ _=>rfl
theorem Ov(h:∀x∈as,ArcOk n x)(hn:n<=30):(lkN n as).Ok:=by
 have k:∀l,l<2*as.length->ArcOk n (Ba as (l/2)):=λl hl=>ArcOk.of h (by lia)
 have w:∀l,l<2*as.length-> -40000<=gaN as l*((n:Int)+1)-1/\gaN as l*((n:Int)+1)-1<=40000:=λl hl=>by
  have h1:=(k l hl).ga
  have h2: -1000<=gaN as l/\gaN as l<=1000:=by unfold gaN;split <;> lia
  have h3:=zL h2.1 (show 0<=(n:Int)+1 by lia);have h4:=zL h2.2 (show 0<=(n:Int)+1 by lia);lia
 refine⟨λl hl=>?_,λl hl=>?_,λl hl=>?_,λl hl=>(w l hl).1,λl hl=>(w l hl).2⟩ <;>
 ·have a1:=(k l hl).lt;have a2:=(k l hl).up;have a3:=(k l hl).le;show _;simp only[lkN]
  split <;> lia
theorem Va:(lkN n as).Mt:=by
 have e:∀l,(l%2=0->mate l%2≠0/\mate l/2=l/2)/\(l%2≠0->mate l%2=0/\mate l/2=l/2):=λl=>by
  unfold mate;refine⟨λh=>?_,λh=>?_⟩
  ·rw[if_pos h];lia
  ·rw[if_neg h];lia
 refine⟨λl hl=>?_,λl hl=>?_,λl hl=>?_,λl hl=>?_⟩
 ·have hl':l<2*as.length:=hl;show mate l<2*as.length;unfold mate
  split <;> lia
 all_goals
  simp only[lkN,gaN];by_cases h:l%2=0
  ·have:=(e l).1 h;rw[if_pos h,if_neg this.1,this.2]
   try (rw[Int.neg_mul];lia)
  ·have:=(e l).2 h;rw[if_neg h,if_pos this.1,this.2]
   try (rw[Int.neg_mul];lia)
def flo(x:LR)(i:Nat):Int:=Ac x.R (2*i+1)
noncomputable def Ii(wide:Int)(a:Arc):Int:=match a.mo with
 |none=>wide
 |some b=>b
structure Bal (n:Nat) (as:List Arc) (s:Nat->Int) (wide:Int) (x:LR):Prop where
 cap:∀i,i<as.length->Ac x.R (2*i)+Ac x.R (2*i+1)=Ii wide (Ba as i)
 bal:∀v,v<n->Ac x.L v=s v-ex (Ba as) as.length (flo x) v
theorem ZHw(ok:(lkN n as).Ok)(K:y.Ok (lkN n as))(hl:l<(lkN n as).q)(h:Bal n as s wide y):Bal n as s wide (y.sa (lkN n as) ((lkN n as).fr l) l c):=by
 have hl':l<2*as.length:=hl;have rr:=λk=>S6 Va K hl ((lkN n as).fr l) c k
 have hf:flo (y.sa (lkN n as) ((lkN n as).fr l) l c)=bump (flo y) (l/2) (if l%2=0 then c else -c):=by
  funext i;show Ac _ (2*i+1)=if i=l/2 then Ac y.R (2*i+1)+_ else Ac y.R (2*i+1)
  rw[rr];unfold mate;by_cases h1:l%2=0
  ·rw[if_pos h1,if_pos h1,if_neg (by lia)];by_cases h2:i=l/2
   ·rw[if_pos (by lia),if_pos h2];lia
   ·rw[if_neg (by lia),if_neg h2];lia
  ·rw[if_neg h1,if_neg h1];by_cases h2:i=l/2
   ·rw[if_pos (by lia),if_neg (by lia),if_pos h2];lia
   ·rw[if_neg (by lia),if_neg (by lia),if_neg h2];lia
 refine⟨λi hi=>?_,λv hv=>?_⟩
 ·have:=h.cap i hi;rw[rr,rr];unfold mate;by_cases h1:l%2=0
  ·rw[if_pos h1];by_cases h2:2*i=l
   ·rw[if_pos h2,if_neg (by lia),if_neg (by lia),if_pos (by lia)];lia
   ·rw[if_neg h2,if_neg (by lia),if_neg (by lia),if_neg (by lia)];lia
  ·rw[if_neg h1];by_cases h2:2*i+1=l
   ·rw[if_neg (by lia),if_pos (by lia),if_pos h2,if_neg (by lia)];lia
   ·rw[if_neg (by lia),if_neg (by lia),if_neg h2,if_neg (by lia)];lia
 ·rw[hf,ZLw (show l/2<as.length by lia),O5 ok K hl,h.bal v hv];by_cases h1:l%2=0
  ·obtain⟨f1,f2,_⟩:=Rp (n:=n) (as:=as) h1;rw[f1,f2,if_pos h1]
   by_cases e1:(Ba as (l/2)).fr=v<;>by_cases e2:(Ba as (l/2)).to=v<;>simp[e1,e2,eq_comm]<;>lia
  ·obtain⟨f1,f2,_⟩:=V2 (n:=n) (as:=as) h1;rw[f1,f2,if_neg h1]
   by_cases e1:(Ba as (l/2)).fr=v<;>by_cases e2:(Ba as (l/2)).to=v<;>simp[e1,e2,eq_comm]<;>lia
theorem Zo{k:Nat}:∀{n:Nat},k<=n->(∀v,v<n->0<=s v)->Aj k s<=Aj n s
 |0,hk,_=>by rw[show k=0 by lia];exact qW _
 | n+1,hk,h=>by
  by_cases e:k=n+1
  ·rw[e];exact qW _
  ·have h1:=Zo (n:=n) (k:=k) (by lia) λv hv=>h v (by lia)
   have h2:=h n (by lia);show _<=Aj n s+s n;lia
theorem ZAq(x:Int)(w:Nat):∀k:Nat,Aj k (λv=>if w=v then x else 0)=if w<k then x else 0
 |0=>by rw[if_neg (by lia)];rfl
 | k+1=>by
  show Aj k _+(if w=k then x else 0)=_;rw[ZAq x w k];by_cases e:w=k
  ·rw[if_neg (by lia),if_pos e,if_pos (by lia)];lia
  ·rw[if_neg e];by_cases e2:w<k
   ·rw[if_pos e2,if_pos (by lia)];lia
   ·rw[if_neg e2,if_neg (by lia)];lia
theorem ZMA(ha:∀i,i<m->(a i).fr<(a i).to/\(a i).fr<n)(nn:∀i,i<m->0<=f i)(sn:∀v,v<n->0<=s v)(h:∀v,v<n->ex a m f v<=s v)(hi:i<m):f i<=Aj n s:=by
 have hk:=(ha i hi).2;have e1:∀(q:Nat->Nat)(k:Nat),Aj k (λv=>Aj m λj=>if q j=v then f j else 0)=Aj m λj=>if q j<k then f j else 0:=λq k=>by rw[ZAV];exact Fb λj _=>ZAq (f j) (q j) k
 have e2:Aj ((a i).fr+1) (λv=>ex a m f v)+Aj m (λj=>if(a j).to<(a i).fr+1 then f j else 0)=Aj m λj=>if(a j).fr<(a i).fr+1 then f j else 0:=by
  rw[<-e1 (λj=>(a j).to),<-e1 (λj=>(a j).fr),<-Fo];refine Fb λv _=>?_
  unfold ex Cu inA;lia
 have e3:Aj m (λj=>if j=i then f j else 0)+Aj m (λj=>if(a j).to<(a i).fr+1 then f j else 0)<=Aj m λj=>if(a j).fr<(a i).fr+1 then f j else 0:=by
  rw[<-Fo];refine Dt λj hj=>?_
  have h1:=ha j hj;have h2:=nn j hj;by_cases e:j=i
  ·subst e;rw[if_pos rfl,if_neg (by lia),if_pos (by lia)];lia
  ·rw[if_neg e];by_cases e2:(a j).to<(a i).fr+1
   ·rw[if_pos e2,if_pos (by lia)];lia
   ·rw[if_neg e2]
    split <;> lia
 rw[Hv hi]at e3;have e4:Aj ((a i).fr+1) (λv=>ex a m f v)<=Aj ((a i).fr+1) s:=Dt λv hv=>h v (by lia)
 have e5:=Zo (s:=s) (k:=(a i).fr+1) (n:=n) (by lia) sn;lia
structure Netw (n:Nat) (as:List Arc) (s:Nat->Int) (wide:Int):Prop where
 n30:n<=30
 arc:∀x∈as,ArcOk n x
 way:∀k,k<n->∃i,i<as.length/\(Ba as i).fr=k/\(Ba as i).mo=vS
 sn:∀v,v<n->0<=s v
 wide:wide=Aj n s+1
section
variable{n:Nat}{as:List Arc}{s:Nat->Int}{wide:Int}{x:LR}
theorem ZBV(Z:Netw n as s wide)(K:x.Ok (lkN n as))(B:Bal n as s wide x)(hi:i<as.length)(h:∀b,(Ba as i).mo=vR b->flo x i<b):0<Ac x.R (2*i):=by
 have h1:=B.cap i hi;unfold Ii at h1;cases hm:(Ba as i).mo with
 |some b=>
  rw[hm]at h1;have:=h b hm;unfold flo at this;dsimp only at h1;lia
 |none=>
  rw[hm]at h1;have h2:=ZMA (n:=n) (m:=as.length) (a:=Ba as) (s:=s) (f:=flo x) (λj hj=>⟨(ArcOk.of Z.arc hj).up,(ArcOk.of Z.arc hj).lt⟩) (λj hj=>K.rn _ (by show 2*j+1<2*as.length;lia)) Z.sn (λv hv=>by have q1:=B.bal v hv;have q2:=K.ln v (by show v<=n;lia);lia) hi
  have h3:=Z.wide;unfold flo at h2;dsimp only at h1;lia
theorem ZDa(Z:Netw n as s wide)(K:x.Ok (lkN n as))(B:Bal n as s wide x):(lkN n as).Way (Ac x.R):=λu hu=>by
 obtain⟨i,h1,h2,h3⟩:=Z.way u hu;have h4:=(ArcOk.of Z.arc h1).up;refine⟨2*i,by show 2*i<2*as.length;lia,?_,?_,ZBV Z K B h1 λb hb=>by rw[h3]at hb;cases hb⟩
 ·simp only[lkN];rw[if_pos (by lia),show 2*i/2=i by lia];exact h2
 ·simp only[lkN];rw[if_pos (by lia),show 2*i/2=i by lia];lia
theorem ZGc{W:Nat->Int}(Z:Netw n as s wide)(K:x.Ok (lkN n as))(B:Bal n as s wide x)(F:(lkN n as).Fix (Ac x.R) W)(pot:(lkN n as).Pot (Ac x.R) W):Slack as.length (Ba as) (flo x) (gn (lkN n as) W):=by
 have ok:=Ov (n:=n) Z.arc Z.n30;refine⟨λi hi h=>?_,λi hi h=>?_⟩
 ·have:=ZCa ok Zn F pot (l:=2*i) (by show 2*i<2*as.length;lia) (ZBV Z K B hi h);obtain⟨f1,f2,f3⟩:=Rp (n:=n) (as:=as) (l:=2*i) (by lia);rw[f1,f2,f3,show 2*i/2=i by lia]at this;lia
 ·have:=ZCa ok Zn F pot (l:=2*i+1) (by show 2*i+1<2*as.length;lia) h;obtain⟨f1,f2,f3⟩:=V2 (n:=n) (as:=as) (l:=2*i+1) (by lia);rw[f1,f2,f3,show(2*i+1)/2=i by lia]at this;lia
theorem ZIs{rm:Nat->Int}(Z:Netw n as s wide)(h:∀i,i<as.length->rm (2*i+1)=0):(lkN n as).Pot rm (λu=>40000*((n:Int)-u)):=λl hl hr=>by
 have hl':l<2*as.length:=hl;have ok:=Ov (n:=n) Z.arc Z.n30;have hev:l%2=0:=by
  refine Decidable.byContradiction λz=>?_
  have:=h (l/2) (by lia);rw[show 2*(l/2)+1=l by lia]at this;lia
 have h1:=ok.wu l hl;have h2:=ArcOk.of Z.arc (i:=l/2) (by lia);have h3:=h2.lt;have h4:=h2.up;obtain⟨f1,f2,f3⟩:=Rp (n:=n) (as:=as) hev;have h5:¬(Ba as (l/2)).fr=(lkN n as).n:=by show¬(Ba as (l/2)).fr=n;lia
 dsimp only;rw[f1,f2,if_neg h5];lia
end
noncomputable def flds(n l f e w r:Nat):List (Str×D):=[("scale",.int ((n:Int)+1)),("left",.ref l),("links_from",.ref f),("ends",.ref e),("worths",.ref w),("rooms",.ref r)]
noncomputable def Aw(xs:List Nat):List D:=xs.map λ(i:Nat)=>D.int (i:Int)
structure Ad where
 o:Nat
 l:Nat
 f:Nat
 e:Nat
 w:Nat
 r:Nat
 fa:Nat->Nat
structure Ad.Ok (a:Ad) (n:Nat):Prop where
 lo:a.l≠a.o
 lf:a.l≠a.f
 le:a.l≠a.e
 lw:a.l≠a.w
 lr:a.l≠a.r
 la:∀u,u<=n->a.l≠a.fa u
 ro:a.r≠a.o
 rf:a.r≠a.f
 re:a.r≠a.e
 rw:a.r≠a.w
 ra:∀u,u<=n->a.r≠a.fa u
structure SN (N:Lks) (lk:Nat->List Nat) (a:Ad) (x:LR) (Γ:DH):Prop where
 ad:a.Ok N.n
 ho:Γ[a.o]?=vR (.ins "Sending" (flds N.n a.l a.f a.e a.w a.r))
 hl:Γ[a.l]?=vR (.lst (x.L.map D.int))
 hf:Γ[a.f]?=vR (.lst ((zJ (N.n+1)).map λu=>D.ref (a.fa u)))
 hfa:∀u,u<=N.n->Γ[a.fa u]?=vR (.lst (Aw (lk u)))
 he:Γ[a.e]?=vR (.lst (Aw ((zJ N.q).map N.to)))
 hw:Γ[a.w]?=vR (.lst (((zJ N.q).map N.wo).map D.int))
 hr:Γ[a.r]?=vR (.lst (x.R.map D.int))
theorem ZKX{xs:List Nat}(h:xs[i]?=vR k):atI (Aw xs) (i:Int)=vR (.int (k:Int)):=Gi (k:=i) (by lia) (by unfold Aw;rw[zC,h];rfl)
theorem ZIr{f:Nat->Nat}(h:l<q):atI (Aw ((zJ q).map f)) (l:Int)=vR (.int (f l:Int)):=ZKX (by rw[zC,qq h];rfl)
theorem ZHF(h:l<q):atI (((zJ q).map f).map D.int) (l:Int)=vR (.int (f l)):=Gi (k:=l) (by lia) (by rw[zC,zC,qq h];rfl)
theorem Q0(h:i<xs.length):atI (xs.map D.int) (i:Int)=vR (.int (Ac xs i)):=ZAv h
theorem Yy(h:i<P.length):atI (P.map moD) (i:Int)=vR (moD (gP P i)):=Gi (k:=i) (by lia) (by
 unfold gP;rw[zC,zY h,zD,zY h]
 rfl)
theorem J8{xs:List D}{i:Int}{v:D}(h:Γ[p]?=vR (.lst xs))(h2:atI xs i=vR v):Av (.ref p) (.int i) Γ=.ok v Γ:=by rw[T8,h];dsimp only;rw[h2]
theorem ZBJ{g:DG}{b:DS}{xs:List D}(h:G[i]?=vR (.lst xs))(hl:xs.length<=j):_D.forM i g b 0 j S G=.nx S G:=by
 show(match G[i]? with |some (.lst xs)=>if xs.length<=j then SR.nx S G else .bad|_=>.bad)=_
 rw[h];exact if_pos hl
theorem ZEG{g:DG}{b:DS}{xs:List D}{x:D}(h:G[i]?=vR (.lst xs))(hx:xs[j]?=vR x):_D.forM i g b (k+1) j S G=(g x S G).toS λS1 G1=>aft (b S1 G1) (_D.forM i g b k (j+1)):=by
 show(match G[i]? with |some (.lst xs)=>(match xs[j]? with |some x=>(g x S G).toS λS1 G1=>aft (b S1 G1) (_D.forM i g b k (j+1))|none=>.nx S G)|_=>.bad)=_
 rw[h];dsimp only;rw[hx]
section
variable{N:Lks}{lk:Nat->List Nat}{a:Ad}{x:LR}{Γ:DH}
theorem SN.scale(K:SN N lk a x Γ):Et "Sending" "scale" (.ref a.o) Γ=.ok (.int ((N.n:Int)+1)) Γ:=Ge K.ho rfl
theorem SN.left(K:SN N lk a x Γ):Et "Sending" "left" (.ref a.o) Γ=.ok (.ref a.l) Γ:=Ge K.ho rfl
theorem SN.from(K:SN N lk a x Γ):Et "Sending" "links_from" (.ref a.o) Γ=.ok (.ref a.f) Γ:=Ge K.ho rfl
theorem SN.ends(K:SN N lk a x Γ):Et "Sending" "ends" (.ref a.o) Γ=.ok (.ref a.e) Γ:=Ge K.ho rfl
theorem SN.worths(K:SN N lk a x Γ):Et "Sending" "worths" (.ref a.o) Γ=.ok (.ref a.w) Γ:=Ge K.ho rfl
theorem SN.rooms(K:SN N lk a x Γ):Et "Sending" "rooms" (.ref a.o) Γ=.ok (.ref a.r) Γ:=Ge K.ho rfl
theorem SN.meth(K:SN N lk a x Γ){m:Str}{t:DA}(hm:∀n l f e w r,(flds n l f e w r).lookup m=vS):J0 "Sending" m F t S (.ref a.o) Γ=(t S Γ).bind λds G2=>F (.ref a.o::ds) G2:=ZIv K.ho (hm _ _ _ _ _ _)
theorem SN.ixE(K:SN N lk a x Γ)(h:l<N.q):Av (.ref a.e) (.int (l:Int)) Γ=.ok (.int (N.to l:Int)) Γ:=J8 K.he (ZIr h)
theorem SN.ixW(K:SN N lk a x Γ)(h:l<N.q):Av (.ref a.w) (.int (l:Int)) Γ=.ok (.int (N.wo l)) Γ:=J8 K.hw (ZHF h)
theorem SN.ixR(K:SN N lk a x Γ)(o:x.Ok N)(h:l<N.q):Av (.ref a.r) (.int (l:Int)) Γ=.ok (.int (Ac x.R l)) Γ:=J8 K.hr (Q0 (by rw[o.rl];exact h))
theorem SN.ixL(K:SN N lk a x Γ)(o:x.Ok N)(h:u<=N.n):Av (.ref a.l) (.int (u:Int)) Γ=.ok (.int (Ac x.L u)) Γ:=J8 K.hl (Q0 (by rw[o.ll];lia))
theorem SN.ixF(K:SN N lk a x Γ)(h:u<=N.n):Av (.ref a.f) (.int (u:Int)) Γ=.ok (.ref (a.fa u)) Γ:=J8 K.hf (Gi (k:=u) (by lia) (by rw[zC,qq (by lia)];rfl))
theorem SN.itF(K:SN N lk a x Γ)(h:u<=N.n):Fy (.ref (a.fa u)) Γ=.ok (.mt (a.fa u)) Γ:=by simp[Fy,K.hfa u h]
theorem ZJX{w:Int}(K:SN N lk a x Γ):Pz [.ref a.o,.int w] Γ=.ok (.int (-w%((N.n:Int)+1))) Γ:=by
 have h1:=K.scale;have h2:0<(N.n:Int)+1:=by lia
 unfold Pz ZCl;rw[Bv];simp[h1,h2,Ej]
theorem ZKJ{w:Int}(hn:N.n<1000)(K:SN N lk a x Γ):Ky [.ref a.o,.int w] Γ=.ok (.int (-(-w/((N.n:Int)+1)))) Γ:=by have h1:=K.scale;have h2:Fl (.int (-w)) (.int ((N.n:Int)+1)) Γ=.ok (.int (-w/((N.n:Int)+1))) Γ:=divS (by lia) (by lia);unfold Ky ZB6;rw[Bv];simp[h1,h2,Ej]
theorem ZCL{y:Nat}(K:SN N lk a x Γ)(o:x.Ok N)(ok:N.Ok)(hl:LkOf N lk)(hy:Γ[y]?=vR (.lst (P.map moD)))(hP:P.length=N.n+1)(hu:u<=N.n){s1:Option D}:∀(ls pre:List Nat)(z:Option Int)(z4 z5 z6:Option D),lk u=pre++ls->
  ∃w4 w5 w6,forM (a.fa u) (gV 4) Qs ls.length pre.length [vR (.ref a.o),s1,vR (.ref y),vR (moD z),z4,z5,z6] Γ=.nx [vR (.ref a.o),s1,vR (.ref y),vR (moD (N.bw (Ac x.R) P ls z)),w4,w5,w6] Γ
 |[],pre,z,z4,z5,z6,h=>by refine⟨z4,z5,z6,?_⟩;exact ZBJ (K.hfa u hu) (by rw[h];simp[Aw])
 | l::ls,pre,z,z4,z5,z6,h=>by
  have hm:=(hl u l).mp (by rw[h];simp);have hlq:=hm.1;have h1:=K.ends;have h2:=K.rooms;have h3:=K.worths;have h4:=K.ixE hlq;have h5:=K.ixR o hlq;have h6:=K.ixW hlq;have h7:atI (P.map moD) (N.to l:Int)=vR (moD (gP P (N.to l))):=Yy (by have:=ok.to l hlq;lia);have h8:Av (.ref y) (.int (N.to l:Int)) Γ=.ok (moD (gP P (N.to l))) Γ:=J8 hy h7;have hb:∃w5 w6,Qs [vR (.ref a.o),s1,vR (.ref y),vR (moD z),vR (.int (l:Int)),z5,z6] Γ=.nx [vR (.ref a.o),s1,vR (.ref y),vR (moD (N.rl (Ac x.R) P z l)),vR (.int (l:Int)),w5,w6] Γ:=by
   have tA:sAs (dOp Av (dV 2) (dOp Av (Bk "Sending" (dV 0) "ends") (dV 4))) (gV 5) [vR (.ref a.o),s1,vR (.ref y),vR (moD z),vR (.int (l:Int)),z5,z6] Γ=.nx [vR (.ref a.o),s1,vR (.ref y),vR (moD z),vR (.int (l:Int)),vR (moD (gP P (N.to l))),z6] Γ:=by simp[h1,h4,h8]
   have v1:dOp Av (Bk "Sending" (dV 0) "rooms") (dV 4) [vR (.ref a.o),s1,vR (.ref y),vR (moD z),vR (.int (l:Int)),vR (moD (gP P (N.to l))),z6] Γ=.ok (.int (Ac x.R l)) Γ:=by simp[h2,h5]
   have v2:dV 5 [vR (.ref a.o),s1,vR (.ref y),vR (moD z),vR (.int (l:Int)),vR (moD (gP P (N.to l))),z6] Γ=.ok (moD (gP P (N.to l))) Γ:=by simp
   unfold Qs Lks.rl;rw[ZCf,tA,ZAm];clear tA;by_cases q1:0<Ac x.R l
   ·rw[if_pos q1];cases q2:gP P (N.to l)with
    |none=>
     rw[q2]at v1 v2;refine⟨vR (moD vS),z6,?_⟩;dsimp only;generalize dOp Av (Bk "Sending" (dV 0) "rooms") (dV 4)=E1 at*;generalize dV 5=E2 at*;generalize[vR (.ref a.o),s1,vR (.ref y),vR (moD z),vR (.int (l:Int)),vR (moD vS),z6]=S at*;simp[v1,v2,q1,moD,Cr]
    | some v=>
     rw[q2]at v1 v2;have tB:sAs (dOp Bb (dV 5) (dOp Av (Bk "Sending" (dV 0) "worths") (dV 4))) (gV 6) [vR (.ref a.o),s1,vR (.ref y),vR (moD z),vR (.int (l:Int)),vR (moD (vR v)),z6] Γ=.nx [vR (.ref a.o),s1,vR (.ref y),vR (moD z),vR (.int (l:Int)),vR (moD (vR v)),vR (.int (v+N.wo l))] Γ:=by simp[h3,h6,moD]
     refine⟨vR (moD (vR v)),vR (.int (v+N.wo l)),?_⟩;have tC:sIf (dOr (Bc (dOp Gm (dV 3) (dC .non))) (Bc (dOp Jj (dV 3) (dV 6)))) (sAs (dV 6) (gV 3)) sNx [vR (.ref a.o),s1,vR (.ref y),vR (moD z),vR (.int (l:Int)),vR (moD (vR v)),vR (.int (v+N.wo l))] Γ=.nx [vR (.ref a.o),s1,vR (.ref y),vR (moD (pick z (v+N.wo l))),vR (.int (l:Int)),vR (moD (vR v)),vR (.int (v+N.wo l))] Γ:=by
      cases z with
      |none=>simp[moD,Cr,pick]
      |some t=>by_cases q3:t<v+N.wo l<;>simp[moD,Cr,pick,q3]
     generalize sIf (dOr (Bc (dOp Gm (dV 3) (dC .non))) (Bc (dOp Jj (dV 3) (dV 6)))) (sAs (dV 6) (gV 3)) sNx=Z2 at*;generalize sAs (dOp Bb (dV 5) (dOp Av (Bk "Sending" (dV 0) "worths") (dV 4))) (gV 6)=Z1 at*;generalize dOp Av (Bk "Sending" (dV 0) "rooms") (dV 4)=E1 at*;generalize dV 5=E2 at*;generalize[vR (.ref a.o),s1,vR (.ref y),vR (moD z),vR (.int (l:Int)),vR (moD (vR v)),z6]=S at*
     simp[v1,v2,q1,moD,Cr,tB];exact tC
   ·rw[if_neg q1];refine⟨vR (moD (gP P (N.to l))),z6,?_⟩;generalize dOp Av (Bk "Sending" (dV 0) "rooms") (dV 4)=E1 at*;generalize[vR (.ref a.o),s1,vR (.ref y),vR (moD z),vR (.int (l:Int)),vR (moD (gP P (N.to l))),z6]=S at*;simp[v1,q1]
  obtain⟨w5,w6,hb⟩:=hb;obtain⟨v4,v5,v6,hL⟩:=ZCL K o ok hl hy hP hu (s1:=s1) ls (pre++[l]) (N.rl (Ac x.R) P z l) (vR (.int (l:Int))) w5 w6 (by rw[h];simp);refine⟨v4,v5,v6,?_⟩;have hx:(Aw (lk u))[pre.length]?=vR (.int (l:Int)):=by rw[h];simp[Aw]
  rw[qJ,jw]at hL;show forM (a.fa u) (gV 4) Qs (ls.length+1) pre.length _ Γ=_;rw[ZEG (K.hfa u hu) hx];simp only[Ff,R.Dn,qT,hb,Ea];exact hL
theorem ZJH{y:Nat}(K:SN N lk a x Γ)(o:x.Ok N)(ok:N.Ok)(hl:LkOf N lk)(hy:Γ[y]?=vR (.lst (P.map moD)))(hP:P.length=N.n+1)(hu:u<N.n):
  O3 [.ref a.o,.int (u:Int),.ref y] Γ=.ok (moD (N.bw (Ac x.R) P (lk u) (gP P u))) Γ:=by
 obtain⟨w4,w5,w6,hL⟩:=ZCL K o ok hl hy hP (u:=u) (by lia) (s1:=vR (.int (u:Int))) (lk u) [] (gP P u) vS vS vS rfl
 have h1:=K.from
 have h2:=K.ixF (u:=u) (by lia);have h3:=K.itF (u:=u) (by lia);have h4:Av (.ref y) (.int (u:Int)) Γ=.ok (moD (gP P u)) Γ:=J8 hy (Yy (by lia));have h5:=K.hfa u (by lia);have h6:(Aw (lk u)).length=(lk u).length:=by simp[Aw]
 unfold O3 ZEA;rw[Bv];simp[h1,h2,h3,h4,h5,h6]
 rw[show(0:Nat)=([]:List Nat).length from rfl,hL]
 simp[Ej]
end
theorem Qv(h:Γ[p]?=vR (.lst (xs.map D.int)))(hi:i<xs.length):G9 (.ref p) (.int (i:Int)) (.int z) Γ=.ok .non (Γ.set p (.lst ((xs.set i z).map D.int))):=by rw[Nk,h];dsimp only;rw[ZAb (by simpa using hi)];dsimp only;rw[List.map_set]
theorem Th(h:Γ[p]?=vR (.lst (xs.map D.int)))(hi:i<xs.length):ixL (.ref p) (.int (i:Int)) Γ=.ok (.int (Ac xs i)) Γ:=ZHR h (ZAv hi)
section
variable{N:Lks}{lk:Nat->List Nat}{a:Ad}{x:LR}{Γ:DH}
theorem SN.Yu(K:SN N lk a x Γ)(L:List Int):SN N lk a ⟨L,x.R⟩ (Γ.set a.l (.lst (L.map D.int))):=by
 have A:=K.ad;have hlt:a.l<Γ.length:=(zk.mp K.hl).1;refine⟨A,?_,qZ hlt,?_,λu hu=>?_,?_,?_,?_⟩
 ·rw[zw A.lo];exact K.ho
 ·rw[zw A.lf];exact K.hf
 ·rw[zw (A.la u hu)];exact K.hfa u hu
 ·rw[zw A.le];exact K.he
 ·rw[zw A.lw];exact K.hw
 ·rw[zw A.lr];exact K.hr
theorem SN.Ka(K:SN N lk a x Γ)(R:List Int):SN N lk a ⟨x.L,R⟩ (Γ.set a.r (.lst (R.map D.int))):=by
 have A:=K.ad;have hlt:a.r<Γ.length:=(zk.mp K.hr).1;refine⟨A,?_,?_,?_,λu hu=>?_,?_,?_,qZ hlt⟩
 ·rw[zw A.ro];exact K.ho
 ·rw[zw A.lr.symm];exact K.hl
 ·rw[zw A.rf];exact K.hf
 ·rw[zw (A.ra u hu)];exact K.hfa u hu
 ·rw[zw A.re];exact K.he
 ·rw[zw A.rw];exact K.hw
noncomputable def hs(Γ:DH)(a:Ad)(x:LR):DH:=(Γ.set a.l (.lst (x.L.map D.int))).set a.r (.lst (x.R.map D.int))
theorem SN.at(K:SN N lk a x Γ)(y:LR):SN N lk a y (hs Γ a y):=(K.Yu y.L).Ka y.R
theorem ZFa:(hs Γ a y).length=Γ.length:=by unfold hs;simp
theorem ZBI(A:a.l≠a.r)(y z:LR):hs (hs Γ a y) a z=hs Γ a z:=by unfold hs;rw[List.set_comm _ _ A.symm,List.set_set,List.set_set]
theorem ZCJ(h:Γ[p]?=vR o):Γ.set p o=Γ:=by
 refine j0 λi=>?_
 by_cases e:p=i
 ·subst e;rw[qZ (zk.mp h).1,h]
 ·rw[zw e]
theorem SN.hs(K:SN N lk a x Γ):hs Γ a x=Γ:=by unfold _W.hs;rw[ZCJ K.hl,ZCJ K.hr]
theorem ZGh(K:SN N lk a x Γ)(o:x.Ok N)(ok:N.Ok)(mt:N.Mt)(hl:l<N.q):O9 [.ref a.o,.int (N.fr l:Int),.int (l:Int),.int c] Γ=.ok .non (hs Γ a (x.sa N (N.fr l) l c)):=by
 have f1:=ok.fr l hl;have f2:=ok.to l hl;have f3:=mt.lt l hl;have o1:=o.ll;have o2:=o.rl;have K1:=K.Yu (x.L.set (N.fr l) (Ac x.L (N.fr l)-c));have K2:=K1.Yu (x.sa N (N.fr l) l c).L;have K3:=K2.Ka (x.R.set l (Ac x.R l-c));have p1:=Th K.hl (i:=N.fr l) (by lia);have p2:=Qv K.hl (i:=N.fr l) (z:=Ac x.L (N.fr l)-c) (by lia);have p3:=Th K1.hl (i:=N.to l) (by simp;lia);have p4:=Qv K1.hl (i:=N.to l) (z:=Ac (x.L.set (N.fr l) (Ac x.L (N.fr l)-c)) (N.to l)+c) (by simp;lia)
 have p5:=Th (xs:=x.R) K2.hr (i:=l) (by lia);have p6:=Qv (xs:=x.R) K2.hr (i:=l) (z:=Ac x.R l-c) (by lia);have p7:=Th K3.hr (i:=mate l) (by simp;lia);have p8:=Qv K3.hr (i:=mate l) (z:=Ac (x.R.set l (Ac x.R l-c)) (mate l)+c) (by simp;lia);have e1:=K.left;have e2:=K1.left;have e3:=K1.ends;have e4:=K1.ixE hl;have e5:=K2.rooms;have e6:=K3.rooms;have hm:(if(l:Int)%2=0 then D.int ((l:Int)+1)else D.int ((l:Int)-1))=D.int ((mate l:Nat):Int):=by
  unfold mate;by_cases h:l%2=0
  ·rw[if_pos (show(l:Int)%2=0 by lia),if_pos h];exact congrArg D.int (by lia)
  ·rw[if_neg (show¬(l:Int)%2=0 by lia),if_neg h];exact congrArg D.int (by lia)
 have fin:tidy Γ (.ok .non ((((Γ.set a.l (.lst ((x.L.set (N.fr l) (Ac x.L (N.fr l)-c)).map D.int))).set a.l (.lst ((x.sa N (N.fr l) l c).L.map D.int))).set a.r (.lst ((x.R.set l (Ac x.R l-c)).map D.int))).set a.r (.lst ((x.sa N (N.fr l) l c).R.map D.int))))=.ok .non (hs Γ a (x.sa N (N.fr l) l c)):=by rw[R8 (by simp) rfl];unfold hs;rw[List.set_set,List.set_set]
 have q4:G9 (.ref a.l) (.int (N.to l:Int)) (.int (Ac (x.L.set (N.fr l) (Ac x.L (N.fr l)-c)) (N.to l)+c)) (Γ.set a.l (.lst ((x.L.set (N.fr l) (Ac x.L (N.fr l)-c)).map D.int)))=.ok .non ((Γ.set a.l (.lst ((x.L.set (N.fr l) (Ac x.L (N.fr l)-c)).map D.int))).set a.l (.lst ((x.sa N (N.fr l) l c).L.map D.int))):=p4;have q8:G9 (.ref a.r) (.int (mate l:Int)) (.int (Ac (x.R.set l (Ac x.R l-c)) (mate l)+c)) (((Γ.set a.l (.lst ((x.L.set (N.fr l) (Ac x.L (N.fr l)-c)).map D.int))).set a.l (.lst ((x.sa N (N.fr l) l c).L.map D.int))).set a.r (.lst ((x.R.set l (Ac x.R l-c)).map D.int)))=.ok .non ((((Γ.set a.l (.lst ((x.L.set (N.fr l) (Ac x.L (N.fr l)-c)).map D.int))).set a.l (.lst ((x.sa N (N.fr l) l c).L.map D.int))).set a.r (.lst ((x.R.set l (Ac x.R l-c)).map D.int))).set a.r (.lst ((x.sa N (N.fr l) l c).R.map D.int))):=p8
 clear p4 p8 K K1 K2 K3;generalize hs Γ a (x.sa N (N.fr l) l c)=Γ9 at*;generalize Γ.set a.l (.lst ((x.L.set (N.fr l) (Ac x.L (N.fr l)-c)).map D.int))=Γ1 at*;generalize Γ1.set a.l (.lst ((x.sa N (N.fr l) l c).L.map D.int))=Γ2 at*;generalize Γ2.set a.r (.lst ((x.R.set l (Ac x.R l-c)).map D.int))=Γ3 at*;generalize Γ3.set a.r (.lst ((x.sa N (N.fr l) l c).R.map D.int))=Γ4 at*;generalize Ac (x.L.set (N.fr l) (Ac x.L (N.fr l)-c)) (N.to l)=i1 at*
 generalize Ac (x.R.set l (Ac x.R l-c)) (mate l)=i2 at*;unfold O9 ZDC;rw[Bv];simp[-Nk,e1,e2,e3,e4,e5,e6,p1,p2,p3,q4,p5,p6,p7,q8,hm,fin]
end
theorem ZGV{ks:List Int}(h:1<=ks.length):∃us:List Nat,Eu ks=us.map (λ(i:Nat)=>D.int (i:Int))/\us.Perm (zJ ks.length):=by
 unfold Eu;by_cases h2:ks.length<2
 ·rw[if_pos h2];refine⟨zJ ks.length,?_,List.Perm.refl _⟩;unfold Bd;refine qL λi _=>?_
  rw[Int.zero_add]
 ·rw[if_neg h2];have hp:(Hl (ltK ks.reverse) (PySem.W.kas_sort ks.length)).toList.Perm (zJ ks.length):=by have:=Array.perm_iff_toList_perm.mp (W9 (lt:=ltK ks.reverse) (Zv h)).2;simpa using this
  generalize hq:(Hl (ltK ks.reverse) (PySem.W.kas_sort ks.length)).toList=p at*;generalize ks.length=n at*;refine⟨(p.map λi=>n-1-i).reverse,?_,?_⟩
  ·rw[List.map_reverse,qY]
   congr 1
   refine qL λi hi=>?_
   have hi':i<n:=qX.mp (hp.mem_iff.mp hi);have hl:(Bd 0 n).length=n:=by unfold Bd;simp
   rw[zD,List.getElem?_reverse (by rw[hl];exact hi'),hl];unfold Bd;rw[zC,qq (by lia)];show D.int (0+((n-1-i:Nat):Int))=_;rw[Int.zero_add]
   rfl
  ·refine(List.reverse_perm _).trans ((hp.map _).trans ?_);have:(zJ n).map (λi=>n-1-i)=(zJ n).reverse:=by
    refine qO (by simp) λi h1 h2=>?_
    simp
   rw[this];exact List.reverse_perm _
theorem ZLQ{C m:Str}{tn:DA}{caps:List Nat}{te:DE}{j:Int}{ks:List Int}(h1:tn S G=.ok [.int j] G1)(h2:1<=j/\j<64)(h3:DO.tab C m∈G1)(h4:Gj te caps S j.toNat 0 G1=.ok ks G2):Sq C m tn caps te S G=.ok (.ref G2.length) (G2++[.lst (Eu ks)]):=by unfold Sq;rw[h1,R.Jf];dsimp only;rw[if_pos ⟨h2,h3⟩,h4,R.Jf]
section
variable{N:Lks}{lk:Nat->List Nat}{a:Ad}{x:LR}{Γ:DH}{Wl:List Int}
theorem ZJK(K0:SN N lk a x Γ)(o:x.Ok N)(ok:N.Ok)(mt:N.Mt)(hW:Wl.length=N.n+1)(hl:l<N.q){s2:Option D}:Qc [vR (.ref a.o),vR (.fl (Wl.map D.int)),s2,vR (.int (N.fr l:Int)),vR (.int (l:Int))] Γ=.nx [vR (.ref a.o),vR (.fl (Wl.map D.int)),s2,vR (.int (N.fr l:Int)),vR (.int (l:Int))] (hs Γ a (x.one N (Ac Wl) (N.fr l) l)):=by
 have h1:=Q0 (xs:=Wl) (i:=N.fr l) (by have:=ok.fr l hl;lia);have h2:=Q0 (xs:=Wl) (i:=N.to l) (by have:=ok.to l hl;lia);have e1:=K0.ends;have e2:=K0.ixE hl;have e3:=K0.worths;have e4:=K0.ixW hl;unfold Qc LR.one;by_cases c:Ac Wl (N.fr l)=Ac Wl (N.to l)+N.wo l
 ·have e5:=K0.left;have e6:=K0.ixL o (ok.fr l hl);have e7:=K0.rooms;have e8:=K0.ixR o hl;have e9:=λ(t:DA)(S:DSt)=>K0.meth (m:="send_along") (F:=O9) (t:=t) (S:=S) λ_ _ _ _ _ _=>rfl
  have ea:=ZGh K0 o ok mt hl (c:=min (Ac x.L (N.fr l)) (Ac x.R l));rw[if_pos c];generalize Wl.map D.int=Z at*;generalize hs Γ a _=Γ9 at*;simp[h1,h2,e1,e2,e3,e4,e5,e6,e7,e8,e9,ea,c]
 ·rw[if_neg c,K0.hs];generalize Wl.map D.int=Z at*;simp[h1,h2,e1,e2,e3,e4,c]
variable{rm ga R0:Nat->Int}{B:LR->Prop}
theorem ZB7(K0:SN N lk a x Γ)(ok:N.Ok)(mt:N.Mt)(sc:N.Sc ga)(F:N.Fix rm (Ac Wl))(hl:LkOf N lk)(hB:∀(y:LR)(l:Nat)(c:Int),y.Ok N->l<N.q->B y->B (y.sa N (N.fr l) l c))(hW:Wl.length=N.n+1)(hu:u<N.n){s2:Option D}:∀(ls pre:List Nat)(y:LR)(z4:Option D),lk u=pre++ls->Kp N (Ac Wl) R0 B y->
  ∃y' w4,_D.forM (a.fa u) (gV 4) Qc ls.length pre.length [vR (.ref a.o),vR (.fl (Wl.map D.int)),s2,vR (.int (u:Int)),z4] (hs Γ a y)=.nx [vR (.ref a.o),vR (.fl (Wl.map D.int)),s2,vR (.int (u:Int)),w4] (hs Γ a y')/\Kp N (Ac Wl) R0 B y'/\Snt N (Ac Wl) (λl=>l∈ls) y y'
 |[],pre,y,z4,h,k=>⟨y,z4,ZBJ ((K0.at y).hfa u (by lia)) (by rw[h];simp[Aw]),k,(Snt.refl y).imp λ_ h=>by cases h⟩
 |l::ls,pre,y,z4,h,k=>by
  have hm:=(hl u l).mp (by rw[h];simp);have hfu:=hm.2;obtain⟨k1,s1⟩:=ZFM ok mt sc F hB k hm.1 (by lia);have hr:=ZJK (K0.at y) k.ok ok mt hW hm.1 (s2:=s2);rw[ZBI K0.ad.lr,hfu]at hr;rw[hfu]at k1 s1;obtain⟨y',w4,hL,k2,s3⟩:=ZB7 K0 ok mt sc F hl hB hW hu (s2:=s2) ls (pre++[l]) (y.one N (Ac Wl) u l) (vR (.int (l:Int))) (by rw[h];simp) k1;refine⟨y',w4,?_,k2,(s1.trans s3).imp λj hj=>by simpa using hj⟩
  have hx:(Aw (lk u))[pre.length]?=vR (.int (l:Int)):=by rw[h];simp[Aw]
  rw[qJ,jw]at hL;show _D.forM (a.fa u) (gV 4) Qc (ls.length+1) pre.length _ _=_;rw[ZEG ((K0.at y).hfa u (by lia)) hx];simp only[Ff,R.Dn,qT,hr,Ea];exact hL
theorem ZDd(K0:SN N lk a x Γ)(ok:N.Ok)(mt:N.Mt)(sc:N.Sc ga)(F:N.Fix rm (Ac Wl))(hl:LkOf N lk)(hB:∀(y:LR)(l:Nat)(c:Int),y.Ok N->l<N.q->B y->B (y.sa N (N.fr l) l c))(hW:Wl.length=N.n+1){s2:Option D}:∀(us:List Nat)(y:LR)(z3 z4:Option D),(∀u∈us,u<N.n)->Kp N (Ac Wl) R0 B y->
  ∃y' w3 w4,Bt (gV 3) Rz (us.map λ(i:Nat)=>D.int (i:Int)) [vR (.ref a.o),vR (.fl (Wl.map D.int)),s2,z3,z4] (hs Γ a y)=.nx [vR (.ref a.o),vR (.fl (Wl.map D.int)),s2,w3,w4] (hs Γ a y')/\Kp N (Ac Wl) R0 B y'/\Snt N (Ac Wl) (λl=>l<N.q/\N.fr l∈us) y y'
 |[],y,z3,z4,h,k=>⟨y,z3,z4,rfl,k,(Snt.refl y).imp λ_ h=>by cases h.2⟩
 | u::us,y,z3,z4,h,k=>by
  have hu:=h u (by simp);obtain⟨y1,w4,hL,k1,s1⟩:=ZB7 K0 ok mt sc F hl hB hW hu (s2:=s2) (lk u) [] y z4 rfl k
  have e1:=(K0.at y).from
  have e2:=(K0.at y).ixF (u:=u) (by lia);have e3:=(K0.at y).itF (u:=u) (by lia);have e4:=(K0.at y).hfa u (by lia);have e5:(Aw (lk u)).length=(lk u).length:=by simp[Aw]
  have hb:Rz [vR (.ref a.o),vR (.fl (Wl.map D.int)),s2,vR (.int (u:Int)),z4] (hs Γ a y)=.nx [vR (.ref a.o),vR (.fl (Wl.map D.int)),s2,vR (.int (u:Int)),w4] (hs Γ a y1):=by rw[<-hL];generalize hs Γ a y=Γ9 at*;generalize Wl.map D.int=Z at*;unfold Rz;simp[e1,e2,e3,e4,e5]
  obtain⟨y',v3,v4,hL',k2,s2'⟩:=ZDd K0 ok mt sc F hl hB hW (s2:=s2) us y1 (vR (.int (u:Int))) w4 (λv hv=>h v (by simp[hv])) k1;refine⟨y',v3,v4,?_,k2,(s1.trans s2').imp λl hl'=>?_⟩
  ·rw[zA,Hc];simp only[Ff,R.Dn,qT,hb,Ea];exact hL'
  ·rcases zq.mp hl'.2 with e|e
   ·exact .inl ((hl u l).mpr ⟨hl'.1,e⟩)
   ·exact .inr ⟨hl'.1,e⟩
theorem ZDx(K:SN N lk a x Γ)(hW:Wl.length=N.n+1){s2 s3 s4:Option D}:∀(k i:Nat),i+k<=N.n->Gj Ua [0,1] [vR (.ref a.o),vR (.fl (Wl.map D.int)),s2,s3,s4] k i Γ=.ok ((List.range' i k).map λj=> -Ac Wl j%((N.n:Int)+1)) Γ
 |0,i,_=>rfl
 |k+1,i,h=>by
  have h1:=Q0 (xs:=Wl) (i:=i) (by lia);have h2:=ZJX (w:=Ac Wl i) K;have h3:=λ(t:DA)(S:DSt)=>K.meth (m:="links_of") (F:=Pz) (t:=t) (S:=S) λ_ _ _ _ _ _=>rfl
  have hb:Ua (I9 [0,1] (.int (i:Int)) [vR (.ref a.o),vR (.fl (Wl.map D.int)),s2,s3,s4]) Γ=.ok (.int (-Ac Wl i%((N.n:Int)+1))) Γ:=by generalize Wl.map D.int=Z at*;unfold Ua I9;simp[h1,h2,h3]
  unfold Gj;rw[hb];simp only[R.Jf];rw[ZDx K hW k (i+1) (by lia)];rw[R.Jf,List.range'_succ,zA]
theorem ZIY(K:SN N lk a x Γ)(hT:DO.tab "Sending" "send_by"∈Γ)(n1:1<=N.n)(n60:N.n<=60)(ok:N.Ok)(mt:N.Mt)(sc:N.Sc ga)(F:N.Fix rm (Ac Wl))(hl:LkOf N lk)(hB:∀(y:LR)(l:Nat)(c:Int),y.Ok N->l<N.q->B y->B (y.sa N (N.fr l) l c))(hW:Wl.length=N.n+1)(k:Kp N (Ac Wl) R0 B x):
  ∃y,Pk [.ref a.o,.fl (Wl.map D.int)] Γ=.ok .non (hs Γ a y)/\Kp N (Ac Wl) R0 B y/\Snt N (Ac Wl) (λl=>l<N.q/\N.fr l<N.n) x y:=by
 have hk:=ZDx K hW (s2:=vS) (s3:=vS) (s4:=vS) N.n 0 (by lia);generalize hks:((List.range' 0 N.n).map λj=> -Ac Wl j%((N.n:Int)+1))=ks at*;have hkl:ks.length=N.n:=by rw[<-hks];simp
 obtain⟨us,hu,hp⟩:=ZGV (ks:=ks) (by lia);rw[hkl]at hp;obtain⟨y,w3,w4,hL,k1,s1⟩:=ZDd K ok mt sc F hl hB hW (s2:=vR (.fl (Eu ks))) us x vS vS (λu h=>qX.mp (hp.mem_iff.mp h)) k;rw[K.hs,<-hu]at hL;refine⟨y,?_,k1,s1.imp λl h=>⟨h.1,hp.mem_iff.mpr (qX.mpr h.2)⟩⟩;have fz:freeze Γ (.ok (.ref Γ.length) (Γ++[.lst (Eu ks)]))=.ok (.fl (Eu ks)) Γ:=Cd (by rw[hu];exact La λ_ _=>rfl)
 have td:tidy Γ (.ok .non (hs Γ a y))=.ok .non (hs Γ a y):=R8 ZFa rfl;have hn:(Wl.map D.int).length=N.n+1:=by simp[hW]
 have c1:(1:Int)<=(N.n:Int):=by lia
 have c2:(N.n:Int)<64:=by lia
 have hj:((N.n:Int)).toNat=N.n:=by lia
 have hS:=ZLQ (C:="Sending") (m:="send_by") (tn:=Ab (dOp Dq (dFn Dr (Ab (dV 1) Ag)) (dC (.int 1))) Ag) (S:=[vR (.ref a.o),vR (.fl (Wl.map D.int)),vS,vS,vS]) (G:=Γ) (j:=(N.n:Int)) (by simp[hn]) ⟨c1,c2⟩ hT (by rw[hj];exact hk);generalize Wl.map D.int=Z at*;generalize hs Γ a y=Γ9 at*;generalize Eu ks=Y at*;unfold Pk ZBf;rw[Bv];simp[hS,fz,hL,td]
end
section
variable{N:Lks}{lk:Nat->List Nat}{a:Ad}{x:LR}{Γ:DH}
theorem SN.app(K:SN N lk a x Γ)(T:DH):SN N lk a x (Γ++T):=by
 have g:∀{p:Nat}{o:DO},Γ[p]?=vR o->(Γ++T)[p]?=vR o:=λ{p o}h=>by rw[zG (zk.mp h).1];exact h
 exact⟨K.ad,g K.ho,g K.hl,g K.hf,λu hu=>g (K.hfa u hu),g K.he,g K.hw,g K.hr⟩
theorem ZI1{p q:Option Int}:Hn (moD p) (moD q) G=.ok (.bl (!decide (p=q))) G:=by cases p<;>cases q<;>first|rfl|simp[moD]
theorem Pq:(Γ++[o])[Γ.length]?=vR o:=by simp
theorem ZKx{r:Option Int}(h:u<P.length):G9 (.ref Γ.length) (.int (u:Int)) (moD r) (Γ++[.lst (P.map moD)])=.ok .non (Γ++[.lst ((P.set u r).map moD)]):=by
 rw[Nk,Pq];dsimp only;rw[ZAb (by simpa using h)];dsimp only;rw[List.map_set,Lg]
 rfl
theorem ZJA(K:SN N lk a x Γ)(o:x.Ok N)(ok:N.Ok)(hl:LkOf N lk)(hP:P.length=N.n+1)(hu:u<N.n){d:Bool}{z4:Option D}:∃w4,O4 [vR (.ref a.o),vR (.ref Γ.length),vR (.bl d),vR (.int (u:Int)),z4] (Γ++[.lst (P.map moD)])=
  .nx [vR (.ref a.o),vR (.ref Γ.length),vR (.bl (d&&decide (N.bw (Ac x.R) P (lk u) (gP P u)=gP P u))),vR (.int (u:Int)),w4] (Γ++[.lst ((P.set u (N.bw (Ac x.R) P (lk u) (gP P u))).map moD)]):=by
 have K1:=K.app [.lst (P.map moD)];have h1:=ZJH K1 o ok hl (y:=Γ.length) Pq hP hu;have h2:=λ(t:DA)(S:DSt)=>K1.meth (m:="best_way") (F:=O3) (t:=t) (S:=S) λ_ _ _ _ _ _=>rfl
 have h3:Av (.ref Γ.length) (.int (u:Int)) (Γ++[.lst (P.map moD)])=.ok (moD (gP P u)) (Γ++[.lst (P.map moD)]):=J8 Pq (Yy (by lia));have h4:=ZKx (Γ:=Γ) (P:=P) (u:=u) (r:=N.bw (Ac x.R) P (lk u) (gP P u)) (by lia);have h5:=ZI1 (p:=N.bw (Ac x.R) P (lk u) (gP P u)) (q:=gP P u) (G:=Γ++[.lst (P.map moD)]);by_cases c:N.bw (Ac x.R) P (lk u) (gP P u)=gP P u
 ·rw[set_same c (by lia),decide_eq_true c,Bool.and_true];rw[decide_eq_true c]at h5;generalize Γ++[.lst (P.map moD)]=Γ1 at*;refine⟨vR (moD (N.bw (Ac x.R) P (lk u) (gP P u))),?_⟩;unfold O4;simp[-T8,h1,h2,h3,h5]
 ·rw[decide_eq_false c,Bool.and_false];rw[decide_eq_false c]at h5;generalize Γ++[.lst (P.map moD)]=Γ1 at*;generalize Γ++[.lst ((P.set u (N.bw (Ac x.R) P (lk u) (gP P u))).map moD)]=Γ2 at*;refine⟨vR (moD (N.bw (Ac x.R) P (lk u) (gP P u))),?_⟩;unfold O4;simp[-Nk,-T8,h1,h2,h3,h4,h5]
theorem ZD0(K:SN N lk a x Γ)(o:x.Ok N)(ok:N.Ok)(hl:LkOf N lk):∀(k:Nat)(P:List (Option Int))(d:Bool)(z3 z4:Option D),P.length=N.n+1->k<=N.n->∃w3 w4,Bt (gV 3) O4 (Iu ((k:Int)-1) k) [vR (.ref a.o),vR (.ref Γ.length),vR (.bl d),z3,z4] (Γ++[.lst (P.map moD)])=
  .nx [vR (.ref a.o),vR (.ref Γ.length),vR (.bl (d&&N.still (Ac x.R) lk k P)),w3,w4] (Γ++[.lst ((N.dn (Ac x.R) lk k P).map moD)])
 |0,P,d,z3,z4,hP,_=>⟨z3,z4,by simp[ZIb,Bt,Lks.still,Lks.dn]⟩
 |k+1,P,d,z3,z4,hP,hk=>by
  obtain⟨w4,h1⟩:=ZJA K o ok hl hP (u:=k) (by lia) (d:=d) (z4:=z4);obtain⟨v3,v4,h2⟩:=ZD0 K o ok hl k (P.set k (N.bw (Ac x.R) P (lk k) (gP P k))) (d&&decide (N.bw (Ac x.R) P (lk k) (gP P k)=gP P k)) (vR (.int (k:Int))) w4 (by simp[hP]) (by lia);refine⟨v3,v4,?_⟩;have e:((k+1:Nat):Int)-1=(k:Int):=by lia
  rw[e,ZLo,Hc];simp only[Ff,R.Dn,qT,h1,Ea];rw[h2,Bool.and_assoc]
  rfl
variable{π:Nat->Int}
theorem ZBh(K:SN N lk a x Γ)(o:x.Ok N)(ok:N.Ok)(hl:LkOf N lk)(hn:N.n<1000)(way:N.Way (Ac x.R))(pot:N.Pot (Ac x.R) π)(hπ:∀u,u<N.n-> -(40000*(N.n:Int))<=π u):∀(fu:Nat)(P:List (Option Int))(z3 z4:Option D),WV N (Ac x.R) π P->Aj N.n (msP N π P)<fu->
  ∃P' w3 w4,sWh M9 T6 (fu+1) [vR (.ref a.o),vR (.ref Γ.length),vR (.bl vU),z3,z4] (Γ++[.lst (P.map moD)])=.nx [vR (.ref a.o),vR (.ref Γ.length),vR (.bl vT),w3,w4] (Γ++[.lst (P'.map moD)])/\
   WV N (Ac x.R) π P'/\(∀v,v<=N.n->lowP N P' v)/\∀u,u<N.n->N.bw (Ac x.R) P' (lk u) (gP P' u)=gP P' u
 |0,P,z3,z4,V,h=>by have:=ZHc V hπ;lia
 | fu+1,P,z3,z4,V,h=>by
  obtain⟨r1,r2,r3,r4⟩:=ZCQ ok hl way pot N.n V (zK _) λv h1 h2=>⟨0,by rw[show v=N.n by lia];exact V.z,by lia⟩
  obtain⟨w3,w4,hL⟩:=ZD0 K o ok hl N.n P vT z3 z4 V.len (zK _);rw[Bool.true_and]at hL;have hlen:((P.map moD).length:Int)=(N.n:Int)+1:=by simp[V.len]
  have i1:inR ((N.n:Int)-1):=⟨by lia,by lia⟩;have i2:inR (-1:Int):=⟨by lia,by lia⟩;have hd:((N.n:Int)-1-(-1)).toNat=N.n:=by lia
  have hlr:Dr [.ref Γ.length] (Γ++[.lst (P.map moD)])=.ok (.int ((N.n:Int)+1)) (Γ++[.lst (P.map moD)]):=by rw[Qy,Pq];dsimp only;rw[hlen]
  have hr3:=ZCX (G:=Γ++[.lst (P.map moD)]) i1 i2;rw[hd]at hr3;have hb:T6 [vR (.ref a.o),vR (.ref Γ.length),vR (.bl vU),z3,z4] (Γ++[.lst (P.map moD)])=.nx [vR (.ref a.o),vR (.ref Γ.length),vR (.bl (N.still (Ac x.R) lk N.n P)),w3,w4] (Γ++[.lst ((N.dn (Ac x.R) lk N.n P).map moD)]):=by
   have e:(N.n:Int)+1-2=(N.n:Int)-1:=by lia
   generalize Γ++[.lst (P.map moD)]=Γ1 at*;unfold T6;simp[-Qy,-ZCX,hlr,e,hr3,hL]
  have ht:M9 [vR (.ref a.o),vR (.ref Γ.length),vR (.bl vU),z3,z4] (Γ++[.lst (P.map moD)])=.ok vT (Γ++[.lst (P.map moD)]):=by unfold M9;simp
  cases hst:N.still (Ac x.R) lk N.n P with
  |true=>
   obtain⟨q1,q2⟩:=r3 hst;rw[q1]at r1 r2 hb;rw[hst]at hb;refine⟨P,w3,w4,?_,r1,r2,q2⟩;have ht2:M9 [vR (.ref a.o),vR (.ref Γ.length),vR (.bl vT),w3,w4] (Γ++[.lst (P.map moD)])=.ok vU (Γ++[.lst (P.map moD)]):=by unfold M9;simp
   unfold sWh;rw[ht];simp only[R.Dn,if_true,hb,Ea];unfold sWh;rw[ht2];simp
  |false=>
   rw[hst]at hb r4;rw[if_neg (by decide)]at r4;obtain⟨P',v3,v4,hL',k1,k2,k3⟩:=ZBh K o ok hl hn way pot hπ fu (N.dn (Ac x.R) lk N.n P) w3 w4 r1 (by lia);refine⟨P',v3,v4,?_,k1,k2,k3⟩;unfold sWh;rw[ht];simp only[R.Dn,if_true,hb,Ea];exact hL'
def topW(N:Lks)(π:Nat->Int):Prop:=∀u,u<N.n-> -(40000*(N.n:Int))<=π u/\π u<=40000*(N.n:Int)
theorem ZKw(t:topW N π)(V:WV N (Ac x.R) π P)(h0:∀u,u<N.n->gP P u=vS)(hn:N.n<=60):Aj N.n (msP N π P)<1000000000:=by
 have h:∀u,u<N.n->msP N π P u<=4800001:=λu hu=>by have:=(t u hu).2;unfold msP;rw[h0 u hu];dsimp only;lia
 have h1:∀k:Nat,Aj k (λ_=>(4800001:Int))=4800001*k:=λk=>by
  induction k with
  |zero=>rfl
  |succ k ih=>
   show Aj k _+4800001=_;rw[ih];lia
 have:=Dt h;rw[h1]at this;lia
theorem ZBs(K:SN N lk a x Γ)(o:x.Ok N)(ok:N.Ok)(hl:LkOf N lk)(hn:N.n<=60)(way:N.Way (Ac x.R))(pot:N.Pot (Ac x.R) π)(hz:π N.n=0)(t:topW N π):
  ∃Wl:List Int,Wl.length=N.n+1/\Iw [.ref a.o] Γ=.ok (.ref Γ.length) (Γ++[.lst (Wl.map D.int)])/\N.Fix (Ac x.R) (Ac Wl)/\(∀u,u<=N.n->Ac Wl u<=π u):=by
 have gn:∀u,gP (zv N.n (vS:Option Int)++[vR 0]) u=if u=N.n then vR 0 else vS:=λu=>by
  unfold gP;rw[zD];by_cases e:u=N.n
  ·rw[if_pos e,e];simp
  ·rw[if_neg e];by_cases h:u<N.n
   ·rw[zG (by simpa using h),qw,if_pos h];rfl
   ·rw[zH (by simp;lia)];rfl
 have V0:WV N (Ac x.R) π (zv N.n vS++[vR 0]):=by
  refine⟨by simp,by rw[gn,if_pos rfl],λu y h hu=>?_,λu y hu h=>?_⟩
  ·rw[gn]at h;split at h
   ·rename_i e;cases h;rw[e,hz];exact qW _
   ·cases h
  ·rw[gn,if_neg (by lia)]at h;cases h
 have hs:=ZKw t V0 (λu hu=>by rw[gn,if_neg (by lia)]) hn;have hf:fuel=(fuel-1)+1:=by unfold fuel;lia
 obtain⟨P,w3,w4,hL,V,lo,st⟩:=ZBh K o ok hl (by lia) way pot (λu hu=>(t u hu).1) (fuel-1) _ vS vS V0 (by unfold fuel;lia);rw[<-hf]at hL;obtain⟨F,le⟩:=ZLu ok hl V lo st;have val:∀u,u<=N.n->gP P u=vR (dP P u):=λu hu=>by
  obtain⟨y,h,_⟩:=lo u hu;unfold dP;rw[h]
  rfl
 have hl1:((zJ (N.n+1)).map (dP P)).length=N.n+1:=by simp
 have hW:∀u,u<=N.n->Ac ((zJ (N.n+1)).map (dP P)) u=dP P u:=λu hu=>by rw[Jo (by rw[hl1];lia)];simp
 have hP:P.map moD=((zJ (N.n+1)).map (dP P)).map D.int:=by
  refine qO (by simp[V.len]) λi h1 h2=>?_
  have hi:i<P.length:=by simpa using h1
  have hv:=val i (by have:=V.len;lia);unfold gP at hv;rw[zD,zY hi]at hv;have hv':P[i]=vR (dP P i):=hv;simp[hv',moD]
 refine⟨(zJ (N.n+1)).map (dP P),hl1,?_,?_,λu hu=>by rw[hW u hu];exact le u hu⟩
 ·rw[<-hP];have td:tidy Γ (.ok (.ref Γ.length) (Γ++[.lst (P.map moD)]))=.ok (.ref Γ.length) (Γ++[.lst (P.map moD)]):=Hk (La λ_ _=>ZLE);have e1:=K.left;have e2:Fy (.ref a.l) Γ=.ok (.mt a.l) Γ:=by simp[Fy,K.hl]
  have hcs:∀S:DSt,Bf 1 [] S=[vS]:=λ_=>rfl
  have hc:Ec a.l (gV 0) Cj ZDp [vS] (x.L.map D.int).length 0 Γ=.ok (zv (N.n+1) .non) Γ:=by
   rw[ZIk (F:=λ_=>vR .non) K.hl λy _=>⟨[vR y],rfl,.inr ⟨rfl,.non,rfl,rfl⟩⟩,jM];have e:(x.L.map D.int).map (λ_=>D.non)=zv (N.n+1) D.non:=by rw[List.map_const'];simp[o.ll]
   rw[e]
  have hmk:(zv (N.n+1) D.non).length<=1000000:=by simp;lia
  have hst:G9 (.ref Γ.length) (.int (-1)) (.int 0) (Γ++[.lst (zv (N.n+1) .non)])=.ok .non (Γ++[.lst ((zv N.n (vS:Option Int)++[vR 0]).map moD)]):=by
   rw[Nk,Pq];dsimp only;rw[show ixN (zv (N.n+1) D.non).length (-1)=vR N.n by simp[ixN];lia];dsimp only;rw[Lg]
   congr 2
   rw[List.replicate_succ',List.set_append_right _ _ (by simp)];simp[moD]
  have hGl:=K.hl;generalize x.L.map D.int=Y at*;generalize(zv N.n (vS:Option Int)++[vR 0]).map moD=Y0 at*;generalize zv (N.n+1) D.non=Y1 at*;unfold Iw ZEH;rw[Bv];simp[-Nk,e1,e2,hcs,hGl,hc,hmk,hst,hL,td]
 ·refine⟨by rw[hW _ (zK _)];exact F.z,λl h1 h2 h3=>?_,λu hu=>?_,λu hu=>by rw[hW u (by lia)];exact F.lo u hu⟩
  ·rw[hW _ (ok.to l h1),hW _ (by lia)];exact F.fix l h1 h2 h3
  ·obtain⟨l,q1,q2,q3,q4⟩:=F.att u hu;exact⟨l,q1,q2,q3,by rw[hW u (by lia),hW _ (ok.to l q1)];exact q4⟩
end
noncomputable def adr(g n:Nat):Ad:=⟨g,g+1,g+n+3,g+n+4,g+n+5,g+n+6,λu=>g+2+u⟩
theorem ZES{g:Nat}:(adr g n).Ok n:=by constructor <;> (try intro u hu)<;>(simp only[adr];lia)
noncomputable def Lks.cut(N:Lks)(k:Nat):Lks:=⟨N.n,k,N.fr,N.to,N.wo⟩
noncomputable def lkC(N:Lks)(k u:Nat):List Nat:=(zJ k).filter λl=>N.fr l=u
theorem ZJS{N:Lks}:LkOf N (lkC N N.q):=λu l=>by unfold lkC;simp
theorem Rg{xs:List D}(h:Γ[p]?=vR (.lst xs))(hl:xs.length<1000000):Em (.ref p) [d] Γ=.ok .non (Γ.set p (.lst (xs++[d]))):=by rw[ZDu,h];exact if_pos hl
theorem get_set{o':DO}(hne:p≠i)(h:Γ[i]?=vR o):(Γ.set p o')[i]?=vR o:=by rw[zw hne];exact h
theorem U6{o':DO}(h:Γ[p]?=vR o):(Γ.set p o')[p]?=vR o':=qZ (zk.mp h).1
section
variable{N:Lks}{k g:Nat}{x:LR}{Γ:DH}
theorem ZAz(K:SN (N.cut k) (lkC N k) (adr g N.n) x Γ)(hk:k<1000)(hR:x.R.length=k)(hf:N.fr k<=N.n){ga room:Int}(hw:N.wo k=ga*((N.n:Int)+1)-1)(hg: -1000<=ga/\ga<=1000):
  ∃Γ',H9 [.ref g,.int (N.fr k:Int),.int (N.to k:Int),.int ga,.int room] Γ=.ok .non Γ'/\SN (N.cut (k+1)) (lkC N (k+1)) (adr g N.n) ⟨x.L,x.R++[room]⟩ Γ'/\Γ'.length=Γ.length/\∀i,i<g->Γ'[i]?=Γ[i]? :=by
 have o0:Γ[g]?=vR (.ins "Sending" (flds N.n (g+1) (g+N.n+3) (g+N.n+4) (g+N.n+5) (g+N.n+6))):=K.ho;have l0:Γ[g+1]?=vR (.lst (x.L.map D.int)):=K.hl;have f0:Γ[g+N.n+3]?=vR (.lst ((zJ (N.n+1)).map λu=>D.ref (g+2+u))):=K.hf;have a0:∀u,u<=N.n->Γ[g+2+u]?=vR (.lst (Aw (lkC N k u))):=K.hfa;have e0:Γ[g+N.n+4]?=vR (.lst (Aw ((zJ k).map N.to))):=K.he
 have w0:Γ[g+N.n+5]?=vR (.lst (((zJ k).map N.wo).map D.int)):=K.hw;have r0:Γ[g+N.n+6]?=vR (.lst (x.R.map D.int)):=K.hr;have len1:(Aw (lkC N k (N.fr k))).length<1000000:=by unfold Aw lkC;rw[zO];have:=j3 (λl=>decide (N.fr l=N.fr k)) (zJ k);rw[List.length_range]at this;lia
 have len2:(Aw ((zJ k).map N.to)).length=k:=by simp[Aw]
 have len3:(((zJ k).map N.wo).map D.int).length=k:=by simp
 have len4:(x.R.map D.int).length=k:=by simp[hR]
 generalize hA:Aw (lkC N k (N.fr k))=XA at*;generalize hE:Aw ((zJ k).map N.to)=XE at*;generalize hW:((zJ k).map N.wo).map D.int=XW at*;generalize hX:x.R.map D.int=XR at*;have af:Γ[g+2+N.fr k]?=vR (.lst XA):=by rw[a0 _ hf,hA]
 let Γ1:=Γ.set (g+2+N.fr k) (.lst (XA++[.int (k:Int)]));let Γ2:=Γ1.set (g+N.n+4) (.lst (XE++[.int (N.to k:Int)]));let Γ3:=Γ2.set (g+N.n+5) (.lst (XW++[.int (N.wo k)]));let Γ4:=Γ3.set (g+N.n+6) (.lst (XR++[.int room]));have o1:Γ1[g]?=_:=get_set (by lia) o0;have o2:Γ2[g]?=_:=get_set (by lia) o1;have o3:Γ3[g]?=_:=get_set (by lia) o2;have e1:Γ1[g+N.n+4]?=_:=get_set (by lia) e0
 have w1:Γ1[g+N.n+5]?=_:=get_set (by lia) w0;have w2:Γ2[g+N.n+5]?=_:=get_set (by lia) w1;have r1:Γ1[g+N.n+6]?=_:=get_set (by lia) r0;have r2:Γ2[g+N.n+6]?=_:=get_set (by lia) r1;have r3:Γ3[g+N.n+6]?=_:=get_set (by lia) r2;refine⟨Γ4,?_,?_,by simp[Γ4,Γ3,Γ2,Γ1],λi hi=>?_⟩
 ·have p1:Em (.ref (g+2+N.fr k)) [.int (k:Int)] Γ=.ok .non Γ1:=Rg af len1;have p2:Em (.ref (g+N.n+4)) [.int (N.to k:Int)] Γ1=.ok .non Γ2:=Rg e1 (by lia);have p3:Em (.ref (g+N.n+5)) [.int (N.wo k)] Γ2=.ok .non Γ3:=Rg w2 (by lia);have p4:Em (.ref (g+N.n+6)) [.int room] Γ3=.ok .non Γ4:=Rg r3 (by lia);have q1:Et "Sending" "links_from" (.ref g) Γ=.ok (.ref (g+N.n+3)) Γ:=Ge o0 rfl
  have q2:Et "Sending" "ends" (.ref g) Γ=.ok (.ref (g+N.n+4)) Γ:=Ge o0 rfl;have q3:Et "Sending" "ends" (.ref g) Γ1=.ok (.ref (g+N.n+4)) Γ1:=Ge o1 rfl;have q4:Et "Sending" "worths" (.ref g) Γ2=.ok (.ref (g+N.n+5)) Γ2:=Ge o2 rfl;have q5:Et "Sending" "scale" (.ref g) Γ2=.ok (.int ((N.n:Int)+1)) Γ2:=Ge o2 rfl;have q6:Et "Sending" "rooms" (.ref g) Γ3=.ok (.ref (g+N.n+6)) Γ3:=Ge o3 rfl
  have q7:Av (.ref (g+N.n+3)) (.int (N.fr k:Int)) Γ=.ok (.ref (g+2+N.fr k)) Γ:=J8 f0 (Gi (k:=N.fr k) (by lia) (by rw[zC,qq (by lia)];rfl));have q8:Dr [.ref (g+N.n+4)] Γ=.ok (.int (k:Int)) Γ:=by rw[Qy,e0];dsimp only;rw[len2]
  have q9:Cg (.int ga) (.int ((N.n:Int)+1)) Γ2=.ok (.int (ga*((N.n:Int)+1))) Γ2:=K9 (by lia) (by lia);have td:tidy Γ (.ok .non Γ4)=.ok .non Γ4:=R8 (by simp[Γ4,Γ3,Γ2,Γ1]) rfl;have hw':ga*((N.n:Int)+1)-1=N.wo k:=hw.symm
  clear_value Γ4 Γ3 Γ2 Γ1
  unfold H9 ZBe;rw[Bv];simp[-ZDu,-Qy,-T8,af,e1,w2,r3,p1,p2,p3,p4,q1,q2,q3,q4,q5,q6,q7,q8,q9,td,hw',Ej]
 ·have s1:(zJ (k+1)).map N.to=(zJ k).map N.to++[N.to k]:=by rw[List.range_succ,jD];rfl
  have s2:(zJ (k+1)).map N.wo=(zJ k).map N.wo++[N.wo k]:=by rw[List.range_succ,jD];rfl
  refine⟨ZES,get_set (by simp only[adr];lia) o3,get_set (by simp only[adr];lia) (get_set (by simp only[adr];lia) (get_set (by simp only[adr];lia) (get_set (by simp only[adr];lia) l0))),get_set (by simp only[adr];lia) (get_set (by simp only[adr];lia) (get_set (by simp only[adr];lia) (get_set (by simp only[adr];lia) f0))),λu hu=>?_,?_,?_,?_⟩
  ·have hu':u<=N.n:=hu;refine get_set (by simp only[adr];lia) (get_set (by simp only[adr];lia) (get_set (by simp only[adr];lia) ?_));have s3:lkC N (k+1) u=lkC N k u++if N.fr k=u then[k]else[]:=by
    unfold lkC;rw[List.range_succ,List.filter_append]
    congr 1
    by_cases e:N.fr k=u<;>simp[e]
   show Γ1[g+2+u]?=_;rw[s3];by_cases e:N.fr k=u
   ·subst e;rw[if_pos rfl];refine(U6 af).trans ?_;rw[<-hA];simp[Aw]
   ·rw[if_neg e,zP];exact get_set (by lia) (a0 u hu')
  ·refine get_set (by simp only[adr];lia) (get_set (by simp only[adr];lia) ((U6 e1).trans ?_));show vR (DO.lst (XE++_))=vR (DO.lst (Aw ((zJ (k+1)).map N.to)));rw[s1,<-hE];simp[Aw]
  ·refine get_set (by simp only[adr];lia) ((U6 w2).trans ?_);show vR (DO.lst (XW++_))=vR (DO.lst (((zJ (k+1)).map N.wo).map D.int));rw[s2,<-hW];simp
  ·refine(U6 r3).trans ?_;show vR (DO.lst (XR++_))=vR (DO.lst ((x.R++[room]).map D.int));rw[<-hX];simp
 ·have n1:(Γ.set (g+2+N.fr k) (.lst (XA++[.int (k:Int)])))[i]?=Γ[i]? :=zw (by lia);show Γ4[i]?=_;rw[<-n1,<-zw (l:=Γ1) (a:=.lst (XE++[.int (N.to k:Int)])) (i:=g+N.n+4) (j:=i) (by lia)];rw[<-zw (l:=Γ2) (a:=.lst (XW++[.int (N.wo k)])) (i:=g+N.n+5) (j:=i) (by lia)];exact zw (by lia)
end
def Dp(wide:Int)(as:List Arc):List Int:=as.flatMap λa=>[Ii wide a,0]
theorem Rx:∀as:List Arc,(Dp wide as).length=2*as.length
 |[]=>rfl
 |a::as=>by show(Ii wide a::0::Dp wide as).length=_;rw[zR,zR,Rx as,zR];lia
theorem Qo:∀(as:List Arc)(i:Nat),i<as.length->Ac (Dp wide as) (2*i)=Ii wide (Ba as i)/\Ac (Dp wide as) (2*i+1)=0
 |a::as,0,_=>⟨rfl,rfl⟩
 |a::as,i+1,h=>Qo as i (by simpa using h)
section
variable{n g:Nat}{as:List Arc}{L:List Int}{wide:Int}
theorem ZKe{pre rest:List Arc}{a:Arc}:Ba (pre++a::rest) pre.length=a:=by unfold Ba;rw[zD];simp
theorem ZAw(hok:∀x∈as,ArcOk n x)(hm:as.length<=400){s1 s2 s3:Option D}:∀(rest pre:List Arc)(Γ:DH)(z:Option D),as=pre++rest->SN ((lkN n as).cut (2*pre.length)) (lkC (lkN n as) (2*pre.length)) (adr g n) ⟨L,Dp wide pre⟩ Γ->
  ∃Γ' w,Bt (gV 5) Od (rest.map encA) [vR (.ref g),s1,s2,s3,vR (.int wide),z] Γ=.nx [vR (.ref g),s1,s2,s3,vR (.int wide),w] Γ'/\SN ((lkN n as).cut (2*as.length)) (lkC (lkN n as) (2*as.length)) (adr g n) ⟨L,Dp wide as⟩ Γ'/\Γ'.length=Γ.length/\∀i,i<g->Γ'[i]?=Γ[i]?
 |[],pre,Γ,z,h,K=>by rw[zP]at h;subst h;exact⟨Γ,z,rfl,K,rfl,λ_ _=>rfl⟩
 | a::rest,pre,Γ,z,h,K=>by
  have ha:Ba as pre.length=a:=by rw[h];exact ZKe
  have hlen:pre.length<as.length:=by rw[h];simp
  have hA:=ArcOk.of hok hlen;rw[ha]at hA;have v1:(lkN n as).fr (2*pre.length)=a.fr/\(lkN n as).to (2*pre.length)=a.to/\gaN as (2*pre.length)=a.ga:=by have:=Rp (n:=n) (as:=as) (l:=2*pre.length) (by lia);rw[show 2*pre.length/2=pre.length by lia,ha]at this;exact this
  have v2:(lkN n as).fr (2*pre.length+1)=a.to/\(lkN n as).to (2*pre.length+1)=a.fr/\gaN as (2*pre.length+1)= -a.ga:=by have:=V2 (n:=n) (as:=as) (l:=2*pre.length+1) (by lia);rw[show(2*pre.length+1)/2=pre.length by lia,ha]at this;exact this
  have h1:=hA.lt;have h2:=hA.up;have h3:=hA.le;have h4:=hA.ga;obtain⟨Γ1,c1,K1,l1,p1⟩:=ZAz (N:=lkN n as) K (by lia) (Rx pre) (by rw[v1.1];show a.fr<=n;lia) (ga:=a.ga) (room:=Ii wide a) (by show gaN as _*_-1=_;rw[v1.2.2];rfl) h4;obtain⟨Γ2,c2,K2,l2,p2⟩:=ZAz (N:=lkN n as) K1 (by lia) (by simp[Rx]) (by rw[v2.1];exact h3) (ga:= -a.ga) (room:=0) (by show gaN as _*_-1=_;rw[v2.2.2];rfl) (by lia)
  rw[v1.1,v1.2.1]at c1;rw[v2.1,v2.2.1]at c2;have e1:2*pre.length+1+1=2*(pre++[a]).length:=by simp;lia
  have e2:Dp wide pre++[Ii wide a]++[0]=Dp wide (pre++[a]):=by unfold Dp;rw[List.flatMap_append];simp
  rw[e1]at K2;have K2':SN ((lkN n as).cut (2*(pre++[a]).length)) (lkC (lkN n as) (2*(pre++[a]).length)) (adr g n) ⟨L,Dp wide (pre++[a])⟩ Γ2:=by rw[<-e2];exact K2
  obtain⟨Γ',w,hL,K',l3,p3⟩:=ZAw hok hm (s1:=s1) (s2:=s2) (s3:=s3) rest (pre++[a]) Γ2 (vR (encA a)) (by rw[h];simp) K2';refine⟨Γ',w,?_,K',by rw[l3,l2,l1],λi hi=>by rw[p3 i hi,p2 i hi,p1 i hi]⟩;have m0:∀(t:DA)(S:DSt),J0 "Sending" "add_link" H9 t S (.ref g) Γ=(t S Γ).bind λds G2=>H9 (.ref g::ds) G2:=λt S=>K.meth λ_ _ _ _ _ _=>rfl
  have m1:∀(t:DA)(S:DSt),J0 "Sending" "add_link" H9 t S (.ref g) Γ1=(t S Γ1).bind λds G2=>H9 (.ref g::ds) G2:=λt S=>K1.meth λ_ _ _ _ _ _=>rfl
  have hb:Od [vR (.ref g),s1,s2,s3,vR (.int wide),vR (encA a)] Γ=.nx [vR (.ref g),s1,s2,s3,vR (.int wide),vR (encA a)] Γ2:=by
   unfold Od encA;cases hmo:a.mo with
   |none=>
    have c1':H9 [.ref g,.int (a.fr:Int),.int (a.to:Int),.int a.ga,.int wide] Γ=.ok .non Γ1:=by unfold Ii at c1;rw[hmo]at c1;exact c1
    simp[m0,m1,c1',c2,moD,Cr]
   |some b=>
    have c1':H9 [.ref g,.int (a.fr:Int),.int (a.to:Int),.int a.ga,.int b] Γ=.ok .non Γ1:=by unfold Ii at c1;rw[hmo]at c1;exact c1
    simp[m0,m1,c1',c2,moD,Cr]
  rw[zA,Hc];simp only[Ff,R.Dn,qT,hb,Ea];exact hL
theorem ZCW{Y:List D}:∀(k j:Nat)(Γ:DH),Γ[p]?=vR (.lst Y)->j+k=Y.length->Ec p (gV 0) Cj M4 [vS] k j Γ=.ok ((zJ k).map λi=>D.ref (Γ.length+i)) (Γ++zv k (.lst []))
 |0,j,Γ,h,hj=>by unfold Ec;rw[h];dsimp only;rw[if_pos (by lia)];simp
 | k+1,j,Γ,h,hj=>by
  have hy:Y[j]?=vR Y[j]:=zY (by lia);have td:tidy Γ (.ok (.ref Γ.length) (Γ++[.lst []]))=.ok (.ref Γ.length) (Γ++[.lst []]):=Hk rfl;have he:M4 [vR Y[j]] Γ=.ok (.ref Γ.length) (Γ++[.lst []]):=by unfold M4;simp[td]
  have ih:=ZCW k (j+1) (Γ++[.lst []]) (by rw[zG (zk.mp h).1];exact h) (by lia);unfold Ec;rw[h];dsimp only;rw[hy];dsimp only;simp only[Ff,R.Jf,qT,Cj,if_true,he];rw[ih];simp only[R.Jf]
  congr 1
  ·rw[qE,zA,qY]
   congr 1
   refine qL λi _=>?_
   simp;lia
  ·simp[List.replicate_succ]
end
theorem fset{T:DH}{fs:List (Str×D)}{f:Str}(h:fs.length<1000):Ka "Sending" f (.ref G.length) d S (G++ .ins "Sending" fs::T)=.nx S (G++ .ins "Sending" (Ib f d fs)::T):=by
 rw[ZKA (fs:=fs) (by simp) h,Lg]
 rfl
theorem Rv{T H':DH}{fs:List (Str×D)}{f:Str}{tv:DE}(hv:tv S H=.ok d H')(hS:S[0]?=vR (vR (.ref G.length)))(hH:H'=G++ .ins "Sending" fs::T)(h:fs.length<1000):Eh "Sending" (dV 0) tv f S H=.nx S (G++ .ins "Sending" (Ib f d fs)::T):=by
 have hd:dV 0 S H'=.ok (.ref G.length) H':=by simp[hS]
 rw[ZGD,hv,R.Dn,hd,R.Dn,hH];exact fset h
theorem ZH0{s:List Int}(hS:S[3]?=vR (vR (.fl (s.map D.int))))(hl:s.length<1000):Cp (dOp Bb (Ay (dFn Dk (Ab (dV 3) Ag))) (Ay (dFn Ar (Ab (dC (.int 0)) Ag)))) S H=.ok (.ref H.length) (H++[.lst ((s++[0]).map D.int)]):=by
 have f1:freeze H (.ok (.ref H.length) (H++[.lst (s.map D.int)]))=.ok (.fl (s.map D.int)) H:=Cd Cz;have f2:freeze H (.ok (.ref H.length) (H++[.lst [.int 0]]))=.ok (.fl [.int 0]) H:=Cd rfl;have e:(s++[0]).map D.int=s.map D.int++[.int 0]:=by simp
 have td:tidy H (.ok (.ref H.length) (H++[.lst (s.map D.int++[.int 0])]))=.ok (.ref H.length) (H++[.lst (s.map D.int++[.int 0])]):=Hk (by rw[<-e];exact Cz);have hle:(s.map D.int).length+1<=1000000:=by simp;lia
 rw[e];clear e;generalize s.map D.int=Z at*;simp[hS,f1,f2,Ar,hle,td]
theorem ZIO:Cp (dFn Ar Ag) S H=.ok (.ref H.length) (H++[.lst []]):=by have td:tidy H (.ok (.ref H.length) (H++[.lst []]))=.ok (.ref H.length) (H++[.lst []]):=Hk rfl;simp[Ar,td]
section
variable{n:Nat}{as:List Arc}{s:List Int}
theorem ZKu(ok:NetOk n as s)(G:DH):∃Γ,Ui [.ref G.length,.int n,.fl (as.map encA),.fl (s.map D.int)] (G++[.ins "Sending" []])=.ok .non Γ/\SN (lkN n as) (lkC (lkN n as) (lkN n as).q) (adr G.length n) ⟨s++[0],Dp (s.sum+1) as⟩ Γ/\Γ.take G.length=G/\G.length<Γ.length:=by
 have n30:=ok.n2;have m40:=ok.len;have hsl:=ok.sl;let R:=(zJ (n+1)).map λi=>D.ref (G.length+2+i)
 let H2:DH:=G++[.ins "Sending" [("scale",.int ((n:Int)+1)),("left",.ref (G.length+1))],.lst ((s++[0]).map D.int)];let H3:DH:=G++ .ins "Sending" [("scale",.int ((n:Int)+1)),("left",.ref (G.length+1)),("links_from",.ref (G.length+n+3))]:: .lst ((s++[0]).map D.int)::(zv (n+1) (.lst [])++[.lst R]);let H6:DH:=G++ .ins "Sending" (flds n (G.length+1) (G.length+n+3) (G.length+n+4) (G.length+n+5) (G.length+n+6)):: .lst ((s++[0]).map D.int)::(zv (n+1) (.lst [])++[.lst R,.lst [],.lst [],.lst []])
 have K6:SN ((lkN n as).cut (2*([]:List Arc).length)) (lkC (lkN n as) (2*([]:List Arc).length)) (adr G.length n) ⟨s++[0],Dp (s.sum+1) []⟩ H6:=by
  have gt:∀(k:Nat)(o:DO),(DO.ins "Sending" (flds n (G.length+1) (G.length+n+3) (G.length+n+4) (G.length+n+5) (G.length+n+6)):: .lst ((s++[0]).map D.int)::(zv (n+1) (.lst [])++[.lst R,.lst [],.lst [],.lst []]))[k]?=vR o->H6[G.length+k]?=vR o:=λk o h=>by rw[zI (by lia),jK];exact h
  have tl:∀(k:Nat)(o:DO),[DO.lst R,.lst [],.lst [],.lst []][k]?=vR o->H6[G.length+(n+3+k)]?=vR o:=λk o h=>by refine gt _ _ ?_;rw[show n+3+k=(n+1+k)+1+1 by lia,qI,qI,zI (by simp)];simpa using h
  refine⟨ZES,gt 0 _ rfl,gt 1 _ rfl,tl 0 _ rfl,λu hu=>?_,tl 1 _ rfl,tl 2 _ rfl,tl 3 _ rfl⟩;have hu':u<=n:=hu;have:=gt (2+u) (.lst []) (by rw[show 2+u=u+1+1 by lia,qI,qI,zG (by simp;lia),qw,if_pos (by lia)])
  rw[<-Nat.add_assoc]at this;exact this
 obtain⟨Γ,w,hL,K,hlen,hpre⟩:=ZAw ok.arc (by lia) (s1:=vR (.int n)) (s2:=vR (.fl (as.map encA))) (s3:=vR (.fl (s.map D.int))) as [] H6 vS rfl K6;have hlt:G.length<Γ.length:=by rw[hlen];simp[H6]
 refine⟨Γ,?_,K,?_,hlt⟩
 ·let S1:DSt:=[vR (.ref G.length),vR (.int n),vR (.fl (as.map encA)),vR (.fl (s.map D.int)),vR (.int (s.sum+1)),vS];let H1:DH:=G++[.ins "Sending" [("scale",.int ((n:Int)+1))]];let H4:DH:=G++ .ins "Sending" [("scale",.int ((n:Int)+1)),("left",.ref (G.length+1)),("links_from",.ref (G.length+n+3)),("ends",.ref (G.length+n+4))]:: .lst ((s++[0]).map D.int)::(zv (n+1) (.lst [])++[.lst R,.lst []])
  let H5:DH:=G++ .ins "Sending" [("scale",.int ((n:Int)+1)),("left",.ref (G.length+1)),("links_from",.ref (G.length+n+3)),("ends",.ref (G.length+n+4)),("worths",.ref (G.length+n+5))]:: .lst ((s++[0]).map D.int)::(zv (n+1) (.lst [])++[.lst R,.lst [],.lst []]);have t1:sAs (dOp Bb (dFn Hy (Ab (dV 3) Ag)) (dC (.int 1))) (gV 4) [vR (.ref G.length),vR (.int n),vR (.fl (as.map encA)),vR (.fl (s.map D.int)),vS,vS] (G++[.ins "Sending" []])=.nx S1 (G++[.ins "Sending" []]):=by
   show _=SR.nx [vR (.ref G.length),vR (.int n),vR (.fl (as.map encA)),vR (.fl (s.map D.int)),vR (.int (s.sum+1)),vS] _;generalize as.map encA=Z;simp
  have t2:Eh "Sending" (dV 0) (dOp Bb (dV 1) (dC (.int 1))) "scale" S1 (G++[.ins "Sending" []])=.nx S1 H1:=Rv (fs:=[]) (T:=[]) (d:=.int ((n:Int)+1)) (by simp[S1]) rfl rfl (by simp);have t3:Eh "Sending" (dV 0) (Cp (dOp Bb (Ay (dFn Dk (Ab (dV 3) Ag))) (Ay (dFn Ar (Ab (dC (.int 0)) Ag))))) "left" S1 H1=.nx S1 H2:=by
   have e:(D.ref H1.length)=D.ref (G.length+1):=by simp[H1]
   have:=Rv (f:="left") (ZH0 (s:=s) (S:=S1) (H:=H1) rfl (by lia)) rfl (show H1++[DO.lst ((s++[0]).map D.int)]=G++ .ins "Sending" [("scale",.int ((n:Int)+1))]::[DO.lst ((s++[0]).map D.int)] by simp[H1]) (by simp);rw[e]at this;exact this
  have h2l:H2.length=G.length+2:=by simp[H2]
  have h2g:H2[G.length+1]?=vR (.lst ((s++[0]).map D.int)):=by
   show(G++_)[G.length+1]?=_;rw[zI (by lia),jK]
   rfl
  have hll:0+(n+1)=((s++[0]).map D.int).length:=by simp[hsl]
  have hcr:=ZCW (p:=G.length+1) (n+1) 0 H2 h2g hll;have cv:Ex (Eg (Bk "Sending" (dV 0) "left")) 1 [] (gV 0) Cj M4 S1 H2=.ok (.ref (G.length+n+3)) (H2++zv (n+1) (.lst [])++[.lst R]):=by
   have e1:Et "Sending" "left" (.ref G.length) H2=.ok (.ref (G.length+1)) H2:=Ge (fs:=[("scale",.int ((n:Int)+1)),("left",.ref (G.length+1))]) (by simp[H2]) rfl;have e2:Fy (.ref (G.length+1)) H2=.ok (.mt (G.length+1)) H2:=by simp[Fy,h2g]
   have hcs:∀S:DSt,Bf 1 [] S=[vS]:=λ_=>rfl
   have e3:((zJ (n+1)).map λi=>D.ref (H2.length+i))=R:=by
    refine qL λi _=>?_
    rw[h2l]
   rw[e3]at hcr;have e4:R.length<=1000000:=by simp[R];lia
   have e5:(H2++zv (n+1) (DO.lst [])).length=G.length+n+3:=by simp[h2l];lia
   have e6:S1[0]?=vR (vR (.ref G.length)):=rfl;have e7:((s++[0]).map D.int).length=n+1:=by lia
   clear_value R H2 S1
   generalize(s++[0]).map D.int=Z at*;generalize H2++zv (n+1) (DO.lst [])=H2' at*;simp[e1,e2,e6,e7,hcs,h2g,hcr,Ar,e4,e5]
  have t4:Eh "Sending" (dV 0) (Ex (Eg (Bk "Sending" (dV 0) "left")) 1 [] (gV 0) Cj M4) "links_from" S1 H2=.nx S1 H3:=by have:=Rv (f:="links_from") cv rfl (show H2++zv (n+1) (.lst [])++[.lst R]=G++ .ins "Sending" [("scale",.int ((n:Int)+1)),("left",.ref (G.length+1))]::(.lst ((s++[0]).map D.int)::(zv (n+1) (.lst [])++[.lst R])) by simp[H2]) (by simp);exact this
  have nx:∀(H:DH)(T:DH)(fs:List (Str×D))(f:Str)(k:Nat),H=G++ .ins "Sending" fs::T->H.length=k->fs.length<1000->Eh "Sending" (dV 0) (Cp (dFn Ar Ag)) f S1 H=.nx S1 (G++ .ins "Sending" (Ib f (.ref k) fs)::(T++[.lst []])):=λH T fs f k e1 e2 e3=>by rw[<-e2];exact Rv ZIO rfl (by rw[e1];simp) e3
  have t5:Eh "Sending" (dV 0) (Cp (dFn Ar Ag)) "ends" S1 H3=.nx S1 H4:=by have:=nx H3 _ _ "ends" (G.length+n+4) rfl (by simp[H3];lia) (by simp);simp only[jV,qB,j4]at this;exact this
  have t6:Eh "Sending" (dV 0) (Cp (dFn Ar Ag)) "worths" S1 H4=.nx S1 H5:=by have:=nx H4 _ _ "worths" (G.length+n+5) rfl (by simp[H4];lia) (by simp);simp only[jV,qB,j4,jC]at this;exact this
  have t7:Eh "Sending" (dV 0) (Cp (dFn Ar Ag)) "rooms" S1 H5=.nx S1 H6:=by have:=nx H5 _ _ "rooms" (G.length+n+6) rfl (by simp[H5];lia) (by simp);simp only[jV,qB,j4,jC]at this;exact this
  have t8:Es (Eg (dV 2)) (gV 5) Od S1 H6=.nx [vR (.ref G.length),vR (.int n),vR (.fl (as.map encA)),vR (.fl (s.map D.int)),vR (.int (s.sum+1)),w] Γ:=by
   rw[<-hL];have e6:dV 2 S1 H6=.ok (.fl (as.map encA)) H6:=rfl;rw[ZHa,ZKq,e6]
   rfl
  have td:tidy (G++[.ins "Sending" []]) (.ok .non Γ)=.ok .non Γ:=by
   refine ZI5 λz=>?_
   have z1:(Γ.take (G++[DO.ins "Sending" []]).length)[G.length]?=vR (.ins "Sending" []):=by rw[z];simp
   rw[qz (by simp)]at z1;have z2:Γ[G.length]?=vR (.ins "Sending" (flds n _ _ _ _ _)):=K.ho;rw[z1]at z2;cases z2
  clear_value H6 H5 H4 H3 H2 H1 S1
  unfold Ui ZBa;rw[Bv];simp only[ZCf,zA,jW,jV,jC,zv,t1,t2,t3,t4,t5,t6,t7,t8,ZAm];simp[td]
 ·refine j0 λi=>?_
  by_cases hi:i<G.length
  ·rw[qz hi,hpre i hi,zG hi]
  ·rw[zH (by rw[qF];lia),zH (by lia)]
end
theorem ZAU:∀l:List Nat,Ju (Aw l)=vR (l.map λ(i:Nat)=>V.int (i:Int))
 |[]=>rfl
 |i::l=>by
  show Ju (.int (i:Int)::Aw l)=_;unfold Ju;rw[ZAU l]
  rfl
theorem Yl(d:Nat):∀l:List Nat,inV (.int (d:Int)) (l.map λ(i:Nat)=>V.int (i:Int))=decide (d∈l)
 |[]=>rfl
 | i::l=>by
  have ih:=Yl d l;unfold inV at*;rw[zA,List.any_cons,ih];by_cases h:d=i
  ·subst h;simp[eqV]
  ·have h2:¬i=d:=λz=>h z.symm
   have h3:¬((i:Int)=(d:Int)):=by lia
   simp[eqV,h,h2,h3]
section
variable{n:Nat}{as:List Arc}{s:List Int}
theorem ZL6(ok:NetOk n as s)(G:DH):Nj [.int n,.fl (as.map encA)] G=.ok .non G:=by
 have n30:=ok.n2;have m40:=ok.len
 let F:D->Option D:=λd=>match d with
  |.tup [a,_,.non,_]=>vR a
  |_=>vS
 have hcs:∀S:DSt,Bf 1 [] S=[vS]:=λ_=>rfl
 have hc:Cq (gV 0) Oi Ow [vS] (as.map encA) G=.ok ((as.map encA).filterMap F) G:=Qe λy hy=>by
  obtain⟨x,hx,rfl⟩:=zS.mp hy;refine⟨[vR (encA x)],rfl,?_⟩;unfold Oi Ow;cases hm:x.mo with
  |none=>
   refine .inr ⟨?_,.int x.fr,?_,?_⟩
   ·simp[encA,hm,moD,Cr]
   ·simp[encA]
   ·simp[encA,hm,moD,F]
  |some b=>
   refine .inl ⟨?_,?_⟩
   ·simp[encA,hm,moD,Cr]
   ·simp[encA,hm,moD,F]
 have hf:∀l:List Arc,(l.map encA).filterMap F=Aw ((l.filter λx=>x.mo.isNone).map Arc.fr):=λl=>by
  induction l with
  |nil=>rfl
  |cons x l ih=>
   rw[zA,zN];cases hm:x.mo with
   |none=>simp[encA,hm,moD,F,j8,Aw]at ih⊢;exact ih
   |some b=>simp[encA,hm,moD,F,j8,Aw]at ih⊢;exact ih
 rw[hf]at hc;have hmem:∀u,u<n->u∈(as.filter λx=>x.mo.isNone).map Arc.fr:=λu hu=>by obtain⟨x,h1,h2,h3⟩:=ok.way u hu;exact zS.mpr ⟨x,j9.mpr ⟨h1,by rw[h3];rfl⟩,h2⟩
 have hle:(Aw ((as.filter λx=>x.mo.isNone).map Arc.fr)).length<=1000000:=by have:=j3 (λx:Arc=>x.mo.isNone) as;simp only[Aw,zO];lia
 have fz:freeze G (.ok (.ref G.length) (G++[.lst (Aw ((as.filter λx=>x.mo.isNone).map Arc.fr))]))=.ok (.fl (Aw ((as.filter λx=>x.mo.isNone).map Arc.fr))) G:=Cd (La λ_ _=>rfl);generalize(as.filter λx=>x.mo.isNone).map Arc.fr=U at*;have hin:∀u,u<n->Lj (.int (u:Int)) (.fl (Aw U)) G=.ok (.bl vU) G:=λu hu=>by
  unfold Lj inD;dsimp only
  rw[show Bp (.fl (Aw U)) G=vR (Aw U)from rfl,show Nm (.int (u:Int))=vR (.int (u:Int))from rfl]
  dsimp only;rw[ZAU,xQ,Yl,decide_eq_true (hmem u hu)]
  rfl
 have hL:∀(k i:Nat)(z:Option D)(s0 s1:Option D),i+k<=n->∃w,Bt (gV 3) Ha (Bd (i:Int) k) [s0,s1,vR (.fl (Aw U)),z] G=.nx [s0,s1,vR (.fl (Aw U)),w] G:=λk=>by
  induction k with
  |zero=>exact λi z s0 s1 _=>⟨z,rfl⟩
  |succ k ih=>
   intro i z s0 s1 hi;have h1:=hin i (by lia);have hb:Ha [s0,s1,vR (.fl (Aw U)),vR (.int (i:Int))] G=.nx [s0,s1,vR (.fl (Aw U)),vR (.int (i:Int))] G:=by unfold Ha;generalize Aw U=Z at*;simp[h1]
   obtain⟨w,h2⟩:=ih (i+1) (vR (.int (i:Int))) s0 s1 (by lia);refine⟨w,?_⟩;rw[Je,Hc];simp only[Ff,R.Dn,qT,hb,Ea];have e:(i:Int)+1=((i+1:Nat):Int):=by lia
   rw[e,h2]
 obtain⟨w,hL⟩:=hL n 0 vS (vR (.int n)) (vR (.fl (as.map encA))) (by lia);have i1:inR (n:Int):=⟨by lia,by lia⟩;have hL':Bt (gV 3) Ha (Bd 0 n) [vR (.int n),vR (.fl (as.map encA)),vR (.fl (Aw U)),vS] G=.nx [vR (.int n),vR (.fl (as.map encA)),vR (.fl (Aw U)),w] G:=hL;generalize Aw U=Z at*;generalize as.map encA=Y at*;unfold Nj Xu;rw[Bv];simp[hcs,hc,Ar,hle,fz,i1,hL',Ej]
end
section
variable{N:Lks}{lk:Nat->List Nat}{a:Ad}{x:LR}{Γ:DH}
theorem ZB9:∀(m:Nat)(R:List Int)(i:Nat),R.length=2*m->i%2=0->((R.zipIdx i).filterMap λp=>if p.2%2=1 then vR p.1 else vS)=(zJ m).map λj=>R.getD (2*j+1) 0
 |0,R,i,h,_=>by
  have:R=[]:=jx (by lia);subst this
  rfl
 | m+1,R,i,h,hi=>by
  match R,h with
  |r0::r1::R,h=>
   have ih:=ZB9 m R (i+1+1) (by simp at h;lia) (by lia);rw[jX,jX,zN,zN,if_neg (by lia),if_pos (by show(i+1)%2=1;lia)];dsimp only;rw[ih,qE,zA,qY]
   rfl
theorem ZGB(K:SN N lk a x Γ)(o:x.Ok N)(hq:N.q=2*m)(hm:m<=1000):Ko [.ref a.o] Γ=.ok (.ref Γ.length) (Γ++[.lst (((zJ m).map λi=>Ac x.R (2*i+1)).map D.int)]):=by
 have e1:=K.rooms;have hs:=ZJw K.hr;have rl:=o.rl
 let F:D->Option D:=λd=>match d with
  |.tup [.int i,r]=>if i%2=1 then vR r else vS
  |_=>vS
 have hcs:∀S:DSt,Bf 2 [] S=[vS,vS]:=λ_=>rfl
 have hen:∀j,Hw 0 (.ref a.r) j Γ=vR (Io (x.R.map D.int))[j]? :=λj=>by
  have:=ZLk (xs:=x.R.map D.int) j Γ;unfold Hw at this⊢;rw[hs]
  rw[show Bp (.fl (x.R.map D.int)) Γ=vR (x.R.map D.int)from rfl]at this
  exact this
 have hc:Cw (Hw 0 (.ref a.r)) (Fg 2 (Bu (gV 0) (Bu (gV 1) Gg))) Wi Yz [vS,vS] (x.R.map D.int).length 0 Γ=.ok ((Io (x.R.map D.int)).filterMap F) Γ:=ZBx hen (λy hy=>by
  unfold Io at hy;obtain⟨⟨r,i⟩,h1,rfl⟩:=zS.mp hy;refine⟨[vR (.int (i:Int)),vR r],by simp,?_⟩;unfold Wi Yz;by_cases c:(i:Int)%2=1
  ·exact .inr ⟨by simp[c],r,by simp,by simp[F,c]⟩
  ·exact .inl ⟨by simp[c],by simp[F,c]⟩) (by rw[ZJp];exact zK _)
 have hf:(Io (x.R.map D.int)).filterMap F=((zJ m).map λi=>Ac x.R (2*i+1)).map D.int:=by
  have:=ZB9 m x.R 0 (by lia) rfl;unfold Io Ac;rw[<-this,List.zipIdx_map,qY,qP,List.map_filterMap]
  congr 1
  funext p;obtain⟨r,i⟩:=p;have e:((i:Int)%2=1)=(i%2=1):=by simp;lia
  by_cases c:i%2=1<;>simp[F,c,e]
 rw[hf]at hc;have hle:(((zJ m).map λi=>Ac x.R (2*i+1)).map D.int).length<=1000000:=by simp;lia
 have td:tidy Γ (.ok (.ref Γ.length) (Γ++[.lst (((zJ m).map λi=>Ac x.R (2*i+1)).map D.int)]))=.ok (.ref Γ.length) (Γ++[.lst (((zJ m).map λi=>Ac x.R (2*i+1)).map D.int)]):=Hk Cz;have hit:Q3 [.ref a.r] Γ=.ok (.fn (x.R.map D.int).length (Hw 0 (.ref a.r))) Γ:=by simp[Q3,Ob,hs,lenOf]
 generalize((zJ m).map λi=>Ac x.R (2*i+1)).map D.int=Z at*;generalize x.R.map D.int=Y at*;unfold Ko ZBl;rw[Bv];simp[e1,hit,hcs,hc,Ar,hle,td]
end
theorem Rw{s:List Int}:∀k:Nat,k<=s.length->Aj k (Ac s)=(s.take k).sum
 |0,_=>rfl
 |k+1,h=>by show Aj k (Ac s)+Ac s k=_;rw[Rw k (by lia),List.take_add_one,zY (by lia),List.sum_append,Jo (by lia)];simp
structure BT (n:Nat) (as:List Arc) (s:Nat->Int) (wide:Int) (x:LR):Prop where
 b:Bal n as s wide x
 t:Aj (n+1) (Ac x.L)=wide-1
section
variable{n:Nat}{as:List Arc}{s:Nat->Int}{wide:Int}{x:LR}
theorem ZFH(ok:(lkN n as).Ok)(y:LR)(l:Nat)(c:Int)(K:y.Ok (lkN n as))(hl:l<(lkN n as).q)(h:BT n as s wide y):BT n as s wide (y.sa (lkN n as) ((lkN n as).fr l) l c):=by
 refine⟨ZHw ok K hl h.b,?_⟩;have h1:Aj (n+1) (λv=>(if v=(lkN n as).fr l then c else 0))=c:=Hv (x:=λ_=>c) (by have:_<=n:=ok.fr l hl;lia);have h2:Aj (n+1) (λv=>(if v=(lkN n as).to l then c else 0))=c:=Hv (x:=λ_=>c) (by have:_<=n:=ok.to l hl;lia);have h3:Aj (n+1) (Ac (y.sa (lkN n as) ((lkN n as).fr l) l c).L)+Aj (n+1) (λv=>(if v=(lkN n as).fr l then c else 0))=Aj (n+1) (Ac y.L)+Aj (n+1) (λv=>(if v=(lkN n as).to l then c else 0)):=by
  rw[<-Fo,<-Fo];refine Fb λv _=>?_
  rw[O5 ok K hl];lia
 have:=h.t;lia
structure Iv (n:Nat) (as:List Arc) (s:Nat->Int) (wide:Int) (x:LR) (Wl:List Int):Prop where
 ok:x.Ok (lkN n as)
 b:BT n as s wide x
 wl:Wl.length=n+1
 fx:(lkN n as).Fix (Ac x.R) (Ac Wl)
 pot:(lkN n as).Pot (Ac x.R) (Ac Wl)
 up:∀u,u<n->Ac Wl u<=40000*(n:Int)
def todo(n:Nat)(as:List Arc)(wide:Int)(x:LR)(Wl:List Int):Int:=Aj n (λu=>Ac Wl u+40000*(n:Int))*(40*wide)+far (lkN n as) (Ac Wl) x
theorem U3(Z:Netw n as s wide)(K:x.Ok (lkN n as))(B:BT n as s wide x)(W:Nat->Int):0<=far (lkN n as) W x/\far (lkN n as) W x<40*wide:=by
 have n30:=Z.n30;have bd:∀u,u<n->0<=Ac x.L u*lnk (lkN n as) W u/\Ac x.L u*lnk (lkN n as) W u<=30*Ac x.L u:=λu hu=>by
  have h1:=K.ln u (by show u<=n;lia);have h2:=Mw (N:=lkN n as) (W:=W) u;have h3:lnk (lkN n as) W u<=30:=by have:_<=(n:Int):=h2.2;lia
  refine⟨jI h1 h2.1,?_⟩;rw[Int.mul_comm];exact zL h3 h1
 have h1:=Dt (f:=λ_=>0) λu hu=>(bd u hu).1
 rw[Hd]at h1;have h2:=Dt λu hu=>(bd u hu).2
 rw[ZAR]at h2;have h3:=Zo (s:=Ac x.L) (k:=n) (n:=n+1) (by lia) λv hv=>K.ln v (by show v<=n;lia)
 have h4:=B.t;have h5:0<=Aj n s:=by have:=Dt (f:=λ_=>0) Z.sn;rw[Hd]at this;exact this
 have h6:=Z.wide;refine⟨h1,?_⟩;show Aj n _<_;lia
theorem ZMV{Wl Wl':List Int}(Z:Netw n as s wide)(I:Iv n as s wide x Wl)(I':Iv n as s wide y Wl')(le:∀u,u<=n->Ac Wl' u<=Ac Wl u)(pot:(lkN n as).Pot (Ac y.R) (Ac Wl))(S:Snt (lkN n as) (Ac Wl) (λl=>l<(lkN n as).q/\(lkN n as).fr l<n) x y)(h:0<Aj n (Ac x.L)):todo n as wide y Wl'+1<=todo n as wide x Wl:=by
 have ok:=Ov (n:=n) Z.arc Z.n30;have f1:=U3 Z I'.ok I'.b (Ac Wl');have f2:=U3 Z I.ok I.b (Ac Wl);have hwide:0<40*wide:=by lia
 have less:(∃u,u<n/\Ac Wl' u+1<=Ac Wl u)->todo n as wide y Wl'+1<=todo n as wide x Wl:=λ⟨u,hu,h1⟩=>by
  have h2:∀v,v<n->(Ac Wl' v+40000*(n:Int))+(if v=u then 1 else 0)<=Ac Wl v+40000*(n:Int):=λv hv=>by
   have:=le v (by lia);by_cases e:v=u
   ·rw[if_pos e,e];lia
   ·rw[if_neg e];lia
  have h3:=Dt h2;rw[Fo,Hv (x:=λ_=>1) hu]at h3;have h4:=zL h3 (xZ hwide);rw[Int.add_mul,Int.one_mul]at h4;unfold todo;lia
 by_cases hs:far (lkN n as) (Ac Wl) y=far (lkN n as) (Ac Wl) x
 ·obtain⟨e1,e2,e3⟩:=S.same hs;have hex:∃u,u<n/\0<Ac x.L u:=by
   refine Classical.byContradiction λz=>?_
   have h1:∀u,u<n->Ac x.L u<=0:=λu hu=>Int.not_lt.mp λq=>z ⟨u,hu,q⟩
   have:=Dt (g:=λ_=>0) h1;rw[Hd]at this;lia
  obtain⟨u,hu,h1⟩:=hex;refine less ⟨u,hu,fall ok pot I'.fx le hu λl q1 q2 q3=>?_⟩;rw[e2];rcases e3 l ⟨q1,by rw[q2];exact hu⟩ (by unfold tight;rw[q2];exact q3)with z|z
  ·rw[q2]at z;lia
  ·exact z
 ·by_cases hw:∃u,u<n/\Ac Wl' u≠Ac Wl u
  ·obtain⟨u,hu,h1⟩:=hw;have:=le u (by lia);exact less ⟨u,hu,by lia⟩
  ·have eq:∀u,u<n->Ac Wl' u=Ac Wl u:=λu hu=>Classical.byContradiction λz=>hw ⟨u,hu,z⟩
   have h1:far (lkN n as) (Ac Wl') y=far (lkN n as) (Ac Wl) y:=Fb λu hu=>by unfold lnk;rw[eq u hu]
   have h2:Aj n (λu=>Ac Wl' u+40000*(n:Int))=Aj n (λu=>Ac Wl u+40000*(n:Int)):=Fb λu hu=>by rw[eq u hu]
   have h3:=S.le;unfold todo;rw[h1,h2];lia
variable{lk:Nat->List Nat}{a:Ad}{Γ:DH}{sl:List Int}
theorem ZBW(Z:Netw n as s wide)(n1:1<=n)(hl:LkOf (lkN n as) lk){x0:LR}(K0:SN (lkN n as) lk a x0 Γ)(hT:∀y,DO.tab "Sending" "send_by"∈hs Γ a y){A1 A2:D}:∀(fu:Nat)(x:LR)(Wl:List Int),Iv n as s wide x Wl->todo n as wide x Wl<fu->
  ∃x' Wl',sWh Qj Ox fu [vR (.int n),vR A1,vR A2,vR (.ref a.o),vR (.fl (Wl.map D.int)),vS,vS] (hs Γ a x)=.nx [vR (.int n),vR A1,vR A2,vR (.ref a.o),vR (.fl (Wl'.map D.int)),vS,vS] (hs Γ a x')/\Iv n as s wide x' Wl'/\∀u,u<n->Ac x'.L u=0
 |0,x,Wl,I,h=>by
  have f2:=U3 Z I.ok I.b (Ac Wl);have h1:∀u,u<n->0<=Ac Wl u+40000*(n:Int):=λu hu=>by have: -(40000*(n:Int))<=_:=I.fx.lo u hu;lia
  have h2:=Dt (f:=λ_=>0) h1;rw[Hd]at h2;have:=jI h2 (show 0<=40*wide by lia);unfold todo at h;lia
 | fu+1,x,Wl,I,h=>by
  have n30:=Z.n30;have ok:=Ov (n:=n) Z.arc Z.n30;have K:=K0.at x;have ll:x.L.length=n+1:=I.ok.ll;have cut:cutD (x.L.map D.int) vS (vR (n:Int))=(x.L.take n).map D.int:=by rw[Yv (by simp;lia),List.map_take]
  have fz:∀G:DH,freeze G (.ok (.ref G.length) (G++[.lst ((x.L.take n).map D.int)]))=.ok (.fl ((x.L.take n).map D.int)) G:=λG=>Cd Cz
  have sl:∀G:DH,G[a.l]?=vR (.lst (x.L.map D.int))->Kf (.ref a.l) vS (vR (n:Int)) G=.ok (.ref G.length) (G++[.lst ((x.L.take n).map D.int)]):=λG hG=>by
   show(match Gp (.ref a.l) G with |some xs=>R.ok (D.ref G.length) (G++[DO.lst (cutD xs vS (vR (n:Int)))])|none=>R.bad)=_
   rw[show Gp (.ref a.l) G=vR (x.L.map D.int) by simp[Gp,hG]];dsimp only;rw[cut]
  have ht:Qj [vR (.int n),vR A1,vR A2,vR (.ref a.o),vR (.fl (Wl.map D.int)),vS,vS] (hs Γ a x)=.ok (decide (0<(x.L.take n).sum)) (hs Γ a x):=by have e1:=K.left;have e2:=sl _ K.hl;have e3:=fz (hs Γ a x);have e4:Hy [.fl ((x.L.take n).map D.int)] (hs Γ a x)=.ok (.int (x.L.take n).sum) (hs Γ a x):=ZAk;generalize hs Γ a x=Γ9 at*;generalize Wl.map D.int=Y at*;generalize(x.L.take n).map D.int=Y1 at*;unfold Qj;simp[e1,e2,e3,e4]
  by_cases c:0<(x.L.take n).sum
  ·rw[decide_eq_true c]at ht;have c':0<Aj n (Ac x.L):=by rw[Rw n (by lia)];exact c
   obtain⟨y,hc,ky,S⟩:=ZIY (R0:=Ac x.R) K (hT x) n1 (by show n<=60;lia) ok Va Zn I.fx hl (B:=BT n as s wide) (λy l c h1 h2 h3=>ZFH ok y l c h1 h2 h3) I.wl ⟨I.ok,λl _ h=>.inl h,I.b⟩;rw[ZBI K0.ad.lr]at hc;have pot:=ZGv ok Va I.pot ky.g;obtain⟨Wl',wl',hw,F',le⟩:=ZBs (π:=Ac Wl) (K0.at y) ky.ok ok hl (by show n<=60;lia) (ZDa Z ky.ok ky.b.b) pot I.fx.z λu hu=>⟨I.fx.lo u hu,I.up u hu⟩
   have I':Iv n as s wide y Wl':=⟨ky.ok,ky.b,wl',F',ZAj ok pot F' I.fx.z le,λu hu=>Int.le_trans (le u (by show u<=n;lia)) (I.up u hu)⟩;have tl:=ZMV Z I I' le pot S c';obtain⟨x',Wl2,hL,I2,z⟩:=ZBW Z n1 hl K0 hT (A1:=A1) (A2:=A2) fu y Wl' I' (by lia);refine⟨x',Wl2,?_,I2,z⟩;have hb:Ox [vR (.int n),vR A1,vR A2,vR (.ref a.o),vR (.fl (Wl.map D.int)),vS,vS] (hs Γ a x)=.nx [vR (.int n),vR A1,vR A2,vR (.ref a.o),vR (.fl (Wl'.map D.int)),vS,vS] (hs Γ a y):=by
    have m1:=λ(t:DA)(S:DSt)=>K.meth (m:="send_by") (F:=Pk) (t:=t) (S:=S) λ_ _ _ _ _ _=>rfl
    have m2:=λ(t:DA)(S:DSt)=>(K0.at y).meth (m:="best_ways") (F:=Iw) (t:=t) (S:=S) λ_ _ _ _ _ _=>rfl
    have f3:freeze (hs Γ a y) (.ok (.ref (hs Γ a y).length) (hs Γ a y++[.lst (Wl'.map D.int)]))=.ok (.fl (Wl'.map D.int)) (hs Γ a y):=Cd Cz;generalize hs Γ a x=Γ9 at*;generalize hs Γ a y=Γ8 at*;generalize Wl.map D.int=Y at*;generalize Wl'.map D.int=Y' at*;unfold Ox;simp[m1,m2,hc,hw,f3]
   unfold sWh;rw[ht];simp only[R.Dn,if_true,hb,Ea];exact hL
  ·rw[decide_eq_false c]at ht;refine⟨x,Wl,?_,I,λu hu=>?_⟩
   ·unfold sWh;rw[ht];simp
   ·have h1:Aj n (Ac x.L)<=0:=by rw[Rw n (by lia)];lia
    have nn:∀v,v<n->0<=Ac x.L v:=λv hv=>I.ok.ln v (by show v<=n;lia)
    have h2:∀v,v<n->(if v=u then Ac x.L v else 0)<=Ac x.L v:=λv hv=>by
     have:=nn v hv
     split <;> lia
    have h3:=Dt h2;rw[Hv (x:=Ac x.L) hu]at h3;have:=nn u hu;lia
end
theorem ZIV{G':DH}(h:G'.take G.length=G)(hb:bel G.length d=vT):tidy G (.ok d G')=.ok d G:=by unfold tidy;dsimp only;rw[if_pos h,if_pos hb]
section
variable{n:Nat}{as:List Arc}{s:List Int}
theorem ZAM(ok:NetOk n as s):Netw n as (Ac s) (s.sum+1):=by
 have sl:=ok.sl;refine⟨ok.n2,ok.arc,λk hk=>?_,λv hv=>?_,?_⟩
 ·obtain⟨x,h1,h2,h3⟩:=ok.way k hk;obtain⟨i,hi,e⟩:=List.getElem_of_mem h1
  refine⟨i,hi,?_,?_⟩<;>rw[ZAd hi,e]<;>assumption
 ·rw[Jo (by lia)];exact ok.sn _ (qN _)
 ·rw[Rw n (by lia),jL (by lia)]
theorem ZHn(ok:NetOk n as s):LR.Ok (lkN n as) ⟨s++[0],Dp (s.sum+1) as⟩/\BT n as (Ac s) (s.sum+1) ⟨s++[0],Dp (s.sum+1) as⟩:=by
 have Z:=ZAM ok;have sl:=ok.sl;have hL:∀u,Ac (s++[0]) u=Ac s u:=λu=>by
  unfold Ac;simp only[zD];by_cases h:u<s.length
  ·rw[zG h]
  ·rw[zH (l:=s) (by lia),zI (by lia)];by_cases e:u=s.length
   ·rw[e,Nat.sub_self];rfl
   ·rw[zH (by simp;lia)]
 have hn0:Ac s n=0:=by
  unfold Ac;rw[zD,zH (by lia)]
  rfl
 have hsum:0<=Aj n (Ac s):=by have:=Dt (f:=λ_=>0) Z.sn;rw[Hd]at this;exact this
 have hw:=Z.wide;refine⟨⟨by simp[sl];rfl,Rx as,λu hu=>?_,λl hl=>?_⟩,⟨⟨λi hi=>?_,λv hv=>?_⟩,?_⟩⟩
 ·dsimp only;rw[hL];by_cases e:u=n
  ·rw[e,hn0];exact qW _
  ·exact Z.sn u (by have:u<=n:=hu;lia)
 ·have hl':l<2*as.length:=hl;have h1:=Qo (wide:=s.sum+1) as (l/2) (by lia);dsimp only;by_cases h2:l%2=0
  ·rw[show l=2*(l/2) by lia,h1.1];unfold Ii;cases hm:(Ba as (l/2)).mo with
   |none=>dsimp only;lia
   |some b=>exact(ArcOk.of ok.arc (by lia)).mo b hm
  ·rw[show l=2*(l/2)+1 by lia,h1.2];exact qW _
 ·have h1:=Qo (wide:=s.sum+1) as i hi;dsimp only;rw[h1.1,h1.2,Int.add_zero]
 ·have h0:∀q:Nat->Nat,Aj as.length (λi=>if q i=v then flo ⟨s++[0],Dp (s.sum+1) as⟩ i else 0)=0:=λq=>by
   rw[Fb (g:=λ_=>0) λi hi=>?_,Hd];have:flo ⟨s++[0],Dp (s.sum+1) as⟩ i=0:=(Qo (wide:=s.sum+1) as i hi).2;rw[this]
   split <;> rfl
  dsimp only;rw[hL];unfold ex Cu inA;rw[h0 λi=>(Ba as i).fr,h0 λi=>(Ba as i).to];lia
 ·dsimp only;show Aj n _+Ac (s++[0]) n=_;rw[hL,hn0,Fb λu _=>hL u];lia
theorem ZMR(ok:NetOk n as s){x:LR}{Wl:List Int}(I:Iv n as (Ac s) (s.sum+1) x Wl):todo n as (s.sum+1) x Wl<(fuel:Int):=by
 have Z:=ZAM ok;have n30:=ok.n2;have f2:=U3 Z I.ok I.b (Ac Wl);have cst:∀(c:Int)(k:Nat),Aj k (λ_=>c)=c*k:=λc k=>by
  induction k with
  |zero=>show 0=c*0;rw[jH]
  |succ k ih=>
   show Aj k _+c=_;rw[ih,Int.natCast_add,xX];lia
 have h1:=Dt (n:=n) (g:=λ_=>(2400000:Int)) λu hu=>show Ac Wl u+40000*(n:Int)<=2400000 by have:=I.up u hu;lia
 rw[cst]at h1;have h2:=Dt (n:=n) (f:=Ac s) (g:=λ_=>(10^40:Int)) λu hu=>show Ac s u<=10^40 by have sl:=ok.sl;rw[Jo (by lia)];exact xZ (ok.sb _ (qN _))
 rw[cst]at h2;have h3:=Z.wide;have h4:s.sum+1<=10^42:=by have:(10^40:Int)*(n:Int)<=10^40*30:=Int.mul_le_mul_of_nonneg_left (by lia) (by decide);lia
 have h5:Aj n (λu=>Ac Wl u+40000*(n:Int))<=72000000:=by lia
 have h6:=zL h5 (show 0<=40*(s.sum+1) by lia);unfold todo fuel;lia
end
section
variable{n:Nat}{as:List Arc}{s:List Int}
theorem ZBH(ok:NetOk n as s)(G:DH)(hT:DO.tab "Sending" "send_by"∈G):∃e f p,f.length=as.length/\p.length=n/\Slack as.length (Ba as) (Ac f) (Ac p)/\Fw [.int n,.fl (as.map encA),.fl (s.map D.int)] G=.ok (.tup [.int e,.fl (f.map D.int),.fl (p.map D.int)]) G:=by
 have Z:=ZAM ok;have n30:=ok.n2;have m40:=ok.len;have lok:=Ov (n:=n) Z.arc Z.n30;obtain⟨Γ,hi,K,hpre,hlt⟩:=ZKu ok G;obtain⟨o0,b0⟩:=ZHn ok;have hl:LkOf (lkN n as) (lkC (lkN n as) (lkN n as).q):=ZJS;have pot0:=ZIs (rm:=Ac (Dp (s.sum+1) as)) Z λi hi=>(Qo as i hi).2
 obtain⟨Wl,wl,hw,F,le⟩:=ZBs (π:=λu=>40000*((n:Int)-u)) K o0 lok hl (by show n<=60;lia) (ZDa Z o0 b0.b) pot0 (by show 40000*((n:Int)-n)=0;lia) λu hu=>by have hu':u<n:=hu;show -(40000*(n:Int))<=40000*((n:Int)-u)/\40000*((n:Int)-u)<=40000*(n:Int);lia
 have I0:Iv n as (Ac s) (s.sum+1) ⟨s++[0],Dp (s.sum+1) as⟩ Wl:=⟨o0,b0,wl,F,ZAj lok pot0 F (by show 40000*((n:Int)-n)=0;lia) le,λu hu=>by have h1:=le u (by show u<=n;lia);have h2:Ac Wl u<=40000*((n:Int)-u):=h1;lia⟩
 have hsp:∀y,(hs Γ (adr G.length n) y).take G.length=G:=λy=>by
  refine j0 λi=>?_
  by_cases hi:i<G.length
  ·rw[qz hi];unfold hs adr;dsimp only;rw[zw (by lia),zw (by lia),<-qz hi,hpre]
  ·rw[zH (by rw[qF];lia),zH (by lia)]
 have hT':∀y,DO.tab "Sending" "send_by"∈hs Γ (adr G.length n) y:=λy=>List.mem_of_mem_take (i:=G.length) (by rw[hsp y];exact hT)
 obtain⟨x,Wl',hL,I,hz⟩:=ZBW Z ok.n1 hl K hT' (A1:=.fl (as.map encA)) (A2:=.fl (s.map D.int)) fuel _ Wl I0 (ZMR ok I0);rw[K.hs]at hL;have Kx:=K.at x;have hfl:=ZGB (m:=as.length) Kx I.ok rfl (by lia);have Sl:=ZGc Z I.ok I.b.b I.fx I.pot;have wl':Wl'.length=n+1:=I.wl;have eF:∀i,i<as.length->Ac ((zJ as.length).map λi=>Ac x.R (2*i+1)) i=flo x i:=λi hi=>by rw[Jo (by simpa using hi)];simp[flo]
 have eP:∀u,u<=n->Ac ((zJ n).map (gn (lkN n as) (Ac Wl'))) u=gn (lkN n as) (Ac Wl') u:=λu hu=>by
  by_cases e:u=n
  ·subst e;have e0:Ac Wl' u=0:=I.fx.z;have e1:Ac ((zJ u).map (gn (lkN u as) (Ac Wl'))) u=0:=by
    unfold Ac;rw[zD,zH (by simp)]
    rfl
   rw[e1];unfold gn;rw[e0];simp
  ·rw[Jo (by simp;lia)];simp
 refine⟨(((zJ as.length).map λi=>Ac x.R (2*i+1)*(Ba as i).ga)).sum,(zJ as.length).map λi=>Ac x.R (2*i+1),(zJ n).map (gn (lkN n as) (Ac Wl')),by simp,by simp,⟨λi hi h=>?_,λi hi h=>?_⟩,?_⟩
 ·have A:=ArcOk.of ok.arc hi;have h1:=A.lt;rw[eP _ A.le,eP _ (by lia)];exact Sl.more i hi λb hb=>by rw[<-eF i hi];exact h b hb
 ·have A:=ArcOk.of ok.arc hi;have h1:=A.lt;rw[eP _ A.le,eP _ (by lia)];exact Sl.some_ i hi (by rw[<-eF i hi];exact h)
 ·have aI:(zJ as.length).map (λi=>encA (Ba as i))=as.map encA:=by
   refine qO (by simp) λi h1 h2=>?_
   have hi:i<as.length:=by simpa using h2
   simp[ZAd hi]
  have c1:=ZL6 ok G;have m1:∀(t:DA)(S:DSt),J0 "Sending" "best_ways" Iw t S (.ref G.length) Γ=(t S Γ).bind λds G2=>Iw (.ref G.length::ds) G2:=λt S=>K.meth λ_ _ _ _ _ _=>rfl
  have m2:∀(t:DA)(S:DSt),J0 "Sending" "flow_sent" Ko t S (.ref G.length) (hs Γ (adr G.length n) x)=(t S (hs Γ (adr G.length n) x)).bind λds G2=>Ko (.ref G.length::ds) G2:=λt S=>Kx.meth λ_ _ _ _ _ _=>rfl
  have m3:∀(t:DA)(S:DSt),J0 "Sending" "gain_of" Ky t S (.ref G.length) (hs Γ (adr G.length n) x)=(t S (hs Γ (adr G.length n) x)).bind λds G2=>Ky (.ref G.length::ds) G2:=λt S=>Kx.meth λ_ _ _ _ _ _=>rfl
  have hw':Iw [.ref G.length] Γ=.ok (.ref Γ.length) (Γ++[.lst (Wl.map D.int)]):=hw;have fw:freeze Γ (.ok (.ref Γ.length) (Γ++[.lst (Wl.map D.int)]))=.ok (.fl (Wl.map D.int)) Γ:=Cd Cz;have hL':sWh Qj Ox fuel [vR (.int n),vR (.fl (as.map encA)),vR (.fl (s.map D.int)),vR (.ref G.length),vR (.fl (Wl.map D.int)),vS,vS] Γ=.nx [vR (.int n),vR (.fl (as.map encA)),vR (.fl (s.map D.int)),vR (.ref G.length),vR (.fl (Wl'.map D.int)),vS,vS] (hs Γ (adr G.length n) x):=hL
  have cg:∀u,u<n->Ky [.ref G.length,.int (Ac Wl' u)] (hs Γ (adr G.length n) x)=.ok (.int (gn (lkN n as) (Ac Wl') u)) (hs Γ (adr G.length n) x):=λu hu=>ZKJ (w:=Ac Wl' u) (by show n<1000;lia) Kx
  have hfl':Ko [.ref G.length] (hs Γ (adr G.length n) x)=_:=hfl;have td:∀d,bel G.length d=vT->tidy G (.ok d (hs Γ (adr G.length n) x))=.ok d G:=λd hd=>ZIV (hsp x) hd
  clear hL hw hfl hsp hT' K Kx;generalize hs Γ (adr G.length n) x=Γ9 at*;have ff:freeze Γ9 (.ok (.ref Γ9.length) (Γ9++[.lst (((zJ as.length).map λi=>Ac x.R (2*i+1)).map D.int)]))=.ok (.fl (((zJ as.length).map λi=>Ac x.R (2*i+1)).map D.int)) Γ9:=Cd Cz;have hcs:∀S:DSt,Bf 2 [] S=[vS,vS]:=λ_=>rfl
  have z1:Ln 2 [.fl (((zJ as.length).map λi=>Ac x.R (2*i+1)).map D.int),.fl (as.map encA)] Γ9=.ok (.fn (((zJ as.length).map λi=>Ac x.R (2*i+1)).map D.int).length (Jb [.fl (((zJ as.length).map λi=>Ac x.R (2*i+1)).map D.int),.fl (as.map encA)])) Γ9:=ZGf Tn Tn;have z2:Cw (Jb [.fl (((zJ as.length).map λi=>Ac x.R (2*i+1)).map D.int),.fl (as.map encA)]) (Fg 2 (Bu (gV 0) (Bu (gV 1) Gg))) Cj Zy [vS,vS] (((zJ as.length).map λi=>Ac x.R (2*i+1)).map D.int).length 0 Γ9=.ok (((zJ as.length).map λi=>Ac x.R (2*i+1)*(Ba as i).ga).map D.int) Γ9:=by
   rw[ZBx (F:=λd=>match d with | .tup [.int f,.tup [_,_,_,.int g]]=>vR (.int (f*g))|_=>vS) (λj=>ZF2 Tn Tn j) (λy hy=>?_) (by simp[Oj])]
   ·congr 1
    rw[<-aI,Oj,qY,List.zip_map',qY,qP,qY];exact congrFun jM _
   ·rw[<-aI,Oj,qY,List.zip_map',qY]at hy;obtain⟨i,hi,rfl⟩:=zS.mp hy;have A:=(ArcOk.of ok.arc (qX.mp hi)).ga;refine⟨[vR (.int (Ac x.R (2*i+1))),vR (encA (Ba as i))],by simp,.inr ⟨rfl,.int (Ac x.R (2*i+1)*(Ba as i).ga),?_,rfl⟩⟩;have mu:Cg (.int (Ac x.R (2*i+1))) (.int (Ba as i).ga) Γ9=.ok (.int (Ac x.R (2*i+1)*(Ba as i).ga)) Γ9:=ZDO (by lia) (by lia)
    unfold Zy encA;simp[mu]
  have hn1:(((zJ as.length).map λi=>Ac x.R (2*i+1)*(Ba as i).ga).map D.int).length<=1000000:=by simp;lia
  have f2:freeze Γ9 (.ok (.ref Γ9.length) (Γ9++[.lst (((zJ as.length).map λi=>Ac x.R (2*i+1)*(Ba as i).ga).map D.int)]))=.ok (.fl (((zJ as.length).map λi=>Ac x.R (2*i+1)*(Ba as i).ga).map D.int)) Γ9:=Cd Cz;have sm:Hy [.fl (((zJ as.length).map λi=>Ac x.R (2*i+1)*(Ba as i).ga).map D.int)] Γ9=.ok (.int (((zJ as.length).map λi=>Ac x.R (2*i+1)*(Ba as i).ga)).sum) Γ9:=ZAk
  have sw:Kf (.fl (Wl'.map D.int)) vS (vR (n:Int)) Γ9=.ok (.ref Γ9.length) (Γ9++[.lst (((zJ n).map (Ac Wl')).map D.int)]):=by
   rw[ZEf,Yv (by simp;lia)];have:(Wl'.map D.int).take n=((zJ n).map (Ac Wl')).map D.int:=by
    refine qO (by simp;lia) λi h1 h2=>?_
    have hi:i<n:=by simp at h2;lia
    simp[Jo (show i<Wl'.length by lia)]
   rw[this]
  have f3:freeze Γ9 (.ok (.ref Γ9.length) (Γ9++[.lst (((zJ n).map (Ac Wl')).map D.int)]))=.ok (.fl (((zJ n).map (Ac Wl')).map D.int)) Γ9:=Cd Cz;have p1:Cq (gV 0) Cj Nv [vS,vR (.ref G.length)] (((zJ n).map (Ac Wl')).map D.int) Γ9=.ok (((zJ n).map (gn (lkN n as) (Ac Wl'))).map D.int) Γ9:=by
   rw[qY,qY];have:∀l:List Nat,(∀u∈l,u<n)->Cq (gV 0) Cj Nv [vS,vR (.ref G.length)] (l.map (D.int∘Ac Wl')) Γ9=.ok (l.map (D.int∘gn (lkN n as) (Ac Wl'))) Γ9:=λl=>by
    induction l with
    |nil=>exact λ_=>rfl
    |cons u l ih=>
     intro h;have h1:=cg u (h u (by simp));have hb:Nv [vR (.int (Ac Wl' u)),vR (.ref G.length)] Γ9=.ok (.int (gn (lkN n as) (Ac Wl') u)) Γ9:=by unfold Nv;simp[m3,h1]
     rw[zA,ZAe];simp[hb,ih λv hv=>h v (by simp[hv]),Cj]
   exact this _ λu hu=>qX.mp hu
  have hn2:(((zJ n).map (gn (lkN n as) (Ac Wl'))).map D.int).length<=1000000:=by simp;lia
  have f4:freeze Γ9 (.ok (.ref Γ9.length) (Γ9++[.lst (((zJ n).map (gn (lkN n as) (Ac Wl'))).map D.int)]))=.ok (.fl (((zJ n).map (gn (lkN n as) (Ac Wl'))).map D.int)) Γ9:=Cd Cz;have hcs2:∀v0 v1 v2 v4 v5 v6:Option D,Bf 1 [3] [v0,v1,v2,vR (.ref G.length),v4,v5,v6]=[vS,vR (.ref G.length)]:=λ_ _ _ _ _ _=>rfl
  have fin:=td (.tup [.int (((zJ as.length).map λi=>Ac x.R (2*i+1)*(Ba as i).ga)).sum,.fl (((zJ as.length).map λi=>Ac x.R (2*i+1)).map D.int),.fl (((zJ n).map (gn (lkN n as) (Ac Wl'))).map D.int)]) (by show(vT&&(bels _ _&&(bels _ _&&vT)))=vT;rw[Cz,Cz];rfl);clear td aI cg;generalize(((zJ as.length).map λi=>Ac x.R (2*i+1)*(Ba as i).ga)).sum=e at*
  generalize((zJ as.length).map λi=>Ac x.R (2*i+1)*(Ba as i).ga).map D.int=Y1 at*;generalize((zJ as.length).map λi=>Ac x.R (2*i+1)).map D.int=Y2 at*;generalize((zJ n).map (gn (lkN n as) (Ac Wl'))).map D.int=Y3 at*;generalize((zJ n).map (Ac Wl')).map D.int=Y4 at*;generalize Wl.map D.int=Y5 at*;generalize Wl'.map D.int=Y6 at*;generalize as.map encA=Y7 at*
  generalize s.map D.int=Y8 at*;unfold Fw Yw ZEF ZEg ZBz ZDy ZBG ZCM;rw[Bv];simp[-ZEf,c1,ZEQ,hi,m1,hw',fw,hL',m2,hfl',ff,z1,hcs,z2,Ar,hn1,f2,sm,sw,f3,hcs2,p1,hn2,f4,fin]
end
noncomputable def Iz(c p k:Int):Int:=c*48271%p%k
def spo(c:Int)(x:Arc):Option Arc:=if¬Iz c (10141+10*x.fr) 3=1∨x.mo≠vS then vR x else if Iz c 10151 2=0 then vR ⟨x.fr,x.to,vR (Iz c 10159 5),x.ga⟩else vS
theorem ZLi{y:Arc}(h:ArcOk n x)(e:spo c x=vR y):ArcOk n y:=by
 unfold spo at e;split at e
 ·cases e;exact h
 ·split at e
  ·cases e;exact⟨h.lt,h.up,h.le,λb hb=>by cases hb;exact jv _ (by decide),h.ga⟩
  ·cases e
theorem ZD6{c:Int}{A0:Option D}{G:DH}:∀(l acc:List Arc)(x3 x4 x5 x6 x7:Option D),acc.length+l.length<=1000->∃y3 y4 y5 y6 y7,
  Bt (Fg 4 (Bu (gV 3) (Bu (gV 4) (Bu (gV 5) (Bu (gV 6) Gg))))) Q6 (l.map encA) [A0,vR (.int c),vR (.ref G.length),x3,x4,x5,x6,x7] (G++[.lst (acc.map encA)])=
   .nx [A0,vR (.int c),vR (.ref G.length),y3,y4,y5,y6,y7] (G++[.lst ((acc++l.filterMap (spo c)).map encA)])
 |[],acc,x3,x4,x5,x6,x7,_=>⟨x3,x4,x5,x6,x7,by rw[jW,Nb,List.filterMap_nil,zP]⟩
 | x::l,acc,x3,x4,x5,x6,x7,hl=>by
  have hl':acc.length+(l.length+1)<=1000:=hl;have step:∃z7,Q6 [A0,vR (.int c),vR (.ref G.length),vR (.int x.fr),vR (.int x.to),vR (moD x.mo),vR (.int x.ga),x7] (G++[.lst (acc.map encA)])=.nx [A0,vR (.int c),vR (.ref G.length),vR (.int x.fr),vR (.int x.to),vR (moD x.mo),vR (.int x.ga),z7] (G++[.lst ((acc++(spo c x).toList).map encA)]):=by
   refine⟨vR (.bl (decide (Iz c (10141+10*x.fr) 3=1))),?_⟩;have m10:∀G,Cg (.int 10) (.int (x.fr:Int)) G=.ok (.int (10*(x.fr:Int))) G:=λG=>K9 (by decide) (by decide)
   have hp:(0:Int)<10141+10*(x.fr:Int):=by lia
   have k1:∀G,Ci [.int c,.int (10141+10*(x.fr:Int)),.int 3] G=.ok (.int (Iz c (10141+10*x.fr) 3)) G:=R3 hp (by decide);have k2:∀G,Ci [.int c,.int 10151,.int 2] G=.ok (.int (Iz c 10151 2)) G:=R3 (by decide) (by decide);have k3:∀G,Ci [.int c,.int 10159,.int 5] G=.ok (.int (Iz c 10159 5)) G:=R3 (by decide) (by decide);have hal:acc.length<1000000:=by lia
   have ex:encA x=.tup [.int x.fr,.int x.to,moD x.mo,.int x.ga]:=rfl;unfold Q6 spo;by_cases h1:Iz c (10141+10*x.fr) 3=1
   ·cases hm:x.mo with
    |some b=>
     rw[hm]at ex;simp[m10,k1,h1,hm,moD,Cr,Qq,Lg,hal,ex]
    |none=>
     by_cases h2:Iz c 10151 2=0
     ·simp[m10,k1,k2,k3,h1,h2,moD,Cr,Qq,Lg,hal,encA]
     ·simp[m10,k1,k2,k3,h1,h2,moD,Cr]
   ·simp[m10,k1,h1,Qq,Lg,hal,ex]
  obtain⟨z7,hb⟩:=step;obtain⟨y3,y4,y5,y6,y7,ih⟩:=ZD6 (c:=c) (A0:=A0) (G:=G) l (acc++(spo c x).toList) (vR (.int x.fr)) (vR (.int x.to)) (vR (moD x.mo)) (vR (.int x.ga)) z7 (by
   have:(spo c x).toList.length<=1:=by cases spo c x<;>simp
   rw[qJ];lia)
  refine⟨y3,y4,y5,y6,y7,?_⟩;have e:acc++(spo c x).toList++l.filterMap (spo c)=acc++(x::l).filterMap (spo c):=by
   rw[zN,qB]
   cases spo c x<;>simp
  rw[e]at ih;rw[zA,Hc];have ea:encA x=.tup [.int x.fr,.int x.to,moD x.mo,.int x.ga]:=rfl;rw[ea];have hg:(Fg 4 (Bu (gV 3) (Bu (gV 4) (Bu (gV 5) (Bu (gV 6) Gg))))) (.tup [.int x.fr,.int x.to,moD x.mo,.int x.ga]) [A0,vR (.int c),vR (.ref G.length),x3,x4,x5,x6,x7] (G++[.lst (acc.map encA)])=.ok [A0,vR (.int c),vR (.ref G.length),vR (.int x.fr),vR (.int x.to),vR (moD x.mo),vR (.int x.ga),x7] (G++[.lst (acc.map encA)]):=by simp
  rw[hg,R.Dn,hb,Ea,ih]
theorem ZKt(hl:as.length<=1000)(G:DH):Ry [.fl (as.map encA),.int c] G=.ok (.ref G.length) (G++[.lst ((as.filterMap (spo c)).map encA)]):=by
 obtain⟨y3,y4,y5,y6,y7,hL⟩:=ZD6 (c:=c) (A0:=vR (.fl (as.map encA))) (G:=G) as [] vS vS vS vS vS (by simpa using hl);have hL':Bt (Fg 4 (Bu (gV 3) (Bu (gV 4) (Bu (gV 5) (Bu (gV 6) Gg))))) Q6 (as.map encA) [vR (.fl (as.map encA)),vR (.int c),vR (.ref G.length),vS,vS,vS,vS,vS] (G++[.lst []])=_:=hL;rw[jC]at hL';have tn:tidy G (.ok (.ref G.length) (G++[.lst ((as.filterMap (spo c)).map encA)]))=.ok (.ref G.length) (G++[.lst ((as.filterMap (spo c)).map encA)]):=Hk Gk
 generalize(as.filterMap (spo c)).map encA=R at*;unfold Ry ZCP;rw[Bv];simp[Ar,Hk,hL',tn]
noncomputable def Ei(as:List Arc)(k:Nat):Bool:=as.any λx=>decide (x.fr=k)&&x.mo.isNone
theorem Q8:Ei as k=vT↔∃x∈as,x.fr=k/\x.mo=vS:=by unfold Ei;simp[List.any_eq_true,Option.isNone_iff_eq_none]
def fbN(as:List Arc):Nat->Nat->Option Nat
 |_,0=>vS
 |i,m+1=>if Ei as i=vT then fbN as (i+1) m else vR i
theorem Ol:∀{m i b:Nat},fbN as i m=vR b->i<=b/\b<i+m/\Ei as b=vU/\∀k,i<=k->k<b->Ei as k=vT
 |0,i,b,h=>by cases h
 | m+1,i,b,h=>by
  unfold fbN at h;split at h
  ·rename_i hw;obtain⟨h1,h2,h3,h4⟩:=Ol h;refine⟨by lia,by lia,h3,λk hk hb=>?_⟩;by_cases e:k=i
   ·subst e;exact hw
   ·exact h4 k (by lia) hb
  ·rename_i hw;cases h;exact⟨zK _,by lia,by simpa using hw,λk h1 h2=>absurd h1 (by lia)⟩
theorem ZDD:∀{m i:Nat},fbN as i m=vS->∀k,i<=k->k<i+m->Ei as k=vT
 |0,i,_,k,h1,h2=>absurd h1 (by lia)
 | m+1,i,h,k,h1,h2=>by
  unfold fbN at h;split at h
  ·rename_i hw;by_cases e:k=i
   ·subst e;exact hw
   ·exact ZDD h k (by lia) (by lia)
  ·cases h
noncomputable def Ig:Option Nat->D
 |none=>.non
 |some k=>.int k
noncomputable def Uz(as:List Arc)(k:Nat):Nat:=(as.filter λx=>decide (x.fr=k)&&x.mo.isNone).length
theorem ZHb:(Uz as k=0)=(Ei as k=vU):=by unfold Uz Ei;rw[List.length_eq_zero_iff,List.filter_eq_nil_iff,eq_iff_iff,List.any_eq_false]
theorem ZHq{s1:Option D}(hl:as.length<=1000):∃l:List D,l.length=Uz as k/\l.length<=1000000/\bels G.length l=vT/\Cq (gV 0) Xm Z5 [vS,vR (.int k)] (as.map encA) G=.ok l G:=by
 refine⟨(as.filter λx=>decide (x.fr=k)&&x.mo.isNone).map encA,by rw[zO];rfl,?_,Gk,?_⟩
 ·rw[zO];have:=j3 (λx:Arc=>decide (x.fr=k)&&x.mo.isNone) as;lia
 ·let F:D->Option D:=λd=>match d with
   |.tup [.int a,b,.non,e]=>if a=(k:Int)then vR (.tup [.int a,b,.non,e])else vS
   |_=>vS
  rw[Qe (F:=F) λy hy=>?_]
  ·congr 1
   clear hl
   induction as with
   |nil=>rfl
   | cons x l ih=>
    rw[zA,zN,ih,j8];cases hm:x.mo with
    | none=>
     by_cases h:x.fr=k
     ·have hh:((x.fr:Int)=(k:Int)):=by lia
      simp[F,encA,hm,moD,h]
     ·have hh:¬((x.fr:Int)=(k:Int)):=by lia
      simp[F,encA,hm,moD,h,hh]
    |some b=>simp[F,encA,hm,moD]
  ·obtain⟨x,_,rfl⟩:=zS.mp hy;refine⟨[vR (encA x),vR (.int k)],rfl,?_⟩;unfold Xm Z5;by_cases h:x.fr=k
   ·have hh:((x.fr:Int)=(k:Int)):=by lia
    cases hm:x.mo with
    |none=>exact .inr ⟨by simp[encA,hm,moD,Cr,hh],encA x,by simp,by simp[F,encA,hm,moD,hh]⟩
    |some b=>exact .inl ⟨by simp[encA,hm,moD,Cr,hh],by simp[F,encA,hm,moD]⟩
   ·have hh:¬((x.fr:Int)=(k:Int)):=by lia
    refine .inl ⟨by simp[encA,hh],?_⟩
    cases hm:x.mo<;>simp[F,encA,hm,moD,hh]
theorem ZC6{as:List Arc}{s0:Option D}(hl:as.length<=1000){G:DH}:∀(m i:Nat)(z:Option D),∃w,Bt (gV 2) Qm (Bd (i:Int) m) [s0,vR (.fl (as.map encA)),z] G=(match fbN as i m with
  |some b=>.rt (.int b) G
  |none=>.nx [s0,vR (.fl (as.map encA)),w] G)
 |0,i,z=>⟨z,by rw[Qp,Nb];rfl⟩
 | m+1,i,z=>by
  obtain⟨w,ih⟩:=ZC6 (s0:=s0) hl (G:=G) m (i+1) (vR (.int i));refine⟨w,?_⟩;obtain⟨l,l1,l2,l3,hc⟩:=ZHq (as:=as) (k:=i) (s1:=vS) (G:=G) hl;have fz:freeze G (.ok (.ref G.length) (G++[.lst l]))=.ok (.fl l) G:=Cd l3;have hcs:Bf 1 [2] [s0,vR (.fl (as.map encA)),vR (.int (i:Int))]=[vS,vR (.int i)]:=rfl;have hb:Qm [s0,vR (.fl (as.map encA)),vR (.int (i:Int))] G=if Ei as i=vT then .nx [s0,vR (.fl (as.map encA)),vR (.int (i:Int))] G else .rt (.int i) G:=by
   have e0:(((l.length:Nat):Int)=0)=(Ei as i=vU):=by rw[l1,<-ZHb];exact eq_iff_iff.mpr ⟨λh=>by lia,λh=>by lia⟩
   generalize as.map encA=Y at*;unfold Qm;cases hw:Ei as i with
   |true=>
    rw[hw]at e0;simp at e0;simp[hcs,hc,Ar,l2,fz,e0]
   |false=>
    rw[hw]at e0;have e1:l=[]:=by simpa using e0
    subst e1;simp[hcs,hc,Ar,fz]
  rw[Je,Hc];simp only[Ff,R.Dn,qT,hb];unfold fbN;by_cases hw:Ei as i=vT
  ·rw[if_pos hw,if_pos hw];have e:(i:Int)+1=((i+1:Nat):Int):=by lia
   rw[Ea,e,ih]
  ·rw[if_neg hw,if_neg hw]
   rfl
theorem ZCt(hn:n<=30)(hl:as.length<=1000)(G:DH):Qf [.int n,.fl (as.map encA)] G=.ok (Ig (fbN as 0 n)) G:=by
 obtain⟨w,hL⟩:=ZC6 (as:=as) (s0:=vR (.int n)) hl (G:=G) n 0 vS;have i1:inR (n:Int):=⟨by lia,by lia⟩;have hL':Bt (gV 2) Qm (Bd 0 n) [vR (.int n),vR (.fl (as.map encA)),vS] G=_:=hL;generalize as.map encA=Y at*;unfold Qf ZEu;rw[Bv];cases e:fbN as 0 n with
 |some b=>
  rw[e]at hL';simp[i1,hL',Ig,Ej]
 |none=>
  rw[e]at hL';simp[i1,hL',Ig,Ej]
noncomputable def XW(b:Nat):Xn:=⟨"NoWay",[("node",.int b)]⟩
theorem ZKb:Cq (gV 0) Oi Ow [vS] (as.map encA) G=.ok (Aw ((as.filter λx=>x.mo.isNone).map Arc.fr)) G:=by
 let F:D->Option D:=λd=>match d with
  |.tup [a,_,.non,_]=>vR a
  |_=>vS
 rw[Qe (F:=F) λy hy=>?_]
 ·congr 1
  induction as with
  |nil=>rfl
  |cons x l ih=>
   rw[zA,zN];cases hm:x.mo with
   |none=>simp[encA,hm,moD,F,j8,Aw]at ih⊢;exact ih
   |some b=>simp[encA,hm,moD,F,j8,Aw]at ih⊢;exact ih
 ·obtain⟨x,hx,rfl⟩:=zS.mp hy;refine⟨[vR (encA x)],rfl,?_⟩;unfold Oi Ow;cases hm:x.mo with
  |none=>exact .inr ⟨by simp[encA,hm,moD,Cr],.int x.fr,by simp[encA],by simp[encA,hm,moD,F]⟩
  |some b=>exact .inl ⟨by simp[encA,hm,moD,Cr],by simp[encA,hm,moD,F]⟩
theorem ZME:(u∈(as.filter λx=>x.mo.isNone).map Arc.fr)↔Ei as u=vT:=by
 rw[Q8,zS];constructor
 ·rintro⟨x,h1,h2⟩;obtain⟨h3,h4⟩:=j9.mp h1;exact⟨x,h3,h2,by simpa[Option.isNone_iff_eq_none]using h4⟩
 ·rintro⟨x,h1,h2,h3⟩;exact⟨x,j9.mpr ⟨h1,by rw[h3];rfl⟩,h2⟩
theorem ZJC{U:List Nat}:Lj (.int (u:Int)) (.fl (Aw U)) G=.ok (.bl (!decide (u∈U))) G:=by
 unfold Lj inD;dsimp only
 rw[show Bp (.fl (Aw U)) G=vR (Aw U)from rfl,show Nm (.int (u:Int))=vR (.int (u:Int))from rfl]
 dsimp only;rw[ZAU,xQ,Yl]
theorem ZB2{as:List Arc}{s0 s1:Option D}{G:DH}(hb:b<100):∀(k i:Nat)(z:Option D),fbN as i k=vR b->
  Bt (gV 3) Ha (Bd (i:Int) k) [s0,s1,vR (.fl (Aw ((as.filter λx=>x.mo.isNone).map Arc.fr))),z] G=.err (XW b) G
 |0,i,z,h=>by cases h
 | k+1,i,z,h=>by
  have h1:=ZJC (U:=(as.filter λx=>x.mo.isNone).map Arc.fr) (u:=i) (G:=G);have h2:=ZME (as:=as) (u:=i);have ih:=ZB2 (s0:=s0) (s1:=s1) (G:=G) (as:=as) hb k (i+1) (vR (.int (i:Int)));generalize(as.filter λx=>x.mo.isNone).map Arc.fr=U at*;rw[Je,Hc];unfold fbN at h;split at h
  ·rename_i hw;have hb':Ha [s0,s1,vR (.fl (Aw U)),vR (.int (i:Int))] G=.nx [s0,s1,vR (.fl (Aw U)),vR (.int (i:Int))] G:=by rw[decide_eq_true (h2.mpr hw)]at h1;unfold Ha;generalize Aw U=Z at*;simp[h1]
   simp only[Ff,R.Dn,qT,hb',Ea];have e:(i:Int)+1=((i+1:Nat):Int):=by lia
   rw[e,ih h]
  ·rename_i hw;have eb:i=b:=Option.some.inj h;subst eb;have hz:∀(S:DSt),S[3]?=vR (vR (.int i))->sRz "NoWay" "node" (Ab (dV 3) Ag) S G=.err (XW i) G:=λS hS=>by
    unfold sRz;have:(0:Int)<=(i:Int)/\(i:Int)<100:=by lia
    simp[hS,this,XW]
   have hb':Ha [s0,s1,vR (.fl (Aw U)),vR (.int (i:Int))] G=.err (XW i) G:=by rw[decide_eq_false (λz=>hw (h2.mp z))]at h1;unfold Ha;generalize Aw U=Z at*;generalize sRz "NoWay" "node" (Ab (dV 3) Ag)=W at hz;simp[h1,hz]
   simp only[Ff,R.Dn,qT,hb']
   rfl
theorem ZE0(hn:n<=30)(hl:as.length<=1000)(h:fbN as 0 n=vR b)(G:DH):Nj [.int n,.fl (as.map encA)] G=.err (XW b) G:=by
 have hb:=(Ol h).2.1;have hL:=ZB2 (s0:=vR (.int n)) (s1:=vR (.fl (as.map encA))) (G:=G) (b:=b) (by lia) n 0 vS h;have hc:=ZKb (as:=as) (G:=G);have hcs:∀S:DSt,Bf 1 [] S=[vS]:=λ_=>rfl
 have hle:(Aw ((as.filter λx=>x.mo.isNone).map Arc.fr)).length<=1000000:=by have:=j3 (λx:Arc=>x.mo.isNone) as;simp only[Aw,zO];lia
 have fz:freeze G (.ok (.ref G.length) (G++[.lst (Aw ((as.filter λx=>x.mo.isNone).map Arc.fr))]))=.ok (.fl (Aw ((as.filter λx=>x.mo.isNone).map Arc.fr))) G:=Cd (La λ_ _=>rfl);have i1:inR (n:Int):=⟨by lia,by lia⟩;have hL':Bt (gV 3) Ha (Bd 0 n) [vR (.int n),vR (.fl (as.map encA)),vR (.fl (Aw ((as.filter λx=>x.mo.isNone).map Arc.fr))),vS] G=.err (XW b) G:=hL;generalize Aw ((as.filter λx=>x.mo.isNone).map Arc.fr)=Z at*
 generalize as.map encA=Y at*;unfold Nj Xu;rw[Bv];simp[hcs,hc,Ar,hle,fz,i1,hL']
theorem ZFy{s:D}(hn:n<=30)(hl:as.length<=1000)(h:fbN as 0 n=vR b)(G:DH):Fw [.int n,.fl (as.map encA),s] G=.err (XW b) G:=by have hc:=ZE0 hn hl h G;generalize as.map encA=Y at*;unfold Fw Yw;rw[Bv];simp[hc]
theorem ZDc{c:Str}{b:Bool}{p:Str×D}{fs:List (Str×D)}(h:G[i]?=vR (.exc c (p::fs))):isx [(c,b)] (.ref i) G=.ok (.bl b) G:=by unfold isx;simp[h]
theorem ZFc{c f:Str}(h:G[i]?=vR (.exc c [(f,d)])):gtx [c] f (.ref i) G=.ok d G:=by unfold gtx;simp[h]
theorem ZEn{ws:List Str}{t:DA}{hb:DS}{x:Xn}(ht:t S G=.ok ds G1)(hF:F ds G1=.err x G2)(hw:x.cls∈ws):Gr ws i F t hb S G=unnm i (hb (S.set i (vR (.ref G2.length))) (G2++[.exc x.cls x.fs])):=by unfold Gr;rw[ht];dsimp only;rw[hF];dsimp only;rw[if_pos hw]
theorem ZLC{ws:List Str}{t:DA}{hb:DS}(ht:t S G=.ok ds G1)(hF:F ds G1=.ok d G2):Gr ws i F t hb S G=.nx S G2:=by unfold Gr;rw[ht];dsimp only;rw[hF]
theorem Zw{x:Option D}(hA:bels G.length A=vT)(hS:bels G.length S'=vT):(Ab (dV 0) (Ab (Ay (dFn Dk (Ab (dV 1) Ag))) (Ab (Ay (dFn Dk (Ab (dV 2) Ag))) Ag))) [vR (.int (n:Int)),vR (.fl A),vR (.fl S'),x] G=.ok [.int n,.fl A,.fl S'] G:=by have f1:freeze G (.ok (.ref G.length) (G++[.lst A]))=.ok (.fl A) G:=Cd hA;have f2:freeze G (.ok (.ref G.length) (G++[.lst S']))=.ok (.fl S') G:=Cd hS;simp[f1,f2]
theorem ZFT{i:Int}(G:DH):Qx [.int i] G=.ok (.bl vT) G:=by unfold Qx ZDK;rw[Bv];simp[K8,tyD,Ty.sub,Ej]
theorem ZHM(hA:∀m,bels m A=vT)(hS:∀m,bels m S'=vT)(hs:∀G,Fw [.int n,.fl A,.fl S'] G=.err (XW b) G)(G:DH):Mu [.int n,.fl A,.fl S'] G=.ok (.tup [.int b]) G:=by
 have hg:(G++[DO.exc "NoWay" [("node",.int b)]])[G.length]?=vR (.exc "NoWay" [("node",.int b)]):=by simp
 have t1:Gr ["NoWay"] 3 Fw (Ab (dV 0) (Ab (Ay (dFn Dk (Ab (dV 1) Ag))) (Ab (Ay (dFn Dk (Ab (dV 2) Ag))) Ag))) Nu [vR (.int n),vR (.fl A),vR (.fl S'),vS] G=.rt (.tup [.int b]) (G++[.exc "NoWay" [("node",.int b)]]):=by rw[ZEn (Zw (hA _) (hS _)) (hs G) (by simp[XW])];show unnm 3 (Nu [vR (.int n),vR (.fl A),vR (.fl S'),vR (.ref G.length)] (G++[.exc "NoWay" [("node",.int b)]]))=_;generalize G++[DO.exc "NoWay" [("node",.int b)]]=G2 at hg;unfold Nu;simp[ZDc hg,ZFc hg,ZFT,unnm,Df]
 have tp:tidy G (.ok (.tup [.int (b:Int)]) (G++[.exc "NoWay" [("node",.int b)]]))=.ok (.tup [.int b]) G:=ZEv (by simp);generalize G++[DO.exc "NoWay" [("node",.int b)]]=G2 at*;unfold Mu Wf;rw[Bv];simp[t1,tp]
theorem ZJj(hA:bels G.length A=vT)(hS:bels G.length S'=vT)(hs:Fw [.int n,.fl A,.fl S'] G=.ok d G):Mu [.int n,.fl A,.fl S'] G=.ok .non G:=by have t1:Gr ["NoWay"] 3 Fw (Ab (dV 0) (Ab (Ay (dFn Dk (Ab (dV 1) Ag))) (Ab (Ay (dFn Dk (Ab (dV 2) Ag))) Ag))) Nu [vR (.int n),vR (.fl A),vR (.fl S'),vS] G=.nx [vR (.int n),vR (.fl A),vR (.fl S'),vS] G:=ZLC (Zw hA hS) hs;unfold Mu Wf;rw[Bv];simp[t1,Ej]
theorem ZHs(hA:∀m,bels m A=vT)(hS:∀m,bels m S'=vT)(hs:∀G,Fw [.int n,.fl A,.fl S'] G=.err (XW b) G)(G:DH):Uh [.int n,.fl A,.fl S'] G=.ok (.bl vT) G:=by
 have hg:(G++[DO.exc "NoWay" [("node",.int b)]])[G.length]?=vR (.exc "NoWay" [("node",.int b)]):=by simp
 have t1:Gr ["NoWay"] 3 Fw (Ab (dV 0) (Ab (Ay (dFn Dk (Ab (dV 1) Ag))) (Ab (Ay (dFn Dk (Ab (dV 2) Ag))) Ag))) S9 [vR (.int n),vR (.fl A),vR (.fl S'),vS] G=.rt (.bl vT) (G++[.exc "NoWay" [("node",.int b)]]):=by rw[ZEn (Zw (hA _) (hS _)) (hs G) (by simp[XW])];show unnm 3 (S9 [vR (.int n),vR (.fl A),vR (.fl S'),vR (.ref G.length)] (G++[.exc "NoWay" [("node",.int b)]]))=_;generalize G++[DO.exc "NoWay" [("node",.int b)]]=G2 at hg;unfold S9;simp[ZDc hg,unnm]
 have tp:tidy G (.ok (.bl vT) (G++[.exc "NoWay" [("node",.int b)]]))=.ok (.bl vT) G:=ZEv (by simp);generalize G++[DO.exc "NoWay" [("node",.int b)]]=G2 at*;unfold Uh ZB3;rw[Bv];simp[t1,tp]
theorem ZJa{y:Arc}(h:fbN as 0 n=vR b)(hy:y.fr=b/\y.mo=vS):∀{b'},fbN (y::as) 0 n=vR b'->b<b':=λ{b'}h'=>by
 obtain⟨_,_,h3,h4⟩:=Ol h;obtain⟨_,_,k3,_⟩:=Ol h';have up:∀k,Ei as k=vT->Ei (y::as) k=vT:=λk hk=>by obtain⟨x,h1,h2⟩:=Q8.mp hk;exact Q8.mpr ⟨x,zZ _ h1,h2⟩
 have at_:Ei (y::as) b=vT:=Q8.mpr ⟨y,zV,hy⟩;by_cases e:b'<b
 ·rw[up b' (h4 b' (qR _) e)]at k3;cases k3
 ·by_cases e2:b'=b
  ·subst e2;rw[at_]at k3;cases k3
  ·lia
theorem ZCe{n:Nat}(n2:n<=30){s0 s3 s5 s6:Option D}{G:DH}:∀(m fu:Nat)(as:List Arc),(∀x∈as,ArcOk n x)->as.length+m<=80->m<fu->(∀b,fbN as 0 n=vR b->n<=b+m)->∃as',(∀x∈as',ArcOk n x)/\as'.length<=80/\fbN as' 0 n=vS/\
  sWh M8 Mm fu [s0,vR (.int n),vR (.fl (as.map encA)),s3,vR (Ig (fbN as 0 n)),s5,s6] G=.nx [s0,vR (.int n),vR (.fl (as'.map encA)),s3,vR .non,s5,s6] G
 |m,0,as,_,_,h,_=>absurd h (jU _)
 | m,fu+1,as,ok,hl,hf,hm=>by
  cases e:fbN as 0 n with
  |none=>
   refine⟨as,ok,by lia,e,?_⟩;unfold sWh M8;simp[Ig,Lw,Cr]
  | some b=>
   obtain⟨_,hbn,_,_⟩:=Ol e;have hm':=hm b e;cases m with
   |zero=>lia
   | succ m=>
    let y:Arc:=⟨b,n,vS,3⟩
    have oy:ArcOk n y:=⟨by show b<n;lia,by show b<n;lia,zK _,(λ_ z=>nomatch z),⟨(by decide:(-1000:Int)<=3),(by decide:(3:Int)<=1000)⟩⟩
    obtain⟨as',h1,h2,h3,ih⟩:=ZCe n2 (s0:=s0) (s3:=s3) (s5:=s5) (s6:=s6) (G:=G) m fu (y::as) (λx hx=>by
     rcases zq.mp hx with rfl|hx
     ·exact oy
     ·exact ok x hx) (by rw[zR];lia) (by lia) (λb' hb'=>by have:=ZJa e (y:=y) ⟨rfl,rfl⟩ hb';lia)
    refine⟨as',h1,h2,h3,?_⟩;have cf:=ZCt (n:=n) (as:=y::as) n2 (by rw[zR];lia) G;have ey:D.tup [.int (b:Int),.int (n:Int),.non,.int 3]=encA y:=rfl;have fy:freeze G (.ok (.ref G.length) (G++[.lst [encA y]]))=.ok (.fl [encA y]) G:=Cd (by simp);have f2:freeze G (.ok (.ref G.length) (G++[.lst ([encA y]++as.map encA)]))=.ok (.fl ((y::as).map encA)) G:=Cd (by simp[Gk]);have hlen:1+(as.map encA).length<=1000000:=by rw[zO];lia
    have hb:Mm [s0,vR (.int n),vR (.fl (as.map encA)),s3,vR (.int b),s5,s6] G=.nx [s0,vR (.int n),vR (.fl ((y::as).map encA)),s3,vR (Ig (fbN (y::as) 0 n)),s5,s6] G:=by generalize(y::as).map encA=Y at*;generalize as.map encA=Z at*;unfold Mm;simp only[j4]at f2;simp[Df,Ar,ey,fy,hlen,f2,cf]
    unfold sWh;have ht:M8 [s0,vR (.int n),vR (.fl (as.map encA)),s3,vR (Ig (vR b)),s5,s6] G=.ok vT G:=by unfold M8;simp[Ig,Lw,Cr]
    rw[ht];show aft (Mm [s0,vR (.int n),vR (.fl (as.map encA)),s3,vR (.int b),s5,s6] G) _=_;rw[hb,Ea,ih]
theorem law64(ns:List Int)(G:DH)(hT:DO.tab "Sending" "send_by"∈G):Jg [.fl (ns.map D.int)] G=.ok (.bl vT) G:=by
 obtain⟨n,as0,s,ok,_,cn⟩:=ZIJ ns G;have n2:=ok.n2;have l0:=ok.len;have c23:∀H:DH,Fj [.fl (ns.map D.int),.int 23] H=.ok (.int (cellAt ns 23)) H:=λH=>Nr (by decide)
 have cs:=ZKt (c:=cellAt ns 23) (as:=as0) (by lia) G;have fs:freeze G (.ok (.ref G.length) (G++[.lst ((as0.filterMap (spo (cellAt ns 23))).map encA)]))=.ok (.fl ((as0.filterMap (spo (cellAt ns 23))).map encA)) G:=Cd Gk;have l1:(as0.filterMap (spo (cellAt ns 23))).length<=40:=z0 (List.length_filterMap_le _ _) l0;have o1:∀x∈as0.filterMap (spo (cellAt ns 23)),ArcOk n x:=λx hx=>by obtain⟨y,hy,e⟩:=jY.mp hx;exact ZLi (ok.arc y hy) e
 generalize as0.filterMap (spo (cellAt ns 23))=as at*;generalize cellAt ns 23=c at*;have net:∀as':List Arc,(∀x∈as',ArcOk n x)->as'.length<=80->fbN as' 0 n=vS->NetOk n as' s:=λas' h1 h2 h3=>⟨ok.n1,n2,h2,h1,λk hk=>Q8.mp (ZDD h3 k (qR _) (by lia)),ok.sl,ok.sn,ok.sb⟩
 have cf:=ZCt (n:=n) (as:=as) n2 (by lia) G;cases e:fbN as 0 n with
 |none=>
  obtain⟨e1,f1,p1,_,_,_,cb⟩:=ZBH (net as o1 (by lia) e) G hT;have cr:=ZJj (G:=G) Gk Cz cb;rw[e]at cf;generalize as.map encA=Y at*;generalize as0.map encA=Y0 at*;generalize s.map D.int=Z at*;unfold Jg Zg Wa ZAS W6 Yd;rw[Bv];simp[cn,c23,cs,fs,cf,cr,Ig,Gm,Cr,Ej]
 |some b=>
  have cbb:=ZFy (s:=.fl (s.map D.int)) n2 (show as.length<=1000 by lia) e;have cr:=ZHM (λm=>Gk) (λm=>Cz) cbb G;have ca:=ZHs (λm=>Gk) (λm=>Cz) cbb G;obtain⟨as',h1,h2,h3,hw⟩:=ZCe n2 (s0:=vR (.fl (ns.map D.int))) (s3:=vR (.fl (s.map D.int))) (s5:=vR (.tup [.int b])) (s6:=vS) (G:=G) n fuel as o1 (by lia) (by unfold fuel;lia) (λb' _=>by lia);obtain⟨e1,f1,p1,_,_,_,cb⟩:=ZBH (net as' h1 h2 h3) G hT
  rw[e]at cf hw;have hw':sWh M8 Mm fuel [vR (.fl (ns.map D.int)),vR (.int n),vR (.fl (as.map encA)),vR (.fl (s.map D.int)),vR (.int b),vR (.tup [.int b]),vS] G=_:=hw;clear hw;have fa:freeze G (.ok (.ref G.length) (G++[.lst (as'.map encA)]))=.ok (.fl (as'.map encA)) G:=Cd Gk;have fz:freeze G (.ok (.ref G.length) (G++[.lst (s.map D.int)]))=.ok (.fl (s.map D.int)) G:=Cd Cz;have fb:freeze G (.ok (.tup [.int e1,.fl (f1.map D.int),.fl (p1.map D.int)]) G)=.ok (.tup [.int e1,.fl (f1.map D.int),.fl (p1.map D.int)]) G:=ZGN (by simp[Cz])
  have en:Hn (.tup [.int (b:Int)]) (.tup [.int (b:Int)]) G=.ok (.bl vU) G:=ZGi rfl;have i1:K8 [.tup [.int e1,.fl (f1.map D.int),.fl (p1.map D.int)],.ty "tuple"] G=.ok (.bl vT) G:=by simp[K8,tyD,Ty.sub]
  have i2:Dr [.tup [.int e1,.fl (f1.map D.int),.fl (p1.map D.int)]] G=.ok (.int 3) G:=by simp
  generalize D.tup [.int e1,.fl (f1.map D.int),.fl (p1.map D.int)]=T at*;generalize as.map encA=Y at*;generalize as'.map encA=Y' at*;generalize as0.map encA=Y0 at*;generalize s.map D.int=Z at*;generalize hF:fuel=FU at*;unfold Jg Zg Wa ZAS W6 Yd ZDN ZDl ZBL ZBD;rw[Bv,hF];simp[cn,c23,cs,fs,cf,cr,ca,Ig,Gm,Cr,Df,en,hw',fa,fz,cb,fb,i1,i2,Ej]
theorem holds:Holds:=λns _=>⟨_,law64 ns _ (by simp)⟩
end _W
namespace _W
open PySem _L _D
seal QE QT QA QS QSs QG QGs QI QTs QW QO
structure Txt (K:PySem.W.Frag) (mg:Str->Option xB) (base:Heap):Prop where
 J9:FT K mg "_law_cell_at" ZAJ ZAg
 Pr:FT K mg "_law_first_bad" Rr X8
 Er:FT K mg "_law_mix" V1 Vv
 Ql:FT K mg "_law_amount" Wq ZAB
 Fx:FT K mg "_law_take" Vp Yq
 Sd:FT K mg "_law_read_net" Uk Z4
 Rq:FT K mg "_law_net" Oo ZAh
 Tt:FT K mg "_law_whole" Yp ZAC
 Lb:MT K "Sending" "add_link" "Sending.add_link" V5 W4
 Oa:MT K "Sending" "__init__" "Sending.__init__" T5 Wo
 Oe:MT K "Sending" "best_way" "Sending.best_way" Vk Zm
 Kw:MT K "Sending" "best_ways" "Sending.best_ways" Rm Xb
 Om:MT K "Sending" "flow_sent" "Sending.flow_sent" Sx ZAK
 Qa:MT K "Sending" "gain_of" "Sending.gain_of" Xl Xj
 Q5:MT K "Sending" "links_of" "Sending.links_of" Vb Wc
 Qi:MT K "Sending" "send_along" "Sending.send_along" Vy Wn
 Ji:MT K "Sending" "send_by" "Sending.send_by" Tj Vh
 N8:FT K mg "check_ways" Tg Z6
 N7:FT K mg "best" Px Ws
 Tw:FT K mg "_law_refused" Vl ZAO
 Ru:FT K mg "_law_refused_by_any" W5 Za
 Qu:FT K mg "_law_spoilt" Wt Vr
 Qn:FT K mg "law" Gn Vu
 Am:CT K mg "Sending"
 Jk:NoAttr K (Af K "Sending") "ends"
 Ja:NoAttr K (Af K "Sending") "left"
 Mf:NoAttr K (Af K "Sending") "links_from"
 Ip:NoAttr K (Af K "Sending") "rooms"
 Mz:NoAttr K (Af K "Sending") "scale"
 Mh:NoAttr K (Af K "Sending") "worths"
 ZMZ:mg "ValueError"=vS
 ZKi:mg "bool"=vS
 ZKP:mg "enumerate"=vS
 ZDY:mg "int"=vS
 Ls:mg "isinstance"=vS
 Jh:mg "len"=vS
 Km:mg "list"=vS
 ZCg:mg "min"=vS
 Hu:mg "range"=vS
 ZFm:mg "sorted"=vS
 W7:mg "sum"=vS
 ZJi:mg "tuple"=vS
 ZL1:mg "zip"=vS
 Oc:mg "FROM"=vR (.int 0 (Hz K "FROM"))
 Pb:mg "GAIN"=vR (.int 3 (Hz K "GAIN"))
 Oq:mg "MOST"=vR (.int 2 (Hz K "MOST"))
 Rh:mg "TO"=vR (.int 1 (Hz K "TO"))
 Td:MT K "NoWay" "__init__" "NoWay.__init__" Xg ["self","node"]
 Ep:ET K mg "NoWay" "node"
 Zb:XBase K mg "WaterError" (Af K "WaterError")
 Vo:mg "NoAsk"=vR (.ref (Af K "NoAsk"))
 Z8:mg "NoBounds"=vR (.ref (Af K "NoBounds"))
 Ux:mg "NoHouse"=vR (.ref (Af K "NoHouse"))
 ZAQ:mg "NoLevel"=vR (.ref (Af K "NoLevel"))
 Xc:mg "NoName"=vR (.ref (Af K "NoName"))
 Us:mg "NoNumber"=vR (.ref (Af K "NoNumber"))
 Xr:mg "NoPump"=vR (.ref (Af K "NoPump"))
 Yo:mg "NoRiver"=vR (.ref (Af K "NoRiver"))
 V6:mg "NoRow"=vR (.ref (Af K "NoRow"))
 Xo:mg "NoRule"=vR (.ref (Af K "NoRule"))
 Zz:mg "NoText"=vR (.ref (Af K "NoText"))
 Qz:mg "NoWay"=vR (.ref (Af K "NoWay"))
 Yi:mg "TooLong"=vR (.ref (Af K "TooLong"))
 Wz:mg "WaterError"=vR (.ref (Af K "WaterError"))
 Zh:takes K (Af K "NoWay") (Af K "NoWay")=vT
 Wm:takes K (Af K "NoWay") (Af K "WaterError")=vT
 Ur:Du (PySem.W.kitOne K (.ref (Af K "NoWay")) (.ref (Af K "NoWay"))) vT=vT
 Xi:Du (PySem.W.kitOne K (.ref (Af K "NoWay")) (.type "ValueError")) vT=vT
 Z0:Du (PySem.W.kitAny K (.ref (Af K "NoWay")) ((["NoAsk","NoBounds","NoHouse","NoLevel","NoName","NoNumber"]:List Str).map λw=>Value.ref (Af K w))) vU=vT
 Xe:Du (PySem.W.kitAny K (.ref (Af K "NoWay")) ((["NoPump","NoRiver","NoRow","NoRule","NoText","TooLong"]:List Str).map λw=>Value.ref (Af K w))) vU=vT
 bm:BMd base mg
theorem ZIZ{K:PySem.W.Frag}{C m x qual:Str}{Ca f c P:xW}{st:xA}{fd:xq}(hN:PySem.W.nsIn K vW C=vR (vR (.ref Ca)))(hm:PySem.W.findIn K (.ref Ca) m=vR (vR (.ref f)))(F:Fun K x qual st f fd)(t:TabAt K C m c P):fd.code=.ref c:=by obtain⟨Ca',f',oc,od,fd',sl,e1,e2,e3,e4,_⟩:=t;rw[hN]at e1;cases e1;rw[hm]at e2;cases e2;obtain⟨oc2,od2,kV,doc,pm,an,cdv,ct,osl,e5,lk,_⟩:=F.ex;rw[lk]at e3;cases e3;exact e4
section
variable{P:xj}{w:xC}{K:PySem.W.Frag}{mg:Str->Option xB}{base:Heap}
theorem ZMM(T:Txt K mg base):FnOk P w K mg base CX0 1 (Bw K (Af K "NoWay") "__init__") (Bj K (Bw K (Af K "NoWay") "__init__")) ["self","node"] (spI (Af K "NoWay") "node"):=
 ZFV (k:=0) T.Td.F ZKH T.Ep.X T.Zb rfl (by decide +kernel) (by decide +kernel) rfl rfl rfl rfl (.inl rfl) (.inl rfl) (λ_=>⟨_,rfl⟩)
theorem Mi(T:Txt K mg base):FnO P w K mg base 1 "_law_cell_at" ZAg Fj:=by
 refine Dm T.J9.F ZKO λcdv A outer s H E hr=>?_
 exact(Al (Dc (Cm Uq (Aa 1) (Ek Jp rfl T.Jh Jr (Ae (Aa 0) Ai)) (nomark _)) (Ax (Bx (Bh Bl (Aa 0) (Aa 1)))) Dh) (Ax (Bx Ah)))
theorem ZDr(T:Txt K mg base):FnO P w K mg base 1 "_law_first_bad" X8 Qf:=by
 refine Dm T.Pr.F ZCF λcdv A outer s H E hr=>?_
 exact(Al (Gh PassesOwn.never rfl (Jv rfl T.Hu (Ae (Aa 0) Ai)) (Bs 2 ZCF.nd) (Ax (Dc (Cm (Ft hr.units) (Ek Jp rfl T.Jh Jr (Ae (Bo (Kc rfl (Hh (dn:=(Ao Rr).names) (N0:=W2) (N:=["_law_arc","_law_node"]) (nt:=1) (caps:=[2])) (Hi (Aa 1)) (λC s₀ H₀ ex=>(Bs 0 (show(["_law_arc","_law_node"]:List Str).Nodup by decide +kernel))) (Gu (by decide)) (λC s₀ H₀ ex=>(W3 (Qk (ZCz (Cm (Ft hr.units) (Bh Bl (Aa 0) Ah) (Aa 1) (nomark _)) (ZDM (Cm Mx (Bh Bl (Aa 0) Ah) Eb (nomark _))))))) (λC s₀ H₀ ex=>(Aa 0)))) Ai)) Ah (nomark _)) (Ax (Bx (Aa 2))) Dh))) (Ax (Bx Eb)))
theorem Gb(T:Txt K mg base):FnO P w K mg base 1 "_law_mix" Vv Ci:=by
 refine Dm T.Er.F ZJo λcdv A outer s H E hr=>?_
 exact(Ax (Bx (An Fp (An Fp (An Gq (Aa 0) Ah) (Aa 1)) (Aa 2))))
theorem ZEY(T:Txt K mg base):FnO P w K mg base 2 "_law_amount" ZAB Jy:=by
 refine Dm T.Ql.F ZMU λcdv A outer s H E hr=>?_
 exact(Al (Dc (Cm (Ft hr.units) (Aa 1) Ah (nomark _)) (Ax (Bx (An Fp (An Gq (Aa 0) Ah) (An Bq (An Nh Ah Ah) Ah)))) Dh) (Ax (Bx (An Gq (Bg (Gb T) T.Er hr (Ae (Aa 0) (Ae Ah (Ae Ah Ai)))) (Aa 2)))))
theorem Hf(T:Txt K mg base):FnO P w K mg base 1 "_law_take" Yq Dg:=by
 refine Dm T.Fx.F ZCC λcdv A outer s H E hr=>?_
 exact(Al (Az 2 ZCC.nd (Bh Bl (Aa 0) Ah)) (Al (Rf (An Lf (Aa 2) (Aa 1)) (Wu (Aa 0) Ah)) (Ax (Bx (An Fp (Aa 2) (Aa 1))))))
theorem ZMW(T:Txt K mg base):FnO P w K mg base 2 "_law_read_net" Z4 Ub:=by
 refine Dm T.Sd.F Fd λcdv A outer s H E hr=>?_
 exact(Al (Az 1 Fd.nd (An Bq Ah (Bg (Hf T) T.Fx hr (Ae (Aa 0) (Ae Ah Ai))))) (Al (Az 2 Fd.nd (Bh Bl (Bo (Eo (Ae Ah (Ae Ah (Ae (An Bq (An Nh Ah Ah) Ah) (Ae (An Nh Ah Ah) Ai)))))) (Bg (Hf T) T.Fx hr (Ae (Aa 0) (Ae Ah Ai))))) (Al (Az 3 Fd.nd (Ez (Eo Ai))) (Al (Gh PassesOwn.never rfl (Jv rfl T.Hu (Ae (Aa 1) Ai)) (Bs 4 Fd.nd) (Al (Az 5 Fd.nd (An Bq (An Bq (Aa 4) Ah) (Bg (Hf T) T.Fx hr (Ae (Aa 0) (Ae (An Gw (Aa 1) (Aa 4)) Ai))))) (Ax (Ga (Jm PySem.F.slot_list_append PySem.F.type_list_append K7 (Aa 3) (Ae (Ew (Ae (Aa 4) (Ae (Aa 5) (Ae Eb (Ae (An Gw (Bg (Hf T) T.Fx hr (Ae (Aa 0) (Ae Ah Ai))) Ah) Ai))))) Ai)))))) (Al (Gh PassesOwn.never rfl (Jv rfl T.Hu (Ae (Bg (Hf T) T.Fx hr (Ae (Aa 0) (Ae Ah Ai))) Ai)) (Bs 4 Fd.nd) (Al (Az 6 Fd.nd (Bg (Hf T) T.Fx hr (Ae (Aa 0) (Ae (Aa 1) Ai)))) (Al (Az 5 Fd.nd (An Bq (An Bq (Aa 6) Ah) (Bg (Hf T) T.Fx hr (Ae (Aa 0) (Ae (An Gw (Aa 1) (Aa 6)) Ai))))) (Al (Az 7 Fd.nd (An Gq (Bg (Hf T) T.Fx hr (Ae (Aa 0) (Ae Ah Ai))) (Aa 2))) (Al (Dc (Cm (Ft hr.units) (Aa 7) (An Gq Ah (Aa 2)) (nomark _)) (Ax (Az 7 Fd.nd Eb)) Dh) (Al (Az 8 Fd.nd (Ew (Ae (Aa 6) (Ae (Aa 5) (Ae (Aa 7) (Ae (An Gw (Bg (Hf T) T.Fx hr (Ae (Aa 0) (Ae Ah Ai))) Ah) Ai)))))) (Al (Az 9 Fd.nd (Bg (Hf T) T.Fx hr (Ae (Aa 0) (Ae (An Bq (Ek Jp rfl T.Jh Jr (Ae (Aa 3) Ai)) Ah) Ai)))) (Ax (Az 3 Fd.nd (Ez (An Bq (Bo (An Bq (Bo (Kr (Aa 3) N6 (K4 (Aa 9)))) (Bo (Eo (Ae (Aa 8) Ai))))) (Bo (Kr (Aa 3) (K4 (Aa 9)) N6))))))))))))) (Al (V3 10 rfl Fd.nd (Hh (dn:=(Ao Uk).names) (N0:=Zt) (N:=["_law_k","_law_pool","_law_scale"]) (nt:=1) (caps:=[0,2])) (Jv rfl T.Hu (Ae (Aa 1) Ai)) (λC s₀ H₀ ex=>(Bs 0 (show(["_law_k","_law_pool","_law_scale"]:List Str).Nodup by decide +kernel))) (Gu (by decide)) (λC s₀ H₀ ex=>Kd) (λC s₀ H₀ ex=>(An Gq (Bg (Hf T) T.Fx hr (Ae (Aa 1) (Ae Ah Ai))) (Aa 2)))) (Ax (Bx (Ew (Ae (Aa 1) (Ae (Aa 3) (Ae (Aa 10) Ai))))))))))))
theorem ZMP(T:Txt K mg base):FnO P w K mg base 3 "_law_net" ZAh Li:=by
 refine Dm T.Rq.F Cv λcdv A outer s H E hr=>?_
 exact(Al (Az 1 Cv.nd (Bg (Mi T) T.J9 hr (Ae (Aa 0) (Ae Ah Ai)))) (Al (Dc (Nt (ZFB o_le Uq Ah (Bg (Mi T) T.J9 hr (Ae (Aa 0) (Ae Ah Ai))) (An Nh Ah Ah))) (Ax (Bx (Bg (ZMW T) T.Sd hr (Ae (Ez (Eo (Ae (Bg (Mi T) T.J9 hr (Ae (Aa 0) (Ae Ah Ai))) Ai))) Ai)))) Dh) (Al (Az 2 Cv.nd (An Fp (Aa 1) Ah)) (Al (Az 3 Cv.nd (Bh Bl (Bo (Eo (Ae Ah (Ae Ah (Ae (An Bq (An Nh Ah Ah) Ah) (Ae (An Nh Ah Ah) Ai)))))) (An Fp (An Lf (Aa 1) Ah) Ah))) (Al (Az 4 Cv.nd (An Bq Ah (An Fp (An Lf (Aa 1) Ah) Ah))) (Al (Dc (Cm (Ft hr.units) (Aa 2) Ah (nomark _)) (Ax (Az 4 Cv.nd (An Bq Ah (An Fp (An Lf (Aa 1) Ah) Ah)))) Dh) (Al (Az 5 Cv.nd (Rt (Mp Uq (Aa 2) Ah (nomark _)) (Tz (Mp (Ft hr.units) (Bg (Gb T) T.Er hr (Ae (Aa 1) (Ae Ah (Ae Ah Ai)))) Ah (nomark _))))) (Al (Dc (J6 (Aa 5)) (Ax (Az 4 Cv.nd (An Bq Ah (An Fp (An Lf (Aa 1) Ah) Ah)))) Dh) (Al (Az 6 Cv.nd (Bh Bl (Bo (Eo (Ae Ah (Ae Ah (Ae Ah Ai))))) (Bg (Gb T) T.Er hr (Ae (Aa 1) (Ae Ah (Ae Ah Ai)))))) (Al (Az 7 Cv.nd (Ez (Eo Ai))) (Al (Gh PassesOwn.never rfl (Jv rfl T.Hu (Ae (Aa 4) Ai)) (Bs 8 Cv.nd) (Al (Az 9 Cv.nd (Bg (Mi T) T.J9 hr (Ae (Aa 0) (Ae (An Bq Ah (Aa 8)) Ai)))) (Al (Az 10 Cv.nd (An Gw (Aa 4) (Aa 8))) (Al (Dc (J6 (Aa 5)) (Ax (Az 10 Cv.nd (Ek (ZDz rfl) rfl T.ZCg ZDJ (Ae (Aa 10) (Ae Ah Ai))))) Dh) (Ax (Ga (Jm PySem.F.slot_list_append PySem.F.type_list_append K7 (Aa 7) (Ae (Ew (Ae (Aa 8) (Ae (An Bq (An Bq (Aa 8) Ah) (Bg (Gb T) T.Er hr (Ae (Aa 9) (Ae Ah (Ae (Aa 10) Ai))))) (Ae Eb (Ae (An Gq (An Gw (Bg (Gb T) T.Er hr (Ae (Aa 9) (Ae Ah (Ae Ah Ai)))) Ah) (Aa 6)) Ai))))) Ai)))))))) (Al (Gh PassesOwn.never rfl (Hi (Bo (Kr (Aa 0) (K4 Ah) (K4 (An Bq Ah (Bh Bl (Bo (Eo (Ae Ah (Ae Ah (Ae Ah (Ae Ah Ai)))))) (Aa 2))))))) (Bs 9 Cv.nd) (Al (Az 11 Cv.nd (Bg (Gb T) T.Er hr (Ae (Aa 9) (Ae Ah (Ae (Aa 4) Ai))))) (Al (Az 12 Cv.nd (Bg (ZEY T) T.Ql hr (Ae (Aa 9) (Ae (Aa 2) (Ae (Aa 3) Ai))))) (Al (Dc (Cm (Ft hr.units) (Bg (Gb T) T.Er hr (Ae (Aa 9) (Ae Ah (Ae Ah Ai)))) Ah (nomark _)) (Ax (Az 12 Cv.nd Eb)) Dh) (Al (Az 13 Cv.nd (Ew (Ae (Aa 11) (Ae (An Bq (An Bq (Aa 11) Ah) (Bg (Gb T) T.Er hr (Ae (Aa 9) (Ae Ah (Ae (An Gw (Aa 4) (Aa 11)) Ai))))) (Ae (Aa 12) (Ae (An Gq (An Gw (Bg (Gb T) T.Er hr (Ae (Aa 9) (Ae Ah (Ae Ah Ai)))) Ah) (Aa 6)) Ai)))))) (Al (Az 14 Cv.nd (Bg (Gb T) T.Er hr (Ae (Aa 9) (Ae Ah (Ae (An Bq (Ek Jp rfl T.Jh Jr (Ae (Aa 7) Ai)) Ah) Ai))))) (Ax (Az 7 Cv.nd (Ez (An Bq (Bo (An Bq (Bo (Kr (Aa 7) N6 (K4 (Aa 14)))) (Bo (Eo (Ae (Aa 13) Ai))))) (Bo (Kr (Aa 7) (K4 (Aa 14)) N6)))))))))))) (Al (ZAY (Az 15 Cv.nd (Kc rfl (Hh (dn:=(Ao Oo).names) (N0:=Rb) (N:=["_law_k","_law_script","_law_kind","_law_scale"]) (nt:=1) (caps:=[0,2,3])) (Jv rfl T.Hu (Ae (Aa 4) Ai)) (λC s₀ H₀ ex=>(Bs 0 (show(["_law_k","_law_script","_law_kind","_law_scale"]:List Str).Nodup by decide +kernel))) (Gu (by decide)) (λC s₀ H₀ ex=>Kd) (λC s₀ H₀ ex=>(Bg (ZEY T) T.Ql hr (Ae (Bg (Mi T) T.J9 hr (Ae (Aa 1) (Ae (An Bq Ah (Aa 0)) Ai))) (Ae (Aa 2) (Ae (Aa 3) Ai)))))))) (Al (Dc (J6 (Aa 5)) (Ax (ZAY (Az 15 Cv.nd (Kc rfl (Hh (dn:=(Ao Oo).names) (N0:=Rb) (N:=["_law_k","_law_cell","_law_supplies"]) (nt:=1) (caps:=[1,15])) (Jv rfl T.Hu (Ae (Aa 4) Ai)) (λC s₀ H₀ ex=>(Bs 0 (show(["_law_k","_law_cell","_law_supplies"]:List Str).Nodup by decide +kernel))) (Gu (by decide)) (λC s₀ H₀ ex=>Kd) (λC s₀ H₀ ex=>(An Gq (Bh Bl (Aa 2) (Aa 0)) (Jl ZL2 rfl T.ZDY ZED (Ae (Mp (Ft hr.units) (An Fp (Aa 0) Ah) (An Fp (An Lf (Aa 1) Ah) Ah) (nomark _)) Ai)))))))) Dh) (Ax (Bx (Ew (Ae (Aa 4) (Ae (Aa 7) (Ae (Aa 15) Ai))))))))))))))))))))
theorem ZFe(T:Txt K mg base):FnH P w K mg base 1 "_law_whole" ZAC Qx:=by
 refine ZGH T.Tt.F ZGQ λcdv A outer s H E hr=>?_
 exact(Ax (Bx (Rt (Ek Zf rfl T.Ls Qh (Ae (Aa 0) (Ae (Ww rfl T.ZDY ZED) Ai))) (Tz (ZKI (Ek Zf rfl T.Ls Qh (Ae (Aa 0) (Ae (Ww rfl T.ZKi ZJ5) Ai))))))))
theorem ZAp(T:Txt K mg base):MtO P w K mg base 1 "Sending" "add_link" W4 H9:=by
 refine Dm T.Lb.F ZHL λcdv A outer s H E hr=>?_
 exact(Al (Ga (Jm PySem.F.slot_list_append PySem.F.type_list_append K7 (Bh Bl (Ce T.Am.N T.Am.cl T.Mf (Aa 0)) (Aa 1)) (Ae (Ez (Ek Jp rfl T.Jh Jr (Ae (Ce T.Am.N T.Am.cl T.Jk (Aa 0)) Ai))) Ai))) (Al (Ga (Jm PySem.F.slot_list_append PySem.F.type_list_append K7 (Ce T.Am.N T.Am.cl T.Jk (Aa 0)) (Ae (Ez (Aa 2)) Ai))) (Al (Ga (Jm PySem.F.slot_list_append PySem.F.type_list_append K7 (Ce T.Am.N T.Am.cl T.Mh (Aa 0)) (Ae (Ez (An Gw (An Gq (Aa 3) (Ce T.Am.N T.Am.cl T.Mz (Aa 0))) Ah)) Ai))) (Ax (Ga (Jm PySem.F.slot_list_append PySem.F.type_list_append K7 (Ce T.Am.N T.Am.cl T.Ip (Aa 0)) (Ae (Ez (Aa 4)) Ai)))))))
theorem ZFb(T:Txt K mg base):MtO P w K mg base 2 "Sending" "__init__" Wo Ui:=by
 refine Dm T.Oa.F Vc λcdv A outer s H E hr=>?_
 exact(Al (Az 4 Vc.nd (An Bq (Ek (Vd rfl) rfl T.W7 Vz (Ae (Aa 3) Ai)) Ah)) (Al (My T.Am.N T.Am.cl T.Mz (Aa 0) (An Bq (Aa 1) Ah)) (Al (My T.Am.N T.Am.cl T.Ja (Aa 0) (Ez (An Bq (Bo (Jl (Lz rfl) rfl T.Km Ld (Ae (Aa 3) Ai))) (Bo (Eo (Ae Ah Ai)))))) (Al (My T.Am.N T.Am.cl T.Mf (Aa 0) (Kc rfl (Hh (dn:=(Ao T5).names) (N0:=We) (N:=["cubes"]) (nt:=1) (caps:=[])) (Hi (Ce T.Am.N T.Am.cl T.Ja (Aa 0))) (λC s₀ H₀ ex=>(Bs 0 (show(["cubes"]:List Str).Nodup by decide +kernel))) (Gu (by decide)) (λC s₀ H₀ ex=>Kd) (λC s₀ H₀ ex=>(Ez (Eo Ai))))) (Al (My T.Am.N T.Am.cl T.Jk (Aa 0) (Ez (Eo Ai))) (Al (My T.Am.N T.Am.cl T.Mh (Aa 0) (Ez (Eo Ai))) (Al (My T.Am.N T.Am.cl T.Ip (Aa 0) (Ez (Eo Ai))) (Ax (Gh PassesOwn.never rfl (Hi (Aa 2)) (Bs 5 Vc.nd) (Al (Ga (Kl T.Am.N T.Am.cl T.Lb.me (ZAp T) (hr.mono (by decide)) T.Lb.b pass0 (Aa 0) (Ae (Bh Bl (Aa 5) (Hg (v:=(.int 0)) rfl T.Oc ⟨_,rfl⟩ (λ_ _=>rfl))) (Ae (Bh Bl (Aa 5) (Hg (v:=(.int 1)) rfl T.Rh ⟨_,rfl⟩ (λ_ _=>rfl))) (Ae (Bh Bl (Aa 5) (Hg (v:=(.int 3)) rfl T.Pb ⟨_,rfl⟩ (λ_ _=>rfl))) (Ae (ZDH (Cm Mx (Bh Bl (Aa 5) (Hg (v:=(.int 2)) rfl T.Oq ⟨_,rfl⟩ (λ_ _=>rfl))) Eb (nomark _)) (Aa 4) (Bh Bl (Aa 5) (Hg (v:=(.int 2)) rfl T.Oq ⟨_,rfl⟩ (λ_ _=>rfl)))) Ai)))))) (Ax (Ga (Kl T.Am.N T.Am.cl T.Lb.me (ZAp T) (hr.mono (by decide)) T.Lb.b pass0 (Aa 0) (Ae (Bh Bl (Aa 5) (Hg (v:=(.int 1)) rfl T.Rh ⟨_,rfl⟩ (λ_ _=>rfl))) (Ae (Bh Bl (Aa 5) (Hg (v:=(.int 0)) rfl T.Oc ⟨_,rfl⟩ (λ_ _=>rfl))) (Ae (Ks Ke (Bh Bl (Aa 5) (Hg (v:=(.int 3)) rfl T.Pb ⟨_,rfl⟩ (λ_ _=>rfl)))) (Ae Ah Ai)))))))))))))))))
theorem ZJI(T:Txt K mg base):MtO P w K mg base 1 "Sending" "best_way" Zm O3:=by
 refine Dm T.Oe.F Mj λcdv A outer s H E hr=>?_
 exact(Al (Az 3 Mj.nd (Bh Bl (Aa 2) (Aa 1))) (Al (Gh PassesOwn.never rfl (Hi (Bh Bl (Ce T.Am.N T.Am.cl T.Mf (Aa 0)) (Aa 1))) (Bs 4 Mj.nd) (Al (Az 5 Mj.nd (Bh Bl (Aa 2) (Bh Bl (Ce T.Am.N T.Am.cl T.Jk (Aa 0)) (Aa 4)))) (Ax (Dc (Qk (ZCz (Cm o_gt (Bh Bl (Ce T.Am.N T.Am.cl T.Ip (Aa 0)) (Aa 4)) Ah (nomark _)) (ZDM (Cm Vm (Aa 5) Eb (nomark _))))) (Al (Az 6 Mj.nd (An Bq (Aa 5) (Bh Bl (Ce T.Am.N T.Am.cl T.Mh (Aa 0)) (Aa 4)))) (Ax (Dc (Qk (ZAN (Cm Mx (Aa 3) Eb (nomark _)) (Ve (Cm Uq (Aa 3) (Aa 6) (nomark _))))) (Ax (Az 3 Mj.nd (Aa 6))) Dh))) Dh)))) (Ax (Bx (Aa 3)))))
theorem ZET(T:Txt K mg base):MtO P w K mg base 2 "Sending" "best_ways" Xb Iw:=by
 refine Dm T.Kw.F Lr λcdv A outer s H E hr=>?_
 exact(Al (V3 1 rfl Lr.nd (Hh (dn:=(Ao Rm).names) (N0:=Vx) (N:=["cubes"]) (nt:=1) (caps:=[])) (Hi (Ce T.Am.N T.Am.cl T.Ja (Aa 0))) (λC s₀ H₀ ex=>(Bs 0 (show(["cubes"]:List Str).Nodup by decide +kernel))) (Gu (by decide)) (λC s₀ H₀ ex=>Kd) (λC s₀ H₀ ex=>Eb)) (Al (Rf Ah (Wu (Aa 1) (Ks Ke Ah))) (Al (Az 2 Lr.nd Ma) (Al (Z9 fuel PassesOwn.never (Nt (J6 (Aa 2))) (Al (Az 2 Lr.nd Ma) (Ax (Gh PassesOwn.never rfl (ZIl rfl T.Hu (Ae (An Gw (Ek Jp rfl T.Jh Jr (Ae (Aa 1) Ai)) Ah) (Ae (Ks Ke Ah) (Ae (Ks Ke Ah) Ai)))) (Bs 3 Lr.nd) (Al (Az 4 Lr.nd (Kl T.Am.N T.Am.cl T.Oe.me (ZJI T) (hr.mono (by decide)) T.Oe.b pass0 (Aa 0) (Ae (Aa 3) (Ae (Aa 1) Ai)))) (Ax (Dc (Cm (o_ne hr.units) (Aa 4) (Bh Bl (Aa 1) (Aa 3)) (nomark _)) (Al (Rf (Aa 4) (Wu (Aa 1) (Aa 3))) (Ax (Az 2 Lr.nd Ma))) Dh))))))) (Ax (Bx (Aa 1)))))))
theorem ZHH(T:Txt K mg base):MtO P w K mg base 1 "Sending" "flow_sent" ZAK Ko:=by
 refine Dm T.Om.F ZF0 λcdv A outer s H E hr=>?_
 exact(Ax (Bx (Kc rfl (Hh (dn:=(Ao Sx).names) (N0:=Uu) (N:=["link","room"]) (nt:=2) (caps:=[])) (ZGY rfl T.ZKP (Ae (Ce T.Am.N T.Am.cl T.Ip (Aa 0)) Ai)) (λC s₀ H₀ ex=>(Um rfl (H8 (Bs 0 (show(["link","room"]:List Str).Nodup by decide +kernel)) (H8 (Bs 1 (show(["link","room"]:List Str).Nodup by decide +kernel)) Ug)))) (ZBC (S8 (Gu (by decide)) (S8 (Gu (by decide)) ZCD))) (λC s₀ H₀ ex=>(W3 (Cm (Ft hr.units) (An Fp (Aa 0) Ah) Ah (nomark _)))) (λC s₀ H₀ ex=>(Aa 1)))))
theorem ZHX(T:Txt K mg base):MtO P w K mg base 1 "Sending" "gain_of" Xj Ky:=by
 refine Dm T.Qa.F ZHD λcdv A outer s H E hr=>?_
 exact(Ax (Bx (Ks Ke (An Lf (Ks Ke (Aa 1)) (Ce T.Am.N T.Am.cl T.Mz (Aa 0))))))
theorem ZH7(T:Txt K mg base):MtO P w K mg base 1 "Sending" "links_of" Wc Pz:=by
 refine Dm T.Q5.F ZMF λcdv A outer s H E hr=>?_
 exact(Ax (Bx (An Fp (Ks Ke (Aa 1)) (Ce T.Am.N T.Am.cl T.Mz (Aa 0)))))
theorem ZFJ(T:Txt K mg base):MtO P w K mg base 1 "Sending" "send_along" Wn O9:=by
 refine Dm T.Qi.F ZCB λcdv A outer s H E hr=>?_
 exact(Al (Az 4 ZCB.nd (ZDH (Cm (Ft hr.units) (An Fp (Aa 2) Ah) Ah (nomark _)) (An Bq (Aa 2) Ah) (An Gw (Aa 2) Ah))) (Al (Ul (Ce T.Am.N T.Am.cl T.Ja (Aa 0)) (Aa 1) (Aa 3) ZCx) (Al (Ul (Ce T.Am.N T.Am.cl T.Ja (Aa 0)) (Bh Bl (Ce T.Am.N T.Am.cl T.Jk (Aa 0)) (Aa 2)) (Aa 3) ZBR) (Al (Ul (Ce T.Am.N T.Am.cl T.Ip (Aa 0)) (Aa 2) (Aa 3) ZCx) (Ax (Ul (Ce T.Am.N T.Am.cl T.Ip (Aa 0)) (Aa 4) (Aa 3) ZBR))))))
theorem ZJs(T:Txt K mg base):MtO P w K mg base 5 "Sending" "send_by" Vh Pk:=by
 refine ZK6 T.Ji.F U5 λcdv A outer s H E hcd hr=>?_
 exact(Al (Az 2 U5.nd (Bo (ZIe (k:=1) (C:="Sending") (m:="send_by") (x:="node") rfl rfl T.ZFm rfl T.Hu (Ae (An Gw (Ek Jp rfl T.Jh Jr (Ae (Aa 1) Ai)) Ah) Ai) (Hh (dn:=(Ao Tj).names) (N0:=Xk) (N:=["node","self","ways"]) (nt:=1) (caps:=[0,1])) rfl rfl rfl rfl (λ_ _ _ _ _=>rfl) rfl rfl T.bm (λc P t=>hcd.symm.trans (ZIZ T.Am.N T.Ji.me.at_ T.Ji.F t)) (hr.mono (by decide)) (λf c A s H hr=>(Kl T.Am.N T.Am.cl T.Q5.me (ZH7 T) (hr.mono (by decide)) T.Q5.b pass0 (Aa 1) (Ae (Bh Bl (Aa 2) (Aa 0)) Ai)))))) (Ax (Gh PassesOwn.never rfl (Hi (Aa 2)) (Bs 3 U5.nd) (Ax (Gh PassesOwn.never rfl (Hi (Bh Bl (Ce T.Am.N T.Am.cl T.Mf (Aa 0)) (Aa 3))) (Bs 4 U5.nd) (Ax (Dc (Cm (Ft hr.units) (Bh Bl (Aa 1) (Aa 3)) (An Bq (Bh Bl (Aa 1) (Bh Bl (Ce T.Am.N T.Am.cl T.Jk (Aa 0)) (Aa 4))) (Bh Bl (Ce T.Am.N T.Am.cl T.Mh (Aa 0)) (Aa 4))) (nomark _)) (Ax (Ga (Kl T.Am.N T.Am.cl T.Qi.me (ZFJ T) (hr.mono (by decide)) T.Qi.b pass0 (Aa 0) (Ae (Aa 3) (Ae (Aa 4) (Ae (Ek (ZDz rfl) rfl T.ZCg ZDJ (Ae (Bh Bl (Ce T.Am.N T.Am.cl T.Ja (Aa 0)) (Aa 3)) (Ae (Bh Bl (Ce T.Am.N T.Am.cl T.Ip (Aa 0)) (Aa 4)) Ai))) Ai)))))) Dh)))))))
theorem ZLT(T:Txt K mg base):FnX P w K mg base 3 "check_ways" Z6 Nj:=by
 refine ZCn T.N8.F Xf λcdv A outer s H E hr=>?_
 exact(Al (ZFQ (ZAY (V3 2 rfl Xf.nd (Hh (dn:=(Ao Tg).names) (N0:=Wh) (N:=["arc"]) (nt:=1) (caps:=[])) (Hi (Aa 1)) (λC s₀ H₀ ex=>(Bs 0 (show(["arc"]:List Str).Nodup by decide +kernel))) (Gu (by decide)) (λC s₀ H₀ ex=>(W3 (Cm Mx (Bh Bl (Aa 0) (Hg (v:=(.int 2)) rfl T.Oq ⟨_,rfl⟩ (λ_ _=>rfl))) Eb (nomark _)))) (λC s₀ H₀ ex=>(Bh Bl (Aa 0) (Hg (v:=(.int 0)) rfl T.Oc ⟨_,rfl⟩ (λ_ _=>rfl))))))) (Ax (Gh ownX rfl (Jv rfl T.Hu (Ae (Aa 0) Ai)) (Bs 3 Xf.nd) (Ax (Dc (Cm ZL7 (Aa 3) (Aa 2) (by with_unfolding_all rfl)) (Ax (ZLm T.Ep (ZMM T) T.Td.b hr (Ae (Aa 3) Ai))) Dh)))))
theorem Ze(T:Txt K mg base):FnX P w K mg base 6 "best" Ws Fw:=by
 refine ZCn T.N7.F Np λcdv A outer s H E hr=>?_
 exact(Al (Ga (ZCA (ZLT T) (hr.mono (by decide)) rfl T.N8.m T.N8.k T.N8.b ZHl (Ae (Aa 0) (Ae (Aa 1) Ai)))) (ZGq (Al (Az 3 Np.nd (ZIQ T.Am.N T.Am.mK (ZFb T) (hr.mono (by decide)) rfl T.Am.g T.Oa.b pass0 (Ae (Aa 0) (Ae (Aa 1) (Ae (Aa 2) Ai))))) (Al (Az 4 Np.nd (Bo (Wv T.Am.N T.Am.cl T.Kw.me (ZET T) (hr.mono (by decide)) T.Kw.b pass0 (Aa 3)))) (Al (Z9 fuel ownX (Cm o_gt (Ek (Vd rfl) rfl T.W7 Vz (Ae (Bo (Kr (Ce T.Am.N T.Am.cl T.Ja (Aa 3)) N6 (K4 (Aa 0)))) Ai)) Ah (nomark _)) (Al (Ga (Kl T.Am.N T.Am.cl T.Ji.me (ZJs T) (hr.mono (by decide)) T.Ji.b pass0 (Aa 3) (Ae (Aa 4) Ai))) (Ax (Az 4 Np.nd (Bo (Wv T.Am.N T.Am.cl T.Kw.me (ZET T) (hr.mono (by decide)) T.Kw.b pass0 (Aa 3))))))) (Al (Az 5 Np.nd (Bo (Wv T.Am.N T.Am.cl T.Om.me (ZHH T) (hr.mono (by decide)) T.Om.b pass0 (Aa 3)))) (Al (Az 6 Np.nd (Ek (Vd rfl) rfl T.W7 Vz (Ae (Bo (Kc rfl (Hh (dn:=(Ao Px).names) (N0:=S7) (N:=["cubes","arc"]) (nt:=2) (caps:=[])) (ZGS rfl T.ZL1 (Ae (Aa 5) (Ae (Aa 1) Ai))) (λC s₀ H₀ ex=>(Um rfl (H8 (Bs 0 (show(["cubes","arc"]:List Str).Nodup by decide +kernel)) (H8 (Bs 1 (show(["cubes","arc"]:List Str).Nodup by decide +kernel)) Ug)))) (ZBC (S8 (Gu (by decide)) (S8 (Gu (by decide)) ZCD))) (λC s₀ H₀ ex=>Kd) (λC s₀ H₀ ex=>(An Gq (Aa 0) (Bh Bl (Aa 1) (Hg (v:=(.int 3)) rfl T.Pb ⟨_,rfl⟩ (λ_ _=>rfl))))))) Ai))) (Ax (Bx (Ew (Ae (Aa 6) (Ae (Aa 5) (Ae (Bo (Kc rfl (Hh (dn:=(Ao Px).names) (N0:=S7) (N:=["way","sending"]) (nt:=1) (caps:=[3])) (Hi (Bo (Kr (Aa 4) N6 (K4 (Aa 0))))) (λC s₀ H₀ ex=>(Bs 0 (show(["way","sending"]:List Str).Nodup by decide +kernel))) (Gu (by decide)) (λC s₀ H₀ ex=>Kd) (λC s₀ H₀ ex=>(Kl T.Am.N T.Am.cl T.Qa.me (ZHX T) (hr.mono (by decide)) T.Qa.b pass0 (Aa 1) (Ae (Aa 0) Ai))))) Ai)))))))))))))
theorem ZGk(T:Txt K mg base):FnO P w K mg base 7 "_law_refused" ZAO Mu:=by
 refine Dm T.Tw.F ZCu λcdv A outer s H E hr=>?_
 exact(Al (ZDE T.Ep.N T.Zh T.Qz (Ze T) T.N7 hr (Ae (Aa 0) (Ae (Bo (Jl (Lz rfl) rfl T.Km Ld (Ae (Aa 1) Ai))) (Ae (Bo (Jl (Lz rfl) rfl T.Km Ld (Ae (Aa 2) Ai))) Ai))) ZCu.nd (λea hr=>(Al (Dc (J6 (ZBK T.Ep.N T.Ep.G T.Ls (Gx T.Vo (Gx T.Z8 (Gx T.Ux (Gx T.ZAQ (Gx T.Xc (Gx T.Us ZA0)))))) T.Z0 (Aa 3))) (Ax (Bx (Ew (Ae Ut Ai)))) Dh) (Al (Dc (J6 (ZBK T.Ep.N T.Ep.G T.Ls (Gx T.Xr (Gx T.Yo (Gx T.V6 (Gx T.Xo (Gx T.Zz (Gx T.Yi ZA0)))))) T.Xe (Aa 3))) (Ax (Bx (Ew (Ae Ut Ai)))) Dh) (Al (Dc (Nt (J6 (ZJq (ZFe T) T.Tt hr (Ae (ZEj T.Ep (Aa 3)) Ai)))) (Ax (Bx (Ew (Ae Ut Ai)))) Dh) (Ax (Bx (Ew (Ae (ZEj T.Ep (Aa 3)) Ai))))))))) (Ax (Bx Eb)))
theorem ZIy(T:Txt K mg base):FnO P w K mg base 7 "_law_refused_by_any" Za Uh:=by
 refine Dm T.Ru.F ZCj λcdv A outer s H E hr=>?_
 exact(Al (ZDE T.Ep.N T.Wm T.Wz (Ze T) T.N7 hr (Ae (Aa 0) (Ae (Bo (Jl (Lz rfl) rfl T.Km Ld (Ae (Aa 1) Ai))) (Ae (Bo (Jl (Lz rfl) rfl T.Km Ld (Ae (Aa 2) Ai))) Ai))) ZCj.nd (λea hr=>(Ax (Bx (Rt (ZKG T.Ep.N T.Ep.G T.Ls T.ZMZ (by decide +kernel) T.Xi (Aa 3)) (Tz (ZHr T.Ep.N T.Ep.G T.Ls T.Qz T.Ur (Aa 3)))))))) (Ax (Bx Ma)))
theorem ZMB(T:Txt K mg base):FnO P w K mg base 2 "_law_spoilt" Vr Ry:=by
 refine Dm T.Qu.F Lp λcdv A outer s H E hr=>?_
 exact(Al (Az 2 Lp.nd (Ez (Eo Ai))) (Al (Gh PassesOwn.never rfl (Hi (Aa 0)) (Um rfl (H8 (Bs 3 Lp.nd) (H8 (Bs 4 Lp.nd) (H8 (Bs 5 Lp.nd) (H8 (Bs 6 Lp.nd) Ug))))) (Al (Az 7 Lp.nd (Mp (Ft hr.units) (Bg (Gb T) T.Er hr (Ae (Aa 1) (Ae (An Bq Ah (An Gq Ah (Aa 3))) (Ae Ah Ai)))) Ah (nomark _))) (Ax (Dc (Qk (ZAN (Nt (J6 (Aa 7))) (Ve (Cm Vm (Aa 5) Eb (nomark _))))) (Ax (Ga (Jm PySem.F.slot_list_append PySem.F.type_list_append K7 (Aa 2) (Ae (Ew (Ae (Aa 3) (Ae (Aa 4) (Ae (Aa 5) (Ae (Aa 6) Ai))))) Ai)))) (Ax (Dc (Cm (Ft hr.units) (Bg (Gb T) T.Er hr (Ae (Aa 1) (Ae Ah (Ae Ah Ai)))) Ah (nomark _)) (Ax (Ga (Jm PySem.F.slot_list_append PySem.F.type_list_append K7 (Aa 2) (Ae (Ew (Ae (Aa 3) (Ae (Aa 4) (Ae (Bg (Gb T) T.Er hr (Ae (Aa 1) (Ae Ah (Ae Ah Ai)))) (Ae (Aa 6) Ai))))) Ai)))) Dh)))))) (Ax (Bx (Aa 2)))))
theorem ZGp(T:Txt K mg base):FnO P w K mg base 8 "law" Vu Jg:=by
 refine Dm T.Qn.F Hq λcdv A outer s H E hr=>?_
 exact(Al (Rf (Bo (Bg (ZMP T) T.Rq hr (Ae (Aa 0) Ai))) (Um rfl (H8 (Bs 1 Hq.nd) (H8 (Bs 2 Hq.nd) (H8 (Bs 3 Hq.nd) Ug))))) (Al (Az 2 Hq.nd (Bo (Bg (ZMB T) T.Qu hr (Ae (Aa 2) (Ae (Bg (Mi T) T.J9 hr (Ae (Aa 0) (Ae Ah Ai))) Ai))))) (Al (Az 4 Hq.nd (Bg (ZDr T) T.Pr hr (Ae (Aa 1) (Ae (Aa 2) Ai)))) (Al (Az 5 Hq.nd (Bg (ZGk T) T.Tw hr (Ae (Aa 1) (Ae (Aa 2) (Ae (Aa 3) Ai))))) (Al (Dc (Cm Mx (Aa 4) Eb (nomark _)) (Ax (Bx (Mp Mx (Aa 5) Eb (nomark _)))) Dh) (Al (Dc (Qk (ZAN (Cm (o_ne hr.units) (Aa 5) (Ew (Ae (Aa 4) Ai)) (nomark _)) (Ve (Nt (J6 (Bg (ZIy T) T.Ru hr (Ae (Aa 1) (Ae (Aa 2) (Ae (Aa 3) Ai))))))))) (Ax (Bx Ma)) Dh) (Al (Z9 fuel PassesOwn.never (Cm Vm (Aa 4) Eb (nomark _)) (Al (Az 2 Hq.nd (Bo (An Bq (Bo (Eo (Ae (Ew (Ae (Aa 4) (Ae (Aa 1) (Ae Eb (Ae Ah Ai))))) Ai))) (Aa 2)))) (Ax (Az 4 Hq.nd (Bg (ZDr T) T.Pr hr (Ae (Aa 1) (Ae (Aa 2) Ai))))))) (Al (Az 6 Hq.nd (Bo (ZGa (Ze T) T.N7 hr (Ae (Aa 1) (Ae (Bo (Jl (Lz rfl) rfl T.Km Ld (Ae (Aa 2) Ai))) (Ae (Bo (Jl (Lz rfl) rfl T.Km Ld (Ae (Aa 3) Ai))) Ai)))))) (Ax (Bx (Rt (Ek Zf rfl T.Ls Qh (Ae (Aa 6) (Ae (Ww rfl T.ZJi ZGe) Ai))) (Tz (Mp (Ft hr.units) (Ek Jp rfl T.Jh Jr (Ae (Aa 6) Ai)) Ah (nomark _))))))))))))))
end
def asks:List Ask:=[.cl "Sending",.fn "_law_cell_at" ZAJ,.fn "_law_first_bad" Rr,.fn "_law_mix" V1,.fn "_law_amount" Wq,.fn "_law_take" Vp,.fn "_law_read_net" Uk,.fn "_law_net" Oo,.fn "_law_whole" Yp,.mt "Sending" "add_link" "Sending.add_link" V5,.mt "Sending" "__init__" "Sending.__init__" T5,.mt "Sending" "best_way" "Sending.best_way" Vk,.mt "Sending" "best_ways" "Sending.best_ways" Rm,.mt "Sending" "flow_sent" "Sending.flow_sent" Sx,.mt "Sending" "gain_of" "Sending.gain_of" Xl,.mt "Sending" "links_of" "Sending.links_of" Vb,.mt "Sending" "send_along" "Sending.send_along" Vy,.mt "Sending" "send_by" "Sending.send_by" Tj,.fn "check_ways" Tg,.fn "best" Px,.fn "_law_refused" Vl,.fn "_law_refused_by_any" W5,.fn "_law_spoilt" Wt,.fn "law" Gn,.no "Sending" "ends",.no "Sending" "left",.no "Sending" "links_from",.no "Sending" "rooms",.no "Sending" "scale",.no "Sending" "worths",.z "ValueError",.z "bool",.z "enumerate",.z "int",.z "isinstance",.z "len",.z "list",.z "min",.z "range",.z "sorted",.z "sum",.z "tuple",.z "zip",.gi "FROM" 0,.gi "GAIN" 3,.gi "MOST" 2,.gi "TO" 1,.mt "NoWay" "__init__" "NoWay.__init__" Xg,.ck (Wy "NoWay" "node"),.ck (Vg "WaterError"),.ck (λK=>gOk K "NoAsk"),.ck (λK=>gOk K "NoBounds"),.ck (λK=>gOk K "NoHouse"),.ck (λK=>gOk K "NoLevel"),.ck (λK=>gOk K "NoName"),.ck (λK=>gOk K "NoNumber"),.ck (λK=>gOk K "NoPump"),.ck (λK=>gOk K "NoRiver"),.ck (λK=>gOk K "NoRow"),.ck (λK=>gOk K "NoRule"),.ck (λK=>gOk K "NoText"),.ck (λK=>gOk K "NoWay"),.ck (λK=>gOk K "TooLong"),.ck (λK=>gOk K "WaterError"),.ck (λK=>takes K (Af K "NoWay") (Af K "NoWay")),.ck (λK=>takes K (Af K "NoWay") (Af K "WaterError")),.ck (λK=>Du (PySem.W.kitOne K (.ref (Af K "NoWay")) (.ref (Af K "NoWay"))) vT),.ck (λK=>Du (PySem.W.kitOne K (.ref (Af K "NoWay")) (.type "ValueError")) vT),.ck (λK=>Du (PySem.W.kitAny K (.ref (Af K "NoWay")) ((["NoAsk","NoBounds","NoHouse","NoLevel","NoName","NoNumber"]:List Str).map λw=>Value.ref (Af K w))) vU),.ck (λK=>Du (PySem.W.kitAny K (.ref (Af K "NoWay")) ((["NoPump","NoRiver","NoRow","NoRule","NoText","TooLong"]:List Str).map λw=>Value.ref (Af K w))) vU)]
theorem all_mk{l:PySem.W.OpenLaw}{w:xC}{K:PySem.W.Frag}{h:Heap}{mg:Str->Option xB}{fa ZAi T0:xW}(X:K.In h)(G:h.Ns vW mg)(hfa:mg "law"=vR (.ref fa))(tb1:(Bj K (Bw K (Af K "Sending") "send_by")).code=.ref ZAi)(ZEy:PySem.W.codeHdIn K ZAi T0=vT)(ZMb:PySem.W.noTabs K=vT)(S:AllSaid K asks):
  ∃(fd:xq)(c:xW),(∀(s:xy)(v:xB),BindsTo s fd ⟨[v],[]⟩ [("_law_script",v)])/\PySem.W.codeHdIn K c T0=vT/\PySem.W.noTabs K=vT/\TabAt K "Sending" "send_by" c T0/\∀base:Heap,K.In base->base.Ns vW mg->BMd base mg->FnOk l.prog w K mg base CX0 8 fa fd ["_law_script"] (lF K Jg):=by
 obtain⟨Am,J9,Pr,Er,Ql,Fx,Sd,Rq,Tt,Lb,Oa,Oe,Kw,Om,Qa,Q5,Qi,Ji,N8,N7,Tw,Ru,Qu,Qn,Jk,Ja,Mf,Ip,Mz,Mh,ZMc,ZMd,ZMe,ZMf,ZMg,ZMh,ZMi,ZMj,ZMk,ZMl,ZMm,ZMn,ZMo,Oc,Pb,Oq,Rh,Td,Ep,Zb,Vo,Z8,Ux,ZAQ,Xc,Us,Xr,Yo,V6,Xo,Zz,Qz,Yi,Wz,Zh,Wm,Ur,Xi,Z0,Xe,_⟩:=S
 have T:∀base,BMd base mg->Txt K mg base:=λbase hbm=>⟨Fi X G J9 (λ_ _ _ _ _ _ us hl=>match us,hl with |[_,_],_=>rfl),
  Fi X G Pr (λ_ _ _ _ _ _ us hl=>match us,hl with |[_,_],_=>rfl),
  Fi X G Er (λ_ _ _ _ _ _ us hl=>match us,hl with |[_,_,_],_=>rfl),
  Fi X G Ql (λ_ _ _ _ _ _ us hl=>match us,hl with |[_,_,_],_=>rfl),
  Fi X G Fx (λ_ _ _ _ _ _ us hl=>match us,hl with |[_,_],_=>rfl),
  Fi X G Sd (λ_ _ _ _ _ _ us hl=>match us,hl with |[_],_=>rfl),
  Fi X G Rq (λ_ _ _ _ _ _ us hl=>match us,hl with |[_],_=>rfl),
  Fi X G Tt (λ_ _ _ _ _ _ us hl=>match us,hl with |[_],_=>rfl),
  Ie Lb (λ_ _ _ _ _ _ us hl=>match us,hl with |[_,_,_,_,_],_=>rfl),
  Ie Oa (λ_ _ _ _ _ _ us hl=>match us,hl with |[_,_,_,_],_=>rfl),
  Ie Oe (λ_ _ _ _ _ _ us hl=>match us,hl with |[_,_,_],_=>rfl),
  Ie Kw (λ_ _ _ _ _ _ us hl=>match us,hl with |[_],_=>rfl),
  Ie Om (λ_ _ _ _ _ _ us hl=>match us,hl with |[_],_=>rfl),
  Ie Qa (λ_ _ _ _ _ _ us hl=>match us,hl with |[_,_],_=>rfl),
  Ie Q5 (λ_ _ _ _ _ _ us hl=>match us,hl with |[_,_],_=>rfl),
  Ie Qi (λ_ _ _ _ _ _ us hl=>match us,hl with |[_,_,_,_],_=>rfl),
  Ie Ji (λ_ _ _ _ _ _ us hl=>match us,hl with |[_,_],_=>rfl),
  Fi X G N8 (λ_ _ _ _ _ _ us hl=>match us,hl with |[_,_],_=>rfl),
  Fi X G N7 (λ_ _ _ _ _ _ us hl=>match us,hl with |[_,_,_],_=>rfl),
  Fi X G Tw (λ_ _ _ _ _ _ us hl=>match us,hl with |[_,_,_],_=>rfl),
  Fi X G Ru (λ_ _ _ _ _ _ us hl=>match us,hl with |[_,_,_],_=>rfl),
  Fi X G Qu (λ_ _ _ _ _ _ us hl=>match us,hl with |[_,_],_=>rfl),
  Fi X G Qn (λ_ _ _ _ _ _ us hl=>match us,hl with |[_],_=>rfl),
  ZHN X G Am Oa,
  Jk,
  Ja,
  Mf,
  Ip,
  Mz,
  Mh,
  PySem.W.mg_none_of X G ZMc,
  PySem.W.mg_none_of X G ZMd,
  PySem.W.mg_none_of X G ZMe,
  PySem.W.mg_none_of X G ZMf,
  PySem.W.mg_none_of X G ZMg,
  PySem.W.mg_none_of X G ZMh,
  PySem.W.mg_none_of X G ZMi,
  PySem.W.mg_none_of X G ZMj,
  PySem.W.mg_none_of X G ZMk,
  PySem.W.mg_none_of X G ZMl,
  PySem.W.mg_none_of X G ZMm,
  PySem.W.mg_none_of X G ZMn,
  PySem.W.mg_none_of X G ZMo,
  PySem.W.mg_of X G Oc,
  PySem.W.mg_of X G Pb,
  PySem.W.mg_of X G Oq,
  PySem.W.mg_of X G Rh,
  Ie Td (λ_ _ _ _ _ _ us hl=>match us,hl with |[_,_],_=>rfl),
  ZFE X G Ep,
  ZFL X G Zb,
  Fq X G Vo,
  Fq X G Z8,
  Fq X G Ux,
  Fq X G ZAQ,
  Fq X G Xc,
  Fq X G Us,
  Fq X G Xr,
  Fq X G Yo,
  Fq X G V6,
  Fq X G Xo,
  Fq X G Zz,
  Fq X G Qz,
  Fq X G Yi,
  Fq X G Wz,
  Zh,
  Wm,
  Ur,
  Xi,
  Z0,
  Xe,hbm⟩
 have eL:mg "law"=vR (.ref (Af K "law")):=PySem.W.mg_of X G Qn.1;obtain rfl:fa=Af K "law":=by rw[hfa]at eL;cases eL;rfl
 obtain⟨a1,a2,a3⟩:=Ji;have l1:=a3.1;rw[tb1]at l1;exact⟨_,ZAi,λs v=>ZFk (Pj Qn.2),ZEy,ZMb,⟨_,_,_,_,_,_,Am.1,a1,l1,rfl,ZEy⟩,λbase _ _ hbm=>ZGp (T base hbm)⟩
theorem walk{l:PySem.W.OpenLaw}{q:xj}{loose:List Str}{XP:(Str->Option xB)->Heap->Prop}{YP:xC->Heap->Prop}{d:DefRec}{K:xC->PySem.W.Frag}{T0:xC->xW}(hn:l.most=vR 63)(hdf:d.params.defaults=[])(HH:Holds)
  (hY:∀(w:xC)(h:Heap),YP w h->(K w).In h/\h.get? (T0 w)=vR (PySem.W.tabObj #[]))
  (F:∀(w:xC)(mg:Str->Option xB)(fa:xW)(h:Heap),(K w).In h->h.Ns vW mg->mg d.name=vR (.ref fa)->
   ∃(fd:xq)(c:xW),(∀(s:xy)(u:xB),BindsTo s fd ⟨[u],[]⟩ [("_law_script",u)])/\PySem.W.codeHdIn (K w) c (T0 w)=vT/\PySem.W.noTabs (K w)=vT/\TabAt (K w) "Sending" "send_by" c (T0 w)/\∀base:Heap,(K w).In base->base.Ns vW mg->BMd base mg->FnOk l.prog w (K w) mg base CX0 8 fa fd ["_law_script"] (lF (K w) Jg)):
  PySem.W.WalkO q loose XP YP l.row.toRowW d [] (λf vs=>PySem.call f vs):=
 ZLX (n:=63) (k:=8) (x:="_law_script") (sp:=λw=>lF (K w) Jg) hn (by decide) hdf ⟨rfl,by decide,by decide⟩ hY λw mg fa h k1 k2 k3=>by
  obtain⟨fd,c,hb,hC,hK,tA,hF⟩:=F w mg fa h k1 k2 k3;refine⟨fd,c,hb,hC,hK,λH a ns hl hO hT hS=>?_,hF⟩;obtain⟨G,hG⟩:=HH ns hl;refine⟨⟨K w,1,λ_=>T0 w,H⟩,[.tab "Sending" "send_by"],[.fl (ns.map D.int)],rfl,rfl,⟨rfl,λi j h1 h2 _=>?_,λi o h=>?_,λi h=>?_⟩,Reps.cons ⟨a,ns.map V.int,rfl,?_,Reps.ints ns⟩ Reps.nil,?_⟩
  ·have h1':i<1:=h1;have h2':j<1:=h2;lia
  ·cases i with
   |zero=>
    have h':o=.tab "Sending" "send_by":=by simpa using h.symm
    subst h';exact⟨c,T0 w,tA,#[],hT,trivial,λpos cv z=>by cases z⟩
   |succ i=>simp at h
  ·show H (T0 w)≠vS;rw[hT];intro z;cases z
  ·rcases hS with(hS|hS)|hS
   ·rcases hO a with z|⟨o,xs,z⟩|⟨_,z⟩
    ·rw[z]at hS;cases hS
    ·rw[z]at hS;cases hS
    ·rw[z]at hS;cases hS
   ·exact .inl hS
   ·exact .inr hS
  ·rw[hG];exact λb v _ _ r=>r
end _W
set_option maxRecDepth 100000
namespace _W
open PySem PySem.W _L _D
abbrev rw_:OpenLaw:=PySem.Challenge.rw_sluiceway_k64_no_way
abbrev pw:xj:=OpenLaw.prog PySem.Challenge.rw_sluiceway_k64_no_way
def vw:xj:=view pw (zJ 36)
theorem ZFv:∀w os,(Xy pw w os).map (λs=>(ZAF pw w s.abs,PySem.W.Fast.tw4187177175401517315 vw [] (PySem.W.Fast.tw5923862056798008813 pw.main.body) (XtOf rw_ vw) vT s.abs,Xx "Sending" "send_by" asks s.abs.heap))=vR (vT,openGood vw [],Zk asks):=λw os=>by kernel_rfl
theorem Q4:∀w,(openEnds vx pw w 100000).map (λs=>(openSeen vw [] (xR pw.main.body) (XtOf rw_ vw) vT s,Xx "Sending" "send_by" asks s.heap))=vR (openGood vw [],Zk asks):=ZMI (by kernel_rfl) (λs=>rfl) ZFv
theorem well:rw_.wellSaid=vT:=ZIf (by kernel_rfl)
theorem hdef:defOf vw rw_.row.name=vR (dOf Gn,[]):=by kernel_rfl
theorem hp:rw_.row.prog.theDef rw_.row.name=vR ((dOf Gn).params,(dOf Gn).body,(dOf Gn).scope):=by kernel_rfl
theorem hk:kwWritten? (dOf Gn).params.kwonlyargs (dOf Gn).params.kw_defaults=vR []:=by kernel_rfl
theorem hok:(chainsOk vw&&opensWell rw_.row.prog&&(frees rw_.row.toRowW&&rw_.row.within.isEmpty))=vT:=by kernel_rfl
theorem hdf:(dOf Gn).params.defaults=[]:=by kernel_rfl
theorem hbare:rw_.row.prog.bare:=⟨rfl,rfl,rfl,rfl,rfl,by decide +kernel⟩
theorem hw:rw_.row.toRowW.promised:=by w_witness2
theorem walked:WalkO vw [] (XL vw []) (Stays rw_.prog 100000) rw_.row.toRowW (dOf Gn) [] λf vs=>PySem.call f vs:=
 walk (l:=rw_) (K:=λw=>Br (Gy pw 100000 w)) (T0:=λw=>Og (Br (Gy pw 100000 w)) (Ij (Br (Gy pw 100000 w)) "Sending" "send_by")) rfl hdf holds (λw h Y=>⟨Y.in,Y _ _ (Zd (Prod.mk.inj (R7 Q4 w)).1).2.2⟩) λw mg fa h KX G hmg=>all_mk KX G (show mg "law"=_ from hmg) (Zd (Prod.mk.inj (R7 Q4 w)).1).1 (Zd (Prod.mk.inj (R7 Q4 w)).1).2.1 (ZFK _) (ZDo (Prod.mk.inj (R7 Q4 w)).2)
end _W
open PySem PySem.W PyProof.Rows _D
theorem PySem.Challenge.cw_sluiceway_k64_no_way_holds : PySem.Challenge.rw_sluiceway_k64_no_way.Holds := by
 refine holds_top (l:=_W.rw_) (q:=_W.vw) (loose:=[]) (N:=100000) (see:=Xx "Sending" "send_by" _W.asks) (val:=Zk _W.asks) (d:=dOf _W.Gn) ?_ ?_ ?_ ?_ ?_ ?_ ?_ ?_ ?_ ?_
 ·exact _W.well
 ·exact _W.Q4
 ·exact _W.hdef
 ·exact _W.hp
 ·exact _W.hk
 ·rfl
 ·exact _W.hok
 ·exact _W.hbare
 ·exact _W.hw
 ·exact _W.walked
