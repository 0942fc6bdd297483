import PyProof.Rows.All
import Wide.All
import OpenK.AllK
import Wide.FinOn
import Lean
import PyProof.EqAt
import PyProof.EqKinds
import PyProof.TupleCall
import PyProof.NeKinds
import PyProof.IsInstanceH
import PyProof.SumWalkG
import PyProof.ConsumeWalk
import PyProof.IsiNone
import PyProof.WalksMore
import PyProof.PlainList
import PyProof.CompFree
import KE.KIntText
import PyProof.DictTable
import PyProof.ExcInit
import PyProof.ExcClass2
import PyProof.ExcBaseAll.ValueError
import OpenK.KOwn
import PyProof.RulesAs
import PyProof.NsDelKeeps
import PySem.Challenge.RW_sluiceway_k02_rivers_of_a_house
set_option compiler.extract_closed false
set_option bootstrap.genMatcherCode false
set_option genSizeOf false
set_option Elab.async false
set_option linter.all false
set_option maxRecDepth 100000
open Option renaming some→xE,none→xF
open Bool renaming true→xG,false→xH
open List renaming getElem?_eq_getElem→zJ,mem_cons_of_mem→zX,size_toArray→zW,mem_cons→zz,map_cons→zj,range→zx,getElem?_eq_some_iff→zv,length_map→zw,mem_cons_self→zk,mem_append_right→z9,getElem?_append_right→zA,getD_eq_getElem?_getD→zB,mem_map→zD,getElem?_map→zF,filterMap_cons→zH,replicate→zI,getElem?_append_left→zL,drop_eq_getElem_cons→zM,getElem?_eq_none→zN,mem_range→zO,mem_append→zP,all_eq_true→zS,append_nil→zU,mem_of_mem_take→qJ,drop_of_length_le→qX,length_take→qV,getElem_mem→qW,length_append→qK,getElem?_set→qq,getElem?_replicate→qz,map_nil→qj,range'→qx,length_cons→qw,lookup_cons→qk,mem_singleton→qy,map_map→q8,foldl_cons→q9,length_drop→qA,filterMap_map→qB,set→qG,getElem?_set_ne→qH,mem_of_mem_drop→qI,take_length→qL,all_cons→qN,getElem?_eq_none_iff→qO,getElem_of_mem→qP,mem_drop_iff_getElem→qR,mem_filter→qS,nodup_cons→qT,getElem?_take_of_lt→qU,range_succ_eq_map→jZ,length_replicate→jJ,lookup→jX,length_filter_le→jV,not_mem_nil→jW,mem_append_left→jY,length_set→jq
open Nat renaming lt_of_lt_of_le→zZ,le_refl→zK,le_trans→z0,ne_of_lt→zC,lt_irrefl→zE,lt_succ_self→zR,le_succ→qC,le_of_ble_eq_true→qD,ne_of_gt→jQ
open Int renaming emod_nonneg→qZ,emod_lt_of_pos→q0,le_refl→jj
open Option renaming map_eq_some_iff→z8,map_some→jz
open Bool renaming and_eq_true→zY,false_ne_true→zq,and_eq_true_iff→qY
open Array renaming getElem?_eq_some_iff→zG,length_toList→qM
open PySem.Heap renaming get?_push_of_some→zQ,lt_size→zV,get?_push_size→zy,get?_update_other→zT,get?_update_self→qQ,size_push→qE,SameBut→qF,get?_none_of_le→jK
open PySem renaming Addr→jx,Around→jv,Expr→jk,FuncData→jy,NameKind→j0,Program→j1,Scope→j2,Shared→j3,Stmt→j4,Value→j5,World→j6,assignEach→j7,attributeBase→j8,backTo→j9,behindInMarks→jA,binaryOp→jB,bootBuiltins→jC,call_isinstance→jD,codeAny_mono→jE,compareOp→jF,importedModules→jG,isSubtype→jH,isinstance_false_int→jI,isinstance_false_list→jL,isinstance_false_none→jM,isinstance_false_str→jN,isinstance_false_tuple→jO,letOwnedTupleGo→jP,mainGlobals→jR,model→jS,rawInt→jT,sliceBounds→jU,starEach→xQ,treeTable→xZ,wpAny→xJ,wpAny_Call_Name_kw→xX,wpAny_bind→xV,wpAny_callSpecial?_slot→xW,wpAny_call_entry→xK,wpAny_field→xY,wpAny_holding→xq,wpAny_mono→xz,wpAny_newObj_type→xj,wpAny_passesOwn→xk,wpAny_pure→xy,wpAny_setField_rec→x9,wpAny_truthy_bool→xA
open PySem.W renaming Frag→xB,boot_heap→xC
set_option maxHeartbeats 0
noncomputable section
namespace _L
open PySem PySem.Spec PyProof.Rows
variable{us:List j5}{a b:jx}{P:j1}{w:j6}{h base:Heap}{t' i k:Nat}{ch fp:List jx}{x:Str}{u:j5}{Q:Unit->j3->Prop}{e tg:jk}{A:jv}{E:j5->j3->Prop}{s:j3}{xD:List (jx×Obj)}{K:PySem.W.Frag}{f:j5->j5->Sem j5}{op:CmpOp}{mg:Str->Option j5}{kindOf:Str->Option j0}
noncomputable abbrev Key:=Sum Int Str
def ZBB:Key->j5->Bool
 |.inl k,v=>Value.isInt k v
 |.inr x,v=>Value.isStrOf x v
def keyH(w:j6):Key->Int
 |.inl k=>hashInt k
 |.inr x=>hashStr w x
theorem Hr:∀{k:Key}{v:j5},ZBB k v=xG->(∃i t,k=Sum.inl i/\v=Value.int i t)∨(∃x t,k=Sum.inr x/\v=Value.str x t)
 |.inl i,v,h=>by obtain⟨t,e⟩:=Value.isInt_shape (k:=i) (v:=v) h;exact .inl ⟨i,t,rfl,e⟩
 |.inr x,v,h=>by obtain⟨t,e⟩:=Value.isStrOf_shape (x:=x) (v:=v) h;exact .inr ⟨x,t,rfl,e⟩
theorem ZJI(a b:Int):decide ((Sum.inl a:Key)=Sum.inl b)=(a==b):=by
 by_cases e:a=b
 ·subst e;simp
 ·have h:¬(Sum.inl a:Key)=Sum.inl b:=λq=>e (Sum.inl.inj q)
  rw[decide_eq_false h];exact(beq_eq_false_iff_ne.mpr e).symm
theorem ZJo(a b:Str):decide ((Sum.inr a:Key)=Sum.inr b)=decide (a=b):=by
 by_cases e:a=b
 ·subst e;simp
 ·have h:¬(Sum.inr a:Key)=Sum.inr b:=λq=>e (Sum.inr.inj q)
  rw[decide_eq_false h,decide_eq_false e]
theorem ZIO(a:Int)(b:Str):decide ((Sum.inl a:Key)=Sum.inr b)=xH:=decide_eq_false (λq=>nomatch q)
theorem ZH2(a:Str)(b:Int):decide ((Sum.inr a:Key)=Sum.inl b)=xH:=decide_eq_false (λq=>nomatch q)
def ZBu(prog:j1)(w:j6):PySem.KeyKind prog w Key where
 is:=ZBB
 hash:=keyH w
 inj:=λv a b ha hb=>by
  rcases Hr ha with⟨i,t,rfl,rfl⟩|⟨x,t,rfl,rfl⟩
  ·rcases Hr hb with⟨j,u,rfl,e⟩|⟨y,u,rfl,e⟩
   ·injection e with e1 _;rw[e1]
   ·exact nomatch e
  ·rcases Hr hb with⟨j,u,rfl,e⟩|⟨y,u,rfl,e⟩
   ·exact nomatch e
   ·injection e with e1 _;rw[e1]
 byValue:=λk v h=>by rcases Hr h with⟨i,t,rfl,rfl⟩|⟨x,t,rfl,rfl⟩<;>rfl
 pyHash:=λhv h=>by
  rcases Hr hv with⟨i,t,rfl,rfl⟩|⟨x,t,rfl,rfl⟩
  ·exact wpAny_pyHash_int h
  ·exact wpAny_pyHash_str h
 eqBool:=λhu hv h=>by
  rcases Hr hu with⟨i,t,rfl,rfl⟩|⟨x,t,rfl,rfl⟩
  ·rcases Hr hv with⟨j,u,rfl,rfl⟩|⟨y,u,rfl,rfl⟩
   ·rw[ZJI]at h;exact wpAny_eqBool_int h
   ·rw[ZIO]at h;exact SeqAt.EqAt.int_str i t y u _ _ _ _ h
  ·rcases Hr hv with⟨j,u,rfl,rfl⟩|⟨y,u,rfl,rfl⟩
   ·rw[ZH2]at h;exact SeqAt.EqAt.str_int x t j u _ _ _ _ h
   ·rw[ZJo]at h;exact wpAny_eqBool_str h
 «strs»:=λk x t v h=>by
  rcases Hr h with⟨i,u,rfl,e⟩|⟨y,u,rfl,e⟩
  ·exact nomatch e
  ·injection e with e1 _
   subst e1
   cases v<;>rfl
inductive V where
 |non|bl (b:Bool)|int (i:Int)|str (x:Str)|byt (b:Array UInt8)|flt (b:UInt64)|ref (a:jx)|ty (n:String)
 deriving DecidableEq
variable{v:V}
def RelV:V->j5->Prop
 |.non,u=>u=Value.none
 |.bl b,u=>u=Value.bool b
 |.int i,u=>∃t,u=Value.int i t
 |.str x,u=>∃t,u=Value.str x t
 |.byt b,u=>∃t,u=Value.bytes b t
 |.flt b,u=>∃t,u=Value.float b t
 |.ref a,u=>u=Value.ref a
 |.ty n,u=>u=Value.type n
abbrev Vals:List V->List j5->Prop:=Paired RelV
theorem Vals.length{xs:List V}(r:Vals xs us):xs.length=us.length:=Paired.length r
theorem Vals.get:∀{xs:List V}{us:List j5}{i:Nat}{x:V},Vals xs us->xs[i]?=xE x->∃u,us[i]?=xE u/\RelV x u
 |_,_,_,_,.nil,e=>by simp at e
 |_,_,0,_,.cons r _,e=>by simp at e;subst e;exact⟨_,rfl,r⟩
 |_,_,i+1,x,.cons _ t,e=>by obtain⟨u,h1,h2⟩:=Vals.get (i:=i) (x:=x) t (by simpa using e);exact⟨u,by simpa using h1,h2⟩
theorem Vals.append:∀{xs ys:List V}{us ws:List j5},Vals xs us->Vals ys ws->Vals (xs++ys) (us++ws)
 |_,_,_,_,.nil,s=>s
 |_,_,_,_,.cons r t,s=>.cons r (Vals.append t s)
theorem Vals.take:∀{xs:List V}{us:List j5}(n:Nat),Vals xs us->Vals (xs.take n) (us.take n)
 |_,_,0,_=>.nil
 |_,_,_+1,.nil=>.nil
 |_,_,n+1,.cons r t=>.cons r (Vals.take n t)
theorem Vals.drop:∀{xs:List V}{us:List j5}(n:Nat),Vals xs us->Vals (xs.drop n) (us.drop n)
 |_,_,0,r=>r
 |_,_,_+1,.nil=>.nil
 |_,_,n+1,.cons _ t=>Vals.drop n t
def RelO:Option V->Option j5->Prop
 |some v,xE u=>RelV v u
 |none,xF=>True
 |_,_=>False
def KV{κ:Type}:List (κ×V)->List (κ×j5)->Prop:=Paired λ(p:κ×V)(q:κ×j5)=>p.1=q.1/\RelV p.2 q.2
def kV:Key->V
 |.inl i=>.int i
 |.inr x=>.str x
inductive HO where
 |lst (xs:List V)
 |tup (xs:List V)
 |dK (kvs:List (Key×V))|dT (kvs:List (List Key×V))
 |set (S:Int->Bool) (n:Nat)
 |ins (C dx:jx) (fs:List (Str×V))
 |own (x:jx)
 |xd (fs:List (Str×V))
 |met (f x:jx)
 |rng (lo hi:Int)
 |frz (o:Obj) (u:HO)
 |tbl (ps:Array j5)
 |ext (φ:Heap->Prop)
variable{o:HO}
noncomputable abbrev Hp:=jx->Option HO
variable{H:Hp}
noncomputable def upd(H:Hp)(a:jx)(o:HO):Hp:=λb=>if b=a then xE o else H b
theorem Fw:upd H a o a=xE o:=by unfold upd;rw[if_pos rfl]
theorem Az(h:b≠a):upd H a o b=H b:=by unfold upd;rw[if_neg h]
theorem Fp(h:H a=xE o)(h':H b=xF):a≠b:=by intro e;subst e;rw[h]at h';cases h'
section
variable(P:j1)(w:j6)
def ObjOk(H:Hp)(h:Heap)(a:jx):HO->Prop
 |.lst xs=>xs.length<=sizeLine/\∃(its:List j5)(n:Nat),Vals xs its/\h.get? a=xE {cls:=.type "list",data:=.seq its.toArray n}
 |.tup xs=>xs.length<=sizeLine/\∃its:List j5,Vals xs its/\IsTup h a its.toArray
 |.dK kvs=>kvs.length<=sizeLine/\(a==sysModules)=xH/\∃vs,KV kvs vs/\h.DictOf (ZBu P w) a vs
 | .dT kvs=>kvs.length<=sizeLine/\(a==sysModules)=xH/\∃xs:List (List Key×jx×j5),
   Paired (λ(p:List Key×V)(q:List Key×jx×j5)=>p.1=q.1/\H q.2.1=xE (.tup (p.1.map kV))/\RelV p.2 q.2.2) kvs xs/\
   ∃o es ep,h.get? a=xE o/\o.ExactDict/\o.data=.dict es ep/\es.toList=xs.map (entryOfKey (tupleKind (ZBu P w)))/\(xs.map (·.1)).Nodup
 |.set S n=>h.SetOf (intKind P w) a S n
 | .ins C dx fs=>H dx=xE (.own a)/\fs.length<=1000/\dx≠a/\h.get? a=xE (PySem.W.instObj C dx)/\
   ∃mA,h.Ns1 dx mA/\(∀f,RelO (fs.lookup f) (mA f))/\PySem.Within mA (fs.map (·.1))
 |.own _=>∃o,h.get? a=xE o
 |.xd fs=>∃mA,h.Ns1 a mA/\∀f,RelO (fs.lookup f) (mA f)
 |.rng lo hi=>∃t u v,h.get? a=xE {cls:=.type "range",data:=.fields #[.int lo t,.int hi u,.int 1 v]}
 |.frz o u=>h.get? a=xE o/\ObjOk H h a u
 |.tbl ps=>h.get? a=xE {cls:=.none,data:=.fields ps}
 |.met f x=>h.get? a=xE (PySem.W.methodObj (.ref f) (.ref x))
 |.ext φ=>φ h/\(∃o,h.get? a=xE o)/\∀h1 h2:Heap,φ h1->(∀o,h1.get? a=xE o->h2.get? a=xE o)->φ h2
def HOk(H:Hp)(h:Heap):Prop:=∀a o,H a=xE o->ObjOk P w H h a o
end
section
variable{P:j1}{w:j6}{H H':Hp}{h h':Heap}{a:jx}{o:HO}
theorem ObjOk.lt(x:ObjOk P w H h a o):a<h.objs.size:=by
 cases o with
 |lst xs=>obtain⟨_,_,_,_,e⟩:=x;exact zV e
 |tup xs=>obtain⟨_,_,_,p⟩:=x;exact p.lt
 |dK kvs=>obtain⟨_,_,_,_,o,_,_,e,_⟩:=x;exact zV e
 |dT kvs=>obtain⟨_,_,_,_,o,_,_,e,_⟩:=x;exact zV e
 |set S n=>obtain⟨o,_,_,_,e,_⟩:=x;exact zV e
 |ins C dx fs=>obtain⟨_,_,_,e,_⟩:=x;exact zV e
 |own y=>obtain⟨_,e⟩:=x;exact zV e
 |xd fs=>obtain⟨_,⟨_,_,_,e,_⟩,_⟩:=x;exact zV e
 |rng lo hi=>obtain⟨_,_,_,e⟩:=x;exact zV e
 |frz ob u=>obtain⟨e,_⟩:=x;exact zV e
 |tbl ps=>exact zV (show h.get? a=xE _ from x)
 |met f y=>exact zV (show h.get? a=xE _ from x)
 |ext φ=>obtain⟨_,⟨_,e⟩,_⟩:=x;exact zV e
theorem Paired.mapP{α β:Type}{F G:α->β->Prop}:∀{l₁:List α}{l₂:List β},Paired F l₁ l₂->(∀a b,F a b->G a b)->Paired G l₁ l₂
 |_,_,.nil,_=>.nil
 |_,_,.cons r t,f=>.cons (f _ _ r) (Paired.mapP t f)
theorem ObjOk.stay(x:ObjOk P w H h a o)(k:∀b u,(b=a∨H b=xE (.own a))->h.get? b=xE u->h'.get? b=xE u)
  (ho:∀b,H b=xE (.own a)->H' b=xE (.own a)) (ht:∀b xs,H b=xE (.tup xs)->H' b=xE (.tup xs)):ObjOk P w H' h' a o:=by
 induction o with
 |lst xs=>obtain⟨z,its,n,r,e⟩:=x;exact⟨z,its,n,r,k _ _ (.inl rfl) e⟩
 |tup xs=>obtain⟨z,its,r,ob,e,c⟩:=x;exact⟨z,its,r,ob,k _ _ (.inl rfl) e,c⟩
 |dK kvs=>obtain⟨z,y,vs,r,ob,es,ep,e,c⟩:=x;exact⟨z,y,vs,r,ob,es,ep,k _ _ (.inl rfl) e,c⟩
 |dT kvs=>
  obtain⟨z,y,xs,r,ob,es,ep,e,c⟩:=x;exact⟨z,y,xs,Paired.mapP r λp q z=>⟨z.1,ht _ _ z.2.1,z.2.2⟩,ob,es,ep,k _ _ (.inl rfl) e,c⟩
 |set S n=>obtain⟨ob,es,ep,t,e,c⟩:=x;exact⟨ob,es,ep,t,k _ _ (.inl rfl) e,c⟩
 |ins C dx fs=>
  obtain⟨d,z,ne,e,mA,⟨od,es,ep,e2,c⟩,r⟩:=x;exact⟨ho _ d,z,ne,k _ _ (.inl rfl) e,mA,⟨od,es,ep,k _ _ (.inr d) e2,c⟩,r⟩
 |own y=>obtain⟨ob,e⟩:=x;exact⟨ob,k _ _ (.inl rfl) e⟩
 |xd fs=>obtain⟨mA,⟨od,es,ep,e,c⟩,r⟩:=x;exact⟨mA,⟨od,es,ep,k _ _ (.inl rfl) e,c⟩,r⟩
 |rng lo hi=>obtain⟨t,u,v,e⟩:=x;exact⟨t,u,v,k _ _ (.inl rfl) e⟩
 |frz ob u ih=>obtain⟨e,q⟩:=x;exact⟨k _ _ (.inl rfl) e,ih q⟩
 |tbl ps=>
  have e:h.get? a=xE {cls:=.none,data:=.fields ps}:=x;show h'.get? a=xE {cls:=.none,data:=.fields ps};exact k a _ (.inl rfl) e
 |met f y=>
  have e:h.get? a=xE (PySem.W.methodObj (.ref f) (.ref y)):=x;show h'.get? a=xE (PySem.W.methodObj (.ref f) (.ref y));exact k a _ (.inl rfl) e
 |ext φ=>obtain⟨p,⟨o,e⟩,st⟩:=x;exact⟨st _ _ p λo q=>k _ _ (.inl rfl) q,⟨o,k _ _ (.inl rfl) e⟩,st⟩
theorem HOk.lt(x:HOk P w H h)(e:H a=xE o):a<h.objs.size:=(x a o e).lt
theorem HOk.fresh(x:HOk P w H h)(e:h.objs.size<=a):H a=xF:=by
 cases q:H a with
 |none=>rfl
 |some u=>exact absurd (zZ (x.lt q) e) (zE _)
theorem HOk.kept(x:HOk P w H h)(k:∀b u,h.get? b=xE u->h'.get? b=xE u):HOk P w H h':=λa o e=>
 (x a o e).stay (λb u _ q=>k b u q) (λ_ q=>q) λ_ _ q=>q
theorem HOk.laid(x:HOk P w H h)(k:∀b u,h.get? b=xE u->h'.get? b=xE u)(hp:h.objs.size<=a)(new:ObjOk P w (upd H a o) h' a o):HOk P w (upd H a o) h':=λb u e=>by
 have hn:=x.fresh hp;by_cases hb:b=a
 ·subst hb;rw[Fw]at e;cases e;exact new
 ·rw[Az hb]at e;exact(x b u e).stay (λc v _ q=>k c v q) (λc q=>by rw[Az (Fp q hn)];exact q) λc xs q=>by rw[Az (Fp q hn)];exact q
end
def Rd(H:Hp)(a:jx)(u:HO):Prop:=H a=xE u∨∃o,H a=xE (.frz o u)
theorem Rd.ok{u:HO}(r:Rd H a u)(x:HOk P w H h):ObjOk P w H h a u:=by
 rcases r with r|⟨o,r⟩
 ·exact x a u r
 ·obtain⟨_,q⟩:=x a _ r;exact q
def Mut:Option HO->Prop
 |some (.lst _)=>True
 |some (.dK _)=>True
 |some (.dT _)=>True
 |some (.set _ _)=>True
 |some (.ins _ _ _)=>True
 |some (.ext _)=>True
 |_=>False
section
variable{P:j1}{w:j6}{H:Hp}{h h':Heap}{x e:jx}{o':HO}
theorem HOk.write(ok:HOk P w H h)(mu:Mut (H x))(he:e=x∨H e=xE (.own x))(k:∀b u,b≠e->h.get? b=xE u->h'.get? b=xE u)(heo:∃u,h'.get? e=xE u)
  (new:ObjOk P w (upd H x o') h' x o'):HOk P w (upd H x o') h':=λb u q=>by
 have nown:∀c y,H c=xE (.own y)->c≠x:=λc y r z=>by subst z;rw[r]at mu;exact mu
 have ntup:∀c xs,H c=xE (.tup xs)->c≠x:=λc xs r z=>by subst z;rw[r]at mu;exact mu
 by_cases hb:b=x
 ·subst hb;rw[Fw]at q;cases q;exact new
 ·rw[Az hb]at q;by_cases hbe:b=e
  ·have q':H b=xE (.own x):=by
    rcases he with z|z
    ·exact absurd (hbe.trans z) hb
    ·rw[hbe];exact z
   rw[q]at q';cases q';obtain⟨v,hv⟩:=heo;exact⟨v,by rw[hbe];exact hv⟩
  ·refine(ok b u q).stay (λc v hc r=>k c v ?_ r) (λc r=>by rw[Az (nown c b r)];exact r) λc xs r=>by rw[Az (ntup c xs r)];exact r
   rcases hc with rfl|hc
   ·exact hbe
   ·rintro rfl;rcases he with z|z
    ·exact nown c b hc z
    ·rw[hc]at z;cases z;exact hb rfl
end
structure Un (fs ex:List jx) (H H':Hp) (h h':Heap):Prop where
 keep:∀b o,h.get? b=xE o->H b=xF->b∉fs->b∉ex->h'.get? b=xE o
 slot:∀b o,h.get? b=xE o->H b=xF->b∈fs->b∉ex->∃sl,h'.get? b=xE {o with slots:=sl}
 free:∀b o,h.get? b=xE o->H b=xF->b∉ex->H' b=xF
 there:∀b o,h.get? b=xE o->b∉ex->∃o',h'.get? b=xE o'
 tups:∀b xs,H b=xE (.tup xs)->H' b=xE (.tup xs)
 frzs:∀b o u,H b=xE (.frz o u)->H' b=xE (.frz o u)
 tbls:∀b ps,H b=xE (.tbl ps)->∃more,H' b=xE (.tbl (ps++more))
section
variable{fs fs' ex ex':List jx}{H H1 H2:Hp}{h h1 h2 h':Heap}{a x e:jx}{o:HO}
theorem Un.any(u:Un fs ex H H1 h h1){ob:Obj}(q:h.get? b=xE ob)(n:H b=xF)(hx:b∉ex):∃sl,h1.get? b=xE {ob with slots:=sl}:=by
 by_cases hb:b∈fs
 ·exact u.slot b ob q n hb hx
 ·exact⟨ob.slots,u.keep b ob q n hb hx⟩
theorem Un.kept(k:∀b u,h.get? b=xE u->h'.get? b=xE u):Un fs ex H H h h':=
 ⟨λb ob q _ _ _=>k b ob q,λb ob q _ _ _=>⟨ob.slots,k b ob q⟩,λ_ _ _ n _=>n,λb ob q _=>⟨ob,k b ob q⟩,λ_ _ q=>q,λ_ _ _ q=>q,λ_ ps q=>⟨#[],by rw[q];simp⟩⟩
theorem Un.refl:Un fs ex H H h h:=Un.kept λ_ _ q=>q
theorem Un.laid(k:∀b u,h.get? b=xE u->h'.get? b=xE u)(hp:h.objs.size<=a)(hn:H a=xF):Un fs ex H (upd H a o) h h' where
 keep:=λb u q _ _ _=>k b u q
 slot:=λb u q _ _ _=>⟨u.slots,k b u q⟩
 free:=λb u q n _=>by rw[Az (zC (zZ (zV q) hp))];exact n
 there:=λb u q _=>⟨u,k b u q⟩
 tups:=λb xs q=>by rw[Az (Fp q hn)];exact q
 frzs:=λb u xs q=>by rw[Az (Fp q hn)];exact q
 tbls:=λb ps q=>⟨#[],by rw[Az (Fp q hn),q];simp⟩
theorem Un.write(mu:Mut (H x))(he:e=x∨H e=xE (.own x))(k:∀b u,b≠e->h.get? b=xE u->h'.get? b=xE u)(heo:∃u,h'.get? e=xE u):Un fs ex H (upd H x o) h h':=by
 have hx:∀b,H b=xF->b≠x:=λb n z=>by subst z;rw[n]at mu;exact mu
 have hb:∀b,H b=xF->b≠e:=λb n z=>by
  subst z;rcases he with r|r
  ·exact hx b n r
  ·rw[n]at r;cases r
 have hm:∀b u,H b=xE u->¬Mut (xE u)->b≠x:=λb u q nm z=>by subst z;rw[q]at mu;exact nm mu
 refine⟨λb u q n _ _=>k b u (hb b n) q,λb u q n _ _=>⟨u.slots,k b u (hb b n) q⟩,λb u q n _=>by rw[Az (hx b n)];exact n,λb u q _=>?_,
  λb xs q=>by rw[Az (hm b _ q λz=>z)];exact q,λb u xs q=>by rw[Az (hm b _ q λz=>z)];exact q,λb ps q=>⟨#[],by rw[Az (hm b _ q λz=>z),q];simp⟩⟩
 by_cases hbe:b=e
 ·subst hbe;exact heo
 ·exact⟨u,k b u hbe q⟩
end
noncomputable def trk(h:Heap)(H:Hp):List jx:=(zx h.objs.size).filter λa=>(H a).isSome
def Hv(h:Heap)(H:Hp):Heap:=PySem.W.hideAll h (trk h H)
theorem ZG0(h:Heap)(H:Hp):(Hv h H).objs.size=h.objs.size:=PySem.W.hideAll_size _ _
theorem ZJP{o:Obj}(e:h.get? b=xE o)(n:H b=xF):(Hv h H).get? b=xE o:=
 PySem.W.hideAll_get _ e λhm=>by have q:(H b).isSome=xG:=(qS.mp hm).2;rw[n]at q;simp at q
theorem ZJn{o:Obj}(e:(Hv h H).get? b=xE o):h.get? b=xE o/\H b=xF:=by
 have e':h.get? b=xE o:=PySem.W.of_hideAll (trk h H) e;refine⟨e',?_⟩;cases q:H b with
 |none=>rfl
 |some x=>
  have hm:b∈trk h H:=qS.mpr ⟨zO.mpr (zV e'),by simp[q]⟩;have z:(Hv h H).get? b=xF:=PySem.W.hideAll_none (trk h H) hm;rw[z]at e;cases e
noncomputable def ZF0(g h:Heap)(L:jx):List (jx×Obj):=(zx h.objs.size).filterMap λa=>if a=L∨(g.get? a).isSome=xG then xF else(h.get? a).map λo=>(a,o)
def rest(g h:Heap)(L d:jx):List (jx×Obj):=(ZF0 g h L).filter λp=>decide (p.1≠d)
structure Mod (K:PySem.W.Frag) (mg:Str->Option j5) (base:Heap):Prop where
 kin:K.In base
 glob:base.Ns jR mg
 blt:∃mb,base.Ns builtinsNs mb/\∀x:Str,x≠"__name__"->mb x=jC x
 nolimit:base.NoLimit
structure Cx where
 prog:j1
 w:j6
 K:PySem.W.Frag
 mg:Str->Option j5
 base:Heap
 A:jv
 N:List Str
 s₀:j3
 H₀:Hp
 env:Env
 outer:List Env
 stack:List Env
 ex:List jx
 fn:Str->Bool
 calm:Bool
 pn:List (jx×Obj)
 xe:j5->j3->Prop
variable{X:Cx}
noncomputable def frs(l:List Env):List jx:=l.filterMap (·.frame)
noncomputable abbrev Cx.fs(X:Cx):List jx:=frs X.outer
def Vis(sc:j2)(x:Str):Prop:=sc.names.lookup x=xE .local∨sc.names.lookup x=xE .cell∨sc.names.lookup x=xE .free
def Loc(sc:j2)(x:Str):Prop:=sc.names.lookup x=xE .local∨sc.names.lookup x=xE .cell
def Look(env:Env)(h:Heap)(m:Str->Option j5)(x:Str)(u:j5):Prop:=
 (env.kindOf x=xE .local/\m x=xE u)∨((env.kindOf x=xE .cell∨env.kindOf x=xE .free)/\∃c,env.cells.lookup x=xE c/\h.IsCell c (xE u))
structure Cx.Ok (X:Cx):Prop where
 mod:Mod X.K X.mg X.base
 kind:X.env.scope.kind=.function
 glob:X.env.globals=jR
 blt:X.env.builtins=builtinsNs
 above:X.s₀.heap.objs.size<=X.env.locals
 inj:∀x y c,X.env.cells.lookup x=xE c->X.env.cells.lookup y=xE c->x=y
 has:∀x,(X.env.kindOf x=xE .cell∨X.env.kindOf x=xE .free)->∃c,X.env.cells.lookup x=xE c
 cab:∀x c,X.fn x=xG->X.env.cells.lookup x=xE c->X.s₀.heap.objs.size<=c
 hd:X.calm=xG->X.A.handled=xF
 frames:X.A.frames=xE X.stack
 stk:X.stack=X.outer∨(X.stack=X.env::X.outer/\X.env.frame=xE X.env.locals)
 exf:∀b∈X.ex,b≠X.env.locals/\∀x c,X.env.cells.lookup x=xE c->c≠b
 bs:∀b o,X.base.get? b=xE o->X.s₀.heap.get? b=xE o/\X.H₀ b=xF
 bsz:X.base.objs.size<=X.s₀.heap.objs.size
 noex:∀b o,X.base.get? b=xE o->b∉X.ex
 exfs:∀b∈X.ex,b∉X.fs
 funs:X.s₀.heap.FunFrames X.base X.outer
 frf:∀b∈X.fs,X.H₀ b=xF
structure Inv (X:Cx) (xD:List (jx×Obj)) (σ:List (Option V)) (H:Hp) (s:j3):Prop where
 ok:X.Ok
 os:s.os=X.s₀.os
 bare:AllBare s.gens
 base:Un X.fs X.ex X.H₀ H X.s₀.heap s.heap
 loc:∃m,s.heap.Ns X.env.locals m/\∀(i:Nat)(x:Str)(v:V),X.N[i]?=xE x->σ[i]?=xE (xE v)->Vis X.env.scope x->∃u,RelV v u/\Look X.env s.heap m x u
 cell:∀x c,X.env.cells.lookup x=xE c->∃v,s.heap.IsCell c v
 free:H X.env.locals=xF
 Eo:∀x c,X.env.cells.lookup x=xE c->H c=xF
 pin:∀p∈X.pn++xD,s.heap.get? p.1=xE p.2/\H p.1=xF/\p.1≠X.env.locals/\p.1∉X.fs/\∀v,p.2.data≠ .cell v
 hok:HOk X.prog X.w H s.heap
 len:σ.length=X.N.length
section
variable{X:Cx}{xD:List (jx×Obj)}{σ:List (Option V)}{H H':Hp}{s:j3}{h':Heap}
theorem Cx.Ok.nofr(ok:X.Ok){o:Obj}(e:X.base.get? b=xE o):b∉X.fs:=λhb=>by have:=(ok.funs.mem hb).1;rw[e]at this;cases this
theorem Inv.bs(I:Inv X xD σ H s):∀b o,X.base.get? b=xE o->s.heap.get? b=xE o/\H b=xF:=λb o e=>
 ⟨I.base.keep b o (I.ok.bs b o e).1 (I.ok.bs b o e).2 (I.ok.nofr e) (I.ok.noex b o e),I.base.free b o (I.ok.bs b o e).1 (I.ok.bs b o e).2 (I.ok.noex b o e)⟩
theorem Inv.bk(I:Inv X xD σ H s):∀b o,X.base.get? b=xE o->s.heap.get? b=xE o:=λb o e=>(I.bs b o e).1
theorem Inv.mod(I:Inv X xD σ H s):Mod X.K X.mg X.base:=I.ok.mod
theorem Inv.kIn(I:Inv X xD σ H s):X.K.In s.heap:=I.ok.mod.kin.keeps I.bk
theorem Inv.lt(I:Inv X xD σ H s):X.env.locals<s.heap.objs.size:=let⟨_,hn,_⟩:=I.loc;hn.lt
theorem Inv.sz(I:Inv X xD σ H s):X.s₀.heap.objs.size<=s.heap.objs.size:=z0 I.ok.above (Nat.le_of_lt I.lt)
theorem Inv.nofs(I:Inv X xD σ H s)(h:s.heap.objs.size<=a):a∉X.fs:=λhb=>by obtain⟨_,o,ho,_⟩:=I.ok.funs.mem hb;exact absurd (zZ (zV ho) (z0 I.sz h)) (zE _)
theorem Inv.cne(I:Inv X xD σ H s):∀x c,X.env.cells.lookup x=xE c->c≠X.env.locals:=λx c e z=>by obtain⟨v,o,ho,hd⟩:=I.cell x c e;obtain⟨m,⟨o',es,ep,ho',hd',_⟩,_⟩:=I.loc;rw[z,ho']at ho;cases ho;rw[hd']at hd;cases hd
theorem Inv.funs(I:Inv X xD σ H s):s.heap.FunFrames X.base X.outer:=by
 have all:∀(l:List Env),(∀b∈frs l,b∈X.fs)->X.s₀.heap.FunFrames X.base l->s.heap.FunFrames X.base l:=by
  intro l
  induction l with
  |nil=>intro _ _;trivial
  |cons env r ih=>
   intro hs hl;obtain⟨hk,⟨L,o,hf,hn,ho,hd⟩,hr⟩:=hl;have hL:L∈X.fs:=hs L (by unfold frs;rw[zH,hf];exact zk);obtain⟨sl,e⟩:=I.base.slot L o ho (I.ok.frf L hL) hL λz=>I.ok.exfs L z hL
   exact⟨hk,⟨L,_,hf,hn,e,hd⟩,ih (λb hb=>hs b (by unfold frs;rw[zH,hf];exact zX _ hb)) hr⟩
 exact all X.outer (λ_ hb=>hb) I.ok.funs
theorem Inv.stack(I:Inv X xD σ H s):s.heap.FunFrames X.base X.stack:=by
 rcases I.ok.stk with e|⟨e,hf⟩
 ·rw[e];exact I.funs
 ·rw[e];obtain⟨m,hn,_⟩:=I.loc;refine .cons (by rw[I.ok.kind];decide) hf hn ?_ I.funs;exact jK (z0 I.ok.bsz I.ok.above)
theorem Inv.Rt(I:Inv X xD σ H s):∀b∈frs X.stack,b∈X.env.locals::X.fs:=λb hb=>by
 rcases I.ok.stk with e|⟨e,hf⟩
 ·rw[e]at hb;exact zX _ hb
 ·rw[e]at hb;unfold frs at hb;rw[zH,hf]at hb;exact hb
theorem Inv.Q8(I:Inv X xD σ H s):∀b∈frs X.stack,H b=xF:=λb hb=>by
 rcases zz.mp (I.Rt b hb)with e|hb
 ·rw[e];exact I.free
 ·obtain⟨_,o,ho,_⟩:=I.ok.funs.mem hb;exact I.base.free b o ho (I.ok.frf b hb) λz=>I.ok.exfs b z hb
theorem Inv.step{g':Array GenState}{d':Drawn}(I:Inv X xD σ H s)
  (hch:∀b∈ch,(b∈X.ex∨X.s₀.heap.objs.size<=b)/\b≠X.env.locals/\(∀x c,X.env.cells.lookup x=xE c->c≠b)/\∀p∈X.pn++xD,p.1≠b)
  (keep:∀b o,b≠X.env.locals->b∉X.fs->b∉ch->s.heap.get? b=xE o->H b=xF->h'.get? b=xE o)
  (slot:∀b o,b≠X.env.locals->b∈X.fs->b∉ch->s.heap.get? b=xE o->H b=xF->∃sl,h'.get? b=xE {o with slots:=sl}) (free:∀b o,b∉ch->s.heap.get? b=xE o->H b=xF->H' b=xF)
  (there:∀b o,b∉ch->s.heap.get? b=xE o->∃o',h'.get? b=xE o')
  (tups:∀b xs,H b=xE (.tup xs)->H' b=xE (.tup xs)) (frzs:∀b o u,H b=xE (.frz o u)->H' b=xE (.frz o u)) (tbls:∀b ps,H b=xE (.tbl ps)->∃more,H' b=xE (.tbl (ps++more)))
  (ns:∀m,s.heap.Ns X.env.locals m->h'.Ns X.env.locals m) (hok:HOk X.prog X.w H' h') (hg:AllBare g'):
  Inv X xD σ H' {s with heap:=h',gens:=g',drawn:=d',toks:=t'}:=by
 have neL:∀b o,X.s₀.heap.get? b=xE o->b≠X.env.locals:=λb o e=>zC (zZ (zV e) I.ok.above)
 have neC:∀b o,X.s₀.heap.get? b=xE o->b∉X.ex->b∉ch:=λb o e hx hb=>by
  rcases(hch b hb).1 with z|z
  ·exact hx z
  ·exact absurd (zZ (zV e) z) (zE _)
 have cellK:∀x c,X.env.cells.lookup x=xE c->∀v,s.heap.IsCell c v->h'.IsCell c v:=λx c e v ⟨o,ho,hd⟩=>by
  have nch:c∉ch:=λz=>(hch c z).2.2.1 x c e rfl
  by_cases hc:c∈X.fs
  ·obtain⟨sl,q⟩:=slot c o (I.cne x c e) hc nch ho (I.Eo x c e);exact⟨_,q,hd⟩
  ·exact⟨o,keep c o (I.cne x c e) hc nch ho (I.Eo x c e),hd⟩
 refine⟨I.ok,I.os,hg,⟨λb o e n hb hx=>?_,λb o e n hb hx=>?_,λb o e n hx=>?_,λb o e hx=>?_,λb xs e=>tups b xs (I.base.tups b xs e),λb o xs e=>frzs b o xs (I.base.frzs b o xs e),λb ps e=>?_⟩,?_,λx c e=>?_,?_,λx c e=>?_,λp hp=>?_,hok,I.len⟩
 ·exact keep b o (neL b o e) hb (neC b o e hx) (I.base.keep b o e n hb hx) (I.base.free b o e n hx)
 ·obtain⟨sl,e1⟩:=I.base.slot b o e n hb hx;obtain⟨sl',e2⟩:=slot b _ (neL b o e) hb (neC b o e hx) e1 (I.base.free b o e n hx);exact⟨sl',e2⟩
 ·obtain⟨o',e1⟩:=I.base.there b o e hx;exact free b o' (neC b o e hx) e1 (I.base.free b o e n hx)
 ·obtain⟨o',e1⟩:=I.base.there b o e hx;exact there b o' (neC b o e hx) e1
 ·obtain⟨m1,e1⟩:=I.base.tbls b ps e;obtain⟨m2,e2⟩:=tbls b _ e1;exact⟨m1++m2,by rw[e2,Array.append_assoc]⟩
 ·obtain⟨m,hn,hl⟩:=I.loc;refine⟨m,ns m hn,λi x v e1 e2 e3=>?_⟩;obtain⟨u,r,l⟩:=hl i x v e1 e2 e3;refine⟨u,r,?_⟩;rcases l with l|⟨k,c,e,z⟩
  ·exact .inl l
  ·exact .inr ⟨k,c,e,cellK x c e _ z⟩
 ·obtain⟨v,z⟩:=I.cell x c e;exact⟨v,cellK x c e v z⟩
 ·obtain⟨m,⟨o,_,_,ho,_⟩,_⟩:=I.loc;exact free _ o (λz=>(hch _ z).2.1 rfl) ho I.free
 ·obtain⟨v,o,ho,hd⟩:=I.cell x c e;exact free c o (λz=>(hch c z).2.2.1 x c e rfl) ho (I.Eo x c e)
 ·obtain⟨e,n,ne,nf,d⟩:=I.pin p hp;have nch:p.1∉ch:=λz=>(hch p.1 z).2.2.2 p hp rfl
  exact⟨keep p.1 p.2 ne nf nch e n,free p.1 p.2 nch e n,ne,nf,d⟩
theorem Inv.un(I:Inv X xD σ H s)(u:Un X.fs [] H H' s.heap h')(hok:HOk X.prog X.w H' h'):Inv X xD σ H' {s with heap:=h',toks:=t'}:=by
 obtain⟨m,⟨o,es,ep,ho,r⟩,_⟩:=id I.loc;obtain⟨sl,hL⟩:=u.any ho I.free (by simp)
 exact I.step (g':=s.gens) (d':=s.drawn) (ch:=[]) (λ_ z=>nomatch z) (λb o _ hb _ e n=>u.keep b o e n hb (by simp)) (λb o _ hb _ e n=>u.slot b o e n hb (by simp)) (λb o _ e n=>u.free b o e n (by simp)) (λb o _ e=>u.there b o e (by simp)) u.tups u.frzs u.tbls (λm' hm=>by obtain⟨o',es',ep',ho',r'⟩:=hm;rw[ho]at ho';cases ho';exact⟨_,es',ep',hL,r'⟩) hok I.bare
theorem Inv.call{g':Array GenState}{d':Drawn}(I:Inv X xD σ H s)(u:Un (frs X.stack) ch H H' s.heap h')(hok:HOk X.prog X.w H' h')(hg:AllBare g')
  (hch:∀b∈ch,(b∈X.ex∨X.s₀.heap.objs.size<=b)/\b≠X.env.locals/\(∀x c,X.env.cells.lookup x=xE c->c≠b)/\∀p∈X.pn++xD,p.1≠b):
  Inv X xD σ H' {s with heap:=h',gens:=g',drawn:=d',toks:=t'}:=by
 obtain⟨m,⟨o,es,ep,ho,r⟩,_⟩:=id I.loc;obtain⟨sl,hL⟩:=u.any ho I.free λz=>(hch _ z).2.1 rfl
 exact I.step (ch:=ch) hch (λb o hL hb hc e n=>u.keep b o e n (λz=>(zz.mp (I.Rt b z)).elim hL hb) hc) (λb o _ _ hc e n=>u.any e n hc) (λb o hc e n=>u.free b o e n hc) (λb o hc e=>u.there b o e hc) u.tups u.frzs u.tbls (λm' hm=>by obtain⟨o',es',ep',ho',r'⟩:=hm;rw[ho]at ho';cases ho';exact⟨_,es',ep',hL,r'⟩) hok hg
theorem Inv.turned{it:jx}(I:Inv X xD σ H s)(k:∀b o,b≠it->s.heap.get? b=xE o->h'.get? b=xE o)(hn:H it=xF)(hL:it≠X.env.locals)
  (h1:it∈X.ex∨X.s₀.heap.objs.size<=it) (h2:∀x c,X.env.cells.lookup x=xE c->c≠it) (h3:∀p∈X.pn++xD,p.1≠it):Inv X xD σ H {s with heap:=h',toks:=t'}:=by
 have nit:∀b u,H b=xE u->b≠it:=λb u e z=>by rw[z,hn]at e;cases e
 refine I.step (g':=s.gens) (d':=s.drawn) (ch:=[it]) (λb hb=>?_) (λb o _ _ hc e _=>k b o (λz=>hc (by simp[z])) e) (λb o _ _ hc e _=>⟨o.slots,k b o (λz=>hc (by simp[z])) e⟩) (λ_ _ _ _ n=>n)
  (λb o hc e=>⟨o,k b o (λz=>hc (by simp[z])) e⟩) (λ_ _ e=>e) (λ_ _ _ e=>e) (λb ps e=>⟨#[],by rw[e];simp⟩) (λm hm=>?_) (λb u e=>?_) I.bare
 ·have e:b=it:=by simpa using hb
  subst e;exact⟨h1,hL,h2,h3⟩
 ·obtain⟨o,es,ep,ho,r⟩:=hm;exact⟨o,es,ep,k _ o (Ne.symm hL) ho,r⟩
 ·refine(I.hok b u e).stay (λc v hc q=>k c v ?_ q) (λ_ q=>q) λ_ _ q=>q
  rcases hc with z|z
  ·rw[z];exact nit b u e
  ·exact nit c _ z
theorem Inv.tok(I:Inv X xD σ H s)(t:Nat):Inv X xD σ H {s with toks:=t}:=I.un (h':=s.heap) (t':=t) Un.refl I.hok
theorem Inv.kept(I:Inv X xD σ H s)(k:∀b u,s.heap.get? b=xE u->h'.get? b=xE u):Inv X xD σ H {s with heap:=h',toks:=t'}:=I.un (Un.kept k) (I.hok.kept k)
theorem Inv.laid(I:Inv X xD σ H s)(k:∀b u,s.heap.get? b=xE u->h'.get? b=xE u)(hp:s.heap.objs.size<=a)(new:ObjOk X.prog X.w (upd H a o) h' a o):
  Inv X xD σ (upd H a o) {s with heap:=h',toks:=t'}:=I.un (Un.laid k hp (I.hok.fresh hp)) (I.hok.laid k hp new)
theorem Inv.write{x e:jx}(I:Inv X xD σ H s)(mu:Mut (H x))(he:e=x∨H e=xE (.own x))(k:∀b u,b≠e->s.heap.get? b=xE u->h'.get? b=xE u)(heo:∃u,h'.get? e=xE u)
  (new:ObjOk X.prog X.w (upd H x o) h' x o):Inv X xD σ (upd H x o) {s with heap:=h',toks:=t'}:=I.un (Un.write mu he k heo) (I.hok.write mu he k heo new)
theorem Inv.Ip{pins':List (jx×Obj)}(I:Inv X xD σ H s)(h:∀p∈pins',s.heap.get? p.1=xE p.2/\H p.1=xF/\p.1≠X.env.locals/\p.1∉X.fs/\∀v,p.2.data≠ .cell v):Inv X pins' σ H s:=
 ⟨I.ok,I.os,I.bare,I.base,I.loc,I.cell,I.free,I.Eo,λp hp=>(zP.mp hp).elim (λz=>I.pin p (jY _ z)) (h p),I.hok,I.len⟩
theorem Uz{N:List Str}(hN:N.Nodup){j:Nat}(a:N[i]?=xE x)(b:N[j]?=xE x):i=j:=by obtain⟨h1,e1⟩:=zv.mp a;obtain⟨h2,e2⟩:=zv.mp b;exact(List.getElem_inj hN).mp (e1.trans e2.symm)
theorem Zr{M:Model}{A:jv}{E:j5->j3->Prop}(I:Inv X xD σ H s)(hN:X.N.Nodup)(hi:X.N[i]?=xE x)(hx:Loc X.env.scope x)(r:RelV v u)
  (h:∀s',Inv X xD (σ.set i (xE v)) H s'->(∃a,qF a s.heap s'.heap/\(a=X.env.locals∨X.env.cells.lookup x=xE a))->Q () s') (hf:X.fn x=xG∨X.env.scope.names.lookup x=xE .local:=by first|exact .inl rfl|exact .inr rfl|assumption):xJ M A (storeName X.env x u) Q E s:=by
 obtain⟨m,hn,hl⟩:=id I.loc;have hcls:(X.env.scope.kind == .class||(X.env.scope.kind == .module&&X.env.locals != X.env.globals))=xH:=by rw[I.ok.kind];rfl
 have hiσ:i<σ.length:=by rw[I.len];exact(zv.mp hi).1
 have cne:=I.cne;have tracked:∀{a:jx}{h':Heap},(∃o,s.heap.get? a=xE o/\H a=xF)->qF a s.heap h'->HOk X.prog X.w H h':=λ{a h'}ha hs b ob e=>by
  obtain⟨_,_,hfree⟩:=ha;refine(I.hok b ob e).stay (λc w' hc q=>(hs.2 c ?_).trans q) (λ_ q=>q) λ_ _ q=>q
  rintro rfl;rcases hc with rfl|hc
  ·rw[hfree]at e;cases e
  ·rw[hfree]at hc;cases hc
 rcases hx with hk|hk
 ·refine wpAny_storeName_local hk hn (λh' hn' hs=>?_) hcls;obtain⟨oL,_,_,hoL,_⟩:=id hn;refine h _ ⟨I.ok,I.os,I.bare,⟨λb o e n hb hx=>?_,λb o e n hb hx=>?_,I.base.free,λb o e hx=>?_,I.base.tups,I.base.frzs,I.base.tbls⟩,⟨_,hn',λj y v' e1 e2 e3=>?_⟩,λy c e=>?_,I.free,I.Eo,λp hp=>?_,tracked ⟨oL,hoL,I.free⟩ hs,by simpa using I.len⟩ ⟨_,hs,.inl rfl⟩
  ·exact(hs.2 b (zC (zZ (zV e) I.ok.above))).trans (I.base.keep b o e n hb hx)
  ·obtain⟨sl,e1⟩:=I.base.slot b o e n hb hx;exact⟨sl,(hs.2 b (zC (zZ (zV e) I.ok.above))).trans e1⟩
  ·obtain⟨o',e1⟩:=I.base.there b o e hx;exact⟨o',(hs.2 b (zC (zZ (zV e) I.ok.above))).trans e1⟩
  ·by_cases hj:j=i
   ·subst hj;rw[hi]at e1;cases e1;rw[List.getElem?_set_self hiσ]at e2;cases e2;exact⟨u,r,.inl ⟨hk,by simp⟩⟩
   ·rw[qH (Ne.symm hj)]at e2;obtain⟨u',r',q⟩:=hl j y v' e1 e2 e3;refine⟨u',r',?_⟩;rcases q with⟨k,e⟩|⟨k,c,e,z⟩
    ·refine .inl ⟨k,?_⟩;have:y≠x:=λe=>hj (Uz hN e1 (e▸hi))
     simp[this,e]
    ·exact .inr ⟨k,c,e,z.sameBut hs (cne y c e)⟩
  ·obtain⟨w',z⟩:=I.cell y c e;exact⟨w',z.sameBut hs (cne y c e)⟩
  ·obtain⟨e,n,ne,nf,d⟩:=I.pin p hp;exact⟨(hs.2 p.1 ne).trans e,n,ne,nf,d⟩
 ·have hfn:X.fn x=xG:=by
   rcases hf with z|z
   ·exact z
   ·rw[z]at hk;cases hk
  obtain⟨c,hc⟩:=I.ok.has x (.inl hk);obtain⟨w',z⟩:=I.cell x c hc;refine wpAny_storeName_cell I.ok.kind hk hc z (λh' hc' hs=>?_);obtain⟨oc,hoc,hocd⟩:=id z;refine h {s with heap:=h'} ⟨I.ok,I.os,I.bare,⟨λb o e n hb hx=>?_,λb o e n hb hx=>?_,I.base.free,λb o e hx=>?_,I.base.tups,I.base.frzs,I.base.tbls⟩,⟨m,hn.sameBut hs (Ne.symm (cne x c hc)),λj y v' e1 e2 e3=>?_⟩,λy c' e=>?_,I.free,I.Eo,λp hp=>?_,tracked ⟨oc,hoc,I.Eo x c hc⟩ hs,by simpa using I.len⟩ ⟨c,hs,.inr hc⟩
  ·exact(hs.2 b (zC (zZ (zV e) (I.ok.cab x c hfn hc)))).trans (I.base.keep b o e n hb hx)
  ·obtain⟨sl,e1⟩:=I.base.slot b o e n hb hx;exact⟨sl,(hs.2 b (zC (zZ (zV e) (I.ok.cab x c hfn hc)))).trans e1⟩
  ·obtain⟨o',e1⟩:=I.base.there b o e hx;exact⟨o',(hs.2 b (zC (zZ (zV e) (I.ok.cab x c hfn hc)))).trans e1⟩
  ·by_cases hj:j=i
   ·subst hj;rw[hi]at e1;cases e1;rw[List.getElem?_set_self hiσ]at e2;cases e2;exact⟨u,r,.inr ⟨.inl hk,c,hc,hc'⟩⟩
   ·rw[qH (Ne.symm hj)]at e2;obtain⟨u',r',q⟩:=hl j y v' e1 e2 e3;refine⟨u',r',?_⟩;rcases q with q|⟨k,c',e,z'⟩
    ·exact .inl q
    ·refine .inr ⟨k,c',e,z'.sameBut hs ?_⟩;rintro rfl;exact hj (Uz hN e1 (I.ok.inj _ _ _ e hc▸hi))
  ·by_cases hcc:c'=c
   ·subst hcc;exact⟨_,hc'⟩
   ·obtain⟨w2,z2⟩:=I.cell y c' e;exact⟨w2,z2.sameBut hs hcc⟩
  ·obtain⟨e,n,ne,nf,d⟩:=I.pin p hp;refine⟨(hs.2 p.1 ?_).trans e,n,ne,nf,d⟩;intro q;rw[q,hoc]at e;have q':oc=p.2:=Option.some.inj e;exact d w' (by rw[<-q'];exact hocd)
theorem Yr{M:Model}{A:jv}{E:j5->j3->Prop}(I:Inv X xD σ H s)(hN:X.N.Nodup)(hi:X.N[i]?=xE x)(hx:Loc X.env.scope x)(r:RelV v u)
  (h:∀s',Inv X xD (σ.set i (xE v)) H s'->Q () s') (hf:X.fn x=xG∨X.env.scope.names.lookup x=xE .local:=by first|exact .inl rfl|exact .inr rfl|assumption):xJ M A (storeName X.env x u) Q E s:=
 Zr I hN hi hx r (λs' I' _=>h s' I') hf
theorem Inv.call'{s':j3}(I:Inv X xD σ H s)(ho:s'.os=s.os)(u:Un (frs X.stack) ch H H' s.heap s'.heap)(hok:HOk X.prog X.w H' s'.heap)(hg:AllBare s'.gens)
  (hch:∀b∈ch,(b∈X.ex∨X.s₀.heap.objs.size<=b)/\b≠X.env.locals/\(∀x c,X.env.cells.lookup x=xE c->c≠b)/\∀p∈X.pn++xD,p.1≠b):Inv X xD σ H' s':=by
 obtain⟨h',g',d',t',o'⟩:=s';have e:o'=s.os:=ho;subst e;exact I.call (g':=g') (t':=t') (d':=d') u hok hg hch
end
noncomputable abbrev XK:=j5->Option jx->Hp->Prop
noncomputable abbrev St:=List (Option V)
variable{σ:St}
noncomputable abbrev VK:=V->Hp->Prop
noncomputable abbrev TE:=St->Hp->VK->Prop
noncomputable abbrev TT:=St->Hp->(Bool->Hp->Prop)->Prop
noncomputable abbrev TA:=St->Hp->(List V->Hp->Prop)->Prop
structure Ends where
 nx:St->Hp->Prop
 rt:VK
 bk:St->Hp->Prop:=λ_ _=>False
 ct:St->Hp->Prop:=λ_ _=>False
noncomputable abbrev TS:=Ends->St->Hp->Prop
def EP(X:Cx)(xD:List (jx×Obj))(σ:St)(Q:VK)(u:j5)(s':j3):Prop:=∃v H',Inv X xD σ H' s'/\RelV v u/\Q v H'
def TP(X:Cx)(xD:List (jx×Obj))(σ:St)(Q:Bool->Hp->Prop)(b:Bool)(s':j3):Prop:=∃H',Inv X xD σ H' s'/\Q b H'
def AP(X:Cx)(xD:List (jx×Obj))(σ:St)(Q:List V->Hp->Prop)(us:List j5)(s':j3):Prop:=∃vs H',Inv X xD σ H' s'/\Vals vs us/\Q vs H'
def SP(X:Cx)(xD:List (jx×Obj))(D:Ends)(f:Flow)(s':j3):Prop:=
 match f with
 |.next=>∃σ' H',Inv X xD σ' H' s'/\D.nx σ' H'
 |.brk=>∃σ' H',Inv X xD σ' H' s'/\D.bk σ' H'
 |.cont=>∃σ' H',Inv X xD σ' H' s'/\D.ct σ' H'
 |.ret u=>∃v σ' H',Inv X xD σ' H' s'/\RelV v u/\D.rt v H'
def PE(X:Cx)(e:jk)(t:TE):Prop:=
 ∀(xD:List (jx×Obj))(s:j3)(σ:St)(H:Hp)(Q:VK),Inv X xD σ H s->t σ H Q->xJ (jS X.prog X.w) X.A (eval e X.env) (EP X xD σ Q) X.xe s
def PT(X:Cx)(e:jk)(t:TT):Prop:=
 ∀(xD:List (jx×Obj))(s:j3)(σ:St)(H:Hp)(Q:Bool->Hp->Prop),Inv X xD σ H s->t σ H Q->xJ (jS X.prog X.w) X.A (isTrue e X.env (eval e X.env)) (TP X xD σ Q) X.xe s
def PW(X:Cx)(e:jk)(t:TT):Prop:=
 ∀(whole:Sem j5)(xD:List (jx×Obj))(s:j3)(σ:St)(H:Hp)(Q:Bool->Hp->Prop),Inv X xD σ H s->t σ H Q->xJ (jS X.prog X.w) X.A (isTrue e X.env whole) (TP X xD σ Q) X.xe s
theorem PW.pt{t:TT}(h:PW X e t):PT X e t:=h _
def PA(X:Cx)(es:List jk)(t:TA):Prop:=
 ∀(pos:Pos)(xD:List (jx×Obj))(s:j3)(σ:St)(H:Hp)(Q:List V->Hp->Prop),Inv X xD σ H s->t σ H Q->xJ (jS X.prog X.w) X.A (spliced (j9 pos (xQ es X.env))) (AP X xD σ Q) X.xe s
def PS(X:Cx)(st:j4)(t:TS):Prop:=
 ∀(xD:List (jx×Obj))(s:j3)(σ:St)(H:Hp)(D:Ends),Inv X xD σ H s->t D σ H->xJ (jS X.prog X.w) X.A (exec st X.env) (SP X xD D) X.xe s
def PSs(X:Cx)(st:List j4)(t:TS):Prop:=
 ∀(xD:List (jx×Obj))(s:j3)(σ:St)(H:Hp)(D:Ends),Inv X xD σ H s->t D σ H->xJ (jS X.prog X.w) X.A (execs st X.env) (SP X xD D) X.xe s
theorem thn{α:Type}{t:Sem α}{Q Q':α->j3->Prop}{M:Model}(h:xJ M A t Q E s)(hQ:∀a s,Q a s->Q' a s):xJ M A t Q' E s:=xz h hQ λ_ _ x=>x
section
variable{X:Cx}
noncomputable def K3(i:Nat):TE:=λσ H Q=>∃v,σ[i]?=xE (xE v)/\Q v H
noncomputable def tC(v:V):TE:=λ_ H Q=>Q v H
theorem O6{pos:Pos}(hN:X.N[i]?=xE x)(hv:Vis X.env.scope x)(hd:(x==("__debug__":Str))=xH:=by decide)(hcd:(x==("__classdict__":Str))=xH:=by decide):PE X (.Name x pos) (K3 i):=by
 intro xD s σ H Q I h;obtain⟨v,e,h⟩:=h;obtain⟨m,hn,hl⟩:=I.loc;obtain⟨u,r,l⟩:=hl i x v hN e hv;have fin:EP X xD σ Q u s:=⟨v,H,I,r,h⟩;rcases l with⟨hk,hm⟩|⟨hk,c,hc,hcell⟩
 ·exact wpAny_Name (wpAny_loadName_local I.ok.kind hk hn hm fin) hd
 ·rcases hk with hk|hk
  ·exact wpAny_Name (wpAny_loadName_cell I.ok.kind hk hc hcell fin) hd
  ·exact wpAny_Name (wpAny_loadName_free I.ok.kind hk hc hcell fin hcd) hd
theorem ZF8{i j pos}:PE X (.Constant (.int i) j pos) (tC (.int i)):=λ_ _ _ H _ I h=>wpAny_Constant_int ⟨.int i,H,I.tok _,⟨_,rfl⟩,h⟩
theorem ZDs{b j pos}:PE X (.Constant (.bool b) j pos) (tC (.bl b)):=λ_ _ _ H _ I h=>Constant_bool ⟨.bl b,H,I,rfl,h⟩
theorem ZGe{j pos}:PE X (.Constant .none j pos) (tC .non):=λ_ _ _ H _ I h=>Constant_none ⟨.non,H,I,rfl,h⟩
theorem Ss{x j pos}:PE X (.Constant (.str x) j pos) (tC (.str x)):=λ_ _ _ H _ I h=>Calls.Constant_str ⟨.str x,H,I.tok _,⟨_,rfl⟩,h⟩
def Gl(X:Cx)(x:Str):Prop:=X.env.kindOf x=xE .globalImplicit
theorem Lj{E:j5->j3->Prop}{pos:Pos}{Q:j5->j3->Prop}(I:Inv X xD σ H s)(hg:Gl X x)(hm:X.mg x=xE u)(h:Q u s)
  (hd:(x==("__debug__":Str))=xH:=by decide):xJ (jS X.prog X.w) X.A (eval (.Name x pos) X.env) Q E s:=
 Calls.Name_function_global I.ok.kind hg (Calls.loadGlobal_global (by rw[I.ok.glob];exact I.mod.glob.keeps I.bk) hm h) hd
theorem Oo{E:j5->j3->Prop}{pos:Pos}{Q:j5->j3->Prop}(I:Inv X xD σ H s)(hg:Gl X x)(hm:X.mg x=xF)(hv:jC x=xE u)(h:Q u s)
  (hn:x≠"__name__":=by decide) (hd:(x==("__debug__":Str))=xH:=by decide):xJ (jS X.prog X.w) X.A (eval (.Name x pos) X.env) Q E s:=by
 obtain⟨mb,h1,h2⟩:=I.mod.blt;exact Calls.Name_function_global I.ok.kind hg (Calls.loadGlobal_builtin (by rw[I.ok.glob];exact I.mod.glob.keeps I.bk) hm (by rw[I.ok.blt];exact h1.keeps I.bk) ((h2 x hn).trans hv) h) hd
theorem ZBX{pos:Pos}(hg:Gl X x)(hm:X.mg x=xE u)(r:RelV v u)(hd:(x==("__debug__":Str))=xH:=by decide):PE X (.Name x pos) (tC v):=
 λ_ _ _ H _ I h=>Lj I hg hm ⟨v,H,I,r,h⟩ hd
theorem ZBb{pos:Pos}(hg:Gl X x)(hm:X.mg x=xF)(hv:jC x=xE u)(r:RelV v u)(hn:x≠"__name__":=by decide)(hd:(x==("__debug__":Str))=xH:=by decide):PE X (.Name x pos) (tC v):=
 λ_ _ _ H _ I h=>Oo I hg hm hv ⟨v,H,I,r,h⟩ hn hd
variable{a b:jk}{ta tb:TE}{pos:Pos}
noncomputable def tB(t:TE):TT:=λσ H Q=>t σ H λx H1=>∃c,x=.bl c/\Q c H1
theorem ZJV{t:TE}(h:PE X e t)(he:∀whole,isTrue e X.env whole=(do let v<-whole;standAt e.pos;holding [v] (truthy v)):=by intro _;rfl):PT X e (tB t):=by intro xD s σ H Q I hw;refine isTrue_plain (thn (h xD s σ H _ I hw) λv s1 ⟨x,H1,I1,r1,q1⟩=>?_) (he _);obtain⟨d,rfl,q⟩:=q1;cases r1;exact xA ⟨H1,I1,q⟩
variable{tA tB':TT}{rest:List jk}
noncomputable def tAnd(t u:TT):TT:=λσ H Q=>t σ H λc H1=>if c=xG then u σ H1 Q else Q xH H1
noncomputable def tOr(t u:TT):TT:=λσ H Q=>t σ H λc H1=>if c=xG then Q xG H1 else u σ H1 Q
noncomputable def tNot(t:TT):TT:=λσ H Q=>t σ H λc H1=>Q (!c) H1
theorem pw_and1(ha:PT X a tA):PW X (.BoolOp .And [a] pos) tA:=by
 intro wh xD s σ H Q I h;refine isTrue_and (thn (ha xD s σ H Q I h) λc s1 e=>?_);cases c with
 |true=>exact isTrue_and_nil e
 |false=>exact e
theorem pw_or1(ha:PT X a tA):PW X (.BoolOp .Or [a] pos) tA:=by
 intro wh xD s σ H Q I h;refine isTrue_or (thn (ha xD s σ H Q I h) λc s1 e=>?_);cases c with
 |false=>exact isTrue_or_nil e
 |true=>exact e
theorem pw_and(ha:PT X a tA)(hb:PW X (.BoolOp .And (b::rest) pos) tB'):PW X (.BoolOp .And (a::b::rest) pos) (tAnd tA tB'):=by
 intro wh xD s σ H Q I h;refine isTrue_and (thn (ha xD s σ H _ I h) λc s1 ⟨H1,I1,q1⟩=>?_);cases c with
 |true=>exact hb wh xD s1 σ H1 Q I1 q1
 |false=>exact⟨H1,I1,q1⟩
theorem pw_or(ha:PT X a tA)(hb:PW X (.BoolOp .Or (b::rest) pos) tB'):PW X (.BoolOp .Or (a::b::rest) pos) (tOr tA tB'):=by
 intro wh xD s σ H Q I h;refine isTrue_or (thn (ha xD s σ H _ I h) λc s1 ⟨H1,I1,q1⟩=>?_);cases c with
 |true=>exact⟨H1,I1,q1⟩
 |false=>exact hb wh xD s1 σ H1 Q I1 q1
theorem ZKM(ha:PT X a tA):PT X (.UnaryOp .Not a pos) (tNot tA):=by intro xD s σ H Q I h;exact isTrue_not (ha xD s σ H (λc H1=>Q (!c) H1) I h)
noncomputable def ZDk(ta tb:TE):TE:=λσ H Q=>ta σ H λx H1=>∃c,x=.bl c/\if c=xG then tb σ H1 Q else Q (.bl xH) H1
noncomputable def tOrV(ta tb:TE):TE:=λσ H Q=>ta σ H λx H1=>∃c,x=.bl c/\if c=xG then Q (.bl xG) H1 else tb σ H1 Q
noncomputable def ZFT(ta:TE):TE:=λσ H Q=>ta σ H λx H1=>∃c,x=.bl c/\Q (.bl (!c)) H1
theorem ZEz{op}{t:TE}(h:PE X a t):PE X (.BoolOp op [a] pos) t:=λxD s σ H Q I hw=>BoolOp_one (h xD s σ H Q I hw)
theorem ZH4(ha:PE X a ta)(hb:PE X (.BoolOp .And (b::rest) pos) tb):PE X (.BoolOp .And (a::b::rest) pos) (ZDk ta tb):=by
 intro xD s σ H Q I h;refine BoolOp_and (thn (ha xD s σ H _ I h) λv s1 ⟨x,H1,I1,r1,q1⟩=>?_);obtain⟨c,rfl,q1⟩:=q1;cases r1;refine xA ?_;cases c with
 |true=>exact hb xD s1 σ H1 Q I1 q1
 |false=>exact⟨.bl xH,H1,I1,rfl,q1⟩
theorem ZFp(ha:PE X a ta)(hb:PE X (.BoolOp .Or (b::rest) pos) tb):PE X (.BoolOp .Or (a::b::rest) pos) (tOrV ta tb):=by
 intro xD s σ H Q I h;refine BoolOp_or (thn (ha xD s σ H _ I h) λv s1 ⟨x,H1,I1,r1,q1⟩=>?_);obtain⟨c,rfl,q1⟩:=q1;cases r1;refine xA ?_;cases c with
 |false=>exact hb xD s1 σ H1 Q I1 q1
 |true=>exact⟨.bl xG,H1,I1,rfl,q1⟩
theorem ZKG(ha:PE X a ta):PE X (.UnaryOp .Not a pos) (ZFT ta):=by intro xD s σ H Q I h;refine UnaryOp_ (thn (ha xD s σ H _ I h) λv s1 ⟨x,H1,I1,r1,q1⟩=>?_);obtain⟨c,rfl,q1⟩:=q1;cases r1;exact not_of (xA ⟨.bl (!c),H1,I1,rfl,q1⟩)
end
def SqL(K:PySem.W.Frag)(H:Hp)(a:jx)(xs:List V):Prop:=
 Rd H a (.lst xs)∨
  ∃(o:Obj)(its:Array j5)(n:Nat),K.lookup a=xE o/\o.cls=.type "list"/\o.dict=xF/\o.data=.seq its n/\its.size<=sizeLine/\Vals xs its.toList
def SqT(K:PySem.W.Frag)(H:Hp)(a:jx)(xs:List V):Prop:=
 Rd H a (.tup xs)∨
  ∃(o:Obj)(its:Array j5)(n:Nat),K.lookup a=xE o/\o.cls=.type "tuple"/\o.data=.seq its n/\its.size<=sizeLine/\Vals xs its.toList
noncomputable def absV:j5->Option V
 |.none=>xE .non
 |.bool b=>xE (.bl b)
 |.int i _=>xE (.int i)
 |.str x _=>xE (.str x)
 |.bytes b _=>xE (.byt b)
 |.float b _=>xE (.flt b)
 |.ref a=>xE (.ref a)
 |.type n=>xE (.ty n)
 |_=>xF
theorem RelV.abs{x:V}(r:RelV x u):absV u=xE x:=by
 cases x with
 |non=>cases r;rfl
 |bl _=>cases r;rfl
 |int _=>obtain⟨t,rfl⟩:=r;rfl
 |str _=>obtain⟨t,rfl⟩:=r;rfl
 |byt _=>obtain⟨t,rfl⟩:=r;rfl
 |flt _=>obtain⟨t,rfl⟩:=r;rfl
 |ref _=>cases r;rfl
 |ty _=>cases r;rfl
theorem RelV.inj{x y:V}(r:RelV x u)(q:RelV y u):x=y:=Option.some.inj (r.abs.symm.trans q.abs)
theorem Vals.inj:∀{xs ys:List V}{us:List j5},Vals xs us->Vals ys us->xs=ys
 |_,_,_,.nil,.nil=>rfl
 |_,_,_,.cons r t,.cons r' t'=>by rw[r.inj r',Vals.inj t t']
section
variable{X:Cx}{xD:List (jx×Obj)}{σ:St}{H:Hp}{s:j3}{a:jx}{xs ys:List V}
theorem SqL.of(h:H a=xE (.lst xs)):SqL K H a xs:=.inl (.inl h)
theorem SqT.of(h:H a=xE (.tup xs)):SqT K H a xs:=.inl (.inl h)
theorem Inv.list(I:Inv X xD σ H s)(h:SqL X.K H a xs):∃its:List j5,Vals xs its/\PlainL s.heap a its.toArray/\xs.length<=sizeLine:=by
 rcases h with h|⟨o,its,n,hk,hc,hd,hs,hz,r⟩
 ·obtain⟨z,its,n,r,e⟩:=h.ok I.hok;exact⟨its,r,⟨_,n,e,rfl,rfl,rfl⟩,z⟩
 ·refine⟨its.toList,r,⟨o,n,I.kIn a o hk,hc,hd,by simpa using hs⟩,?_⟩;have e:=r.length;simp only[qM]at e;lia
theorem Inv.tuple(I:Inv X xD σ H s)(h:SqT X.K H a xs):∃its:List j5,Vals xs its/\IsTup s.heap a its.toArray/\xs.length<=sizeLine:=by
 rcases h with h|⟨o,its,n,hk,hc,hs,hz,r⟩
 ·obtain⟨z,its,r,p⟩:=h.ok I.hok;exact⟨its,r,p,z⟩
 ·refine⟨its.toList,r,⟨o,I.kIn a o hk,hc,n,by simpa using hs⟩,?_⟩;have e:=r.length;simp only[qM]at e;lia
theorem Inv.Xf(I:Inv X xD σ H s)(h:SqL X.K H a xs)(h':SqL X.K H a ys):xs=ys:=by
 obtain⟨its,r,⟨o,n,e,_,_,d⟩,_⟩:=I.list h;obtain⟨its',r',⟨o',n',e',_,_,d'⟩,_⟩:=I.list h';rw[e]at e';cases e';rw[d]at d';injection d' with d1 _
 have:its=its':=by simpa using congrArg Array.toList d1
 subst this;exact r.inj r'
theorem Inv.Xi(I:Inv X xD σ H s)(h:SqT X.K H a xs)(h':SqT X.K H a ys):xs=ys:=by
 obtain⟨its,r,⟨o,e,_,n,d⟩,_⟩:=I.tuple h;obtain⟨its',r',⟨o',e',_,n',d'⟩,_⟩:=I.tuple h';rw[e]at e';cases e';rw[d]at d';injection d' with d1 _
 have:its=its':=by simpa using congrArg Array.toList d1
 subst this;exact r.inj r'
end
noncomputable abbrev Cx.wish(X:Cx)(E:j5->j3->Prop):Cx:={X with xe:=E}
noncomputable abbrev Cx.nox(X:Cx):Cx:=X.wish λ_ _=>False
theorem Cx.Ok.wish(ok:X.Ok)(E:j5->j3->Prop):(X.wish E).Ok:=
 ⟨ok.mod,ok.kind,ok.glob,ok.blt,ok.above,ok.inj,ok.has,ok.cab,ok.hd,ok.frames,ok.stk,ok.exf,ok.bs,ok.bsz,ok.noex,ok.exfs,ok.funs,ok.frf⟩
theorem Cx.Ok.unwish(ok:(X.wish E).Ok):X.Ok:=
 ⟨ok.mod,ok.kind,ok.glob,ok.blt,ok.above,ok.inj,ok.has,ok.cab,ok.hd,ok.frames,ok.stk,ok.exf,ok.bs,ok.bsz,ok.noex,ok.exfs,ok.funs,ok.frf⟩
section
variable{X:Cx}{xD:List (jx×Obj)}{σ:St}{H:Hp}{s:j3}{E:j5->j3->Prop}
theorem Inv.wish(I:Inv X xD σ H s)(E:j5->j3->Prop):Inv (X.wish E) xD σ H s:=⟨I.ok.wish E,I.os,I.bare,I.base,I.loc,I.cell,I.free,I.Eo,I.pin,I.hok,I.len⟩
theorem Inv.unwish(I:Inv (X.wish E) xD σ H s):Inv X xD σ H s:=⟨I.ok.unwish,I.os,I.bare,I.base,I.loc,I.cell,I.free,I.Eo,I.pin,I.hok,I.len⟩
theorem SP.unwish{D:Ends}{f:Flow}{s':j3}(h:SP (X.wish E) xD D f s'):SP X xD D f s':=by
 cases f with
 |next=>obtain⟨σ',H',I,q⟩:=h;exact⟨σ',H',I.unwish,q⟩
 |brk=>obtain⟨σ',H',I,q⟩:=h;exact⟨σ',H',I.unwish,q⟩
 |cont=>obtain⟨σ',H',I,q⟩:=h;exact⟨σ',H',I.unwish,q⟩
 |ret u=>obtain⟨v,σ',H',I,r,q⟩:=h;exact⟨v,σ',H',I.unwish,r,q⟩
theorem PSs.nox{st:List j4}{t:TS}(h:PSs X.nox st t):PSs X st t:=λxD s σ H D I hw=>
 xz (h xD s σ H D (I.wish _) hw) (λ_ _ q=>q.unwish) λ_ _ z=>False.elim z
end
section
variable{X:Cx}{st:j4}{rest:List j4}{t u:TS}{e:jk}{te:TE}{pos:Pos}
noncomputable def ZGk:TS:=λD σ H=>D.nx σ H
noncomputable def tSeq(t u:TS):TS:=λD σ H=>t {D with nx:=u D} σ H
theorem ZGc:PSs X [] ZGk:=λ_ _ σ H _ I h=>wpAny_execs_nil ⟨σ,H,I,h⟩
theorem ZAg(h1:PS X st t)(h2:PSs X rest u):PSs X (st::rest) (tSeq t u):=by
 intro xD s σ H D I h;refine wpAny_execs_cons (thn (h1 xD s σ H {D with nx:=u D} I h) λf s1 q=>?_);cases f with
 |next=>
  obtain⟨σ',H',I',q⟩:=q;exact h2 xD s1 σ' H' D I' q
 |ret v=>exact q
 |brk=>exact q
 |cont=>exact q
theorem ZDH(h1:PS X st t):PSs X [st] t:=by
 intro xD s σ H D I h;refine wpAny_execs_cons (thn (h1 xD s σ H D I h) λf s1 q=>?_);cases f with
 |next=>exact wpAny_execs_nil q
 |ret v=>exact q
 |brk=>exact q
 |cont=>exact q
theorem Inv.quiet(I:Inv X xD σ H s):interactive X.env=xH:=by simp[interactive,I.ok.kind]
noncomputable def ZG3(te:TE):TS:=λD σ H=>te σ H λ_ H1=>D.nx σ H1
theorem ZDg(he:PE X e te)(hs:swapsWith e xF pos.line X.env=pure xH:=by rfl):PS X (.Expr e pos) (ZG3 te):=by intro xD s σ H D I h;exact wpAny_Expr_any (thn (he xD s σ H _ I h) λv s1 ⟨x,H1,I1,r1,q1⟩=>⟨σ,H1,I1,q1⟩) I.quiet hs
noncomputable def tRet(te:TE):TS:=λD σ H=>te σ H D.rt
theorem ZG8(he:PE X e te):PS X (.Return (xE e) pos) (tRet te):=by intro xD s σ H D I h;exact wpAny_Return_some (thn (he xD s σ H _ I h) λv s1 ⟨x,H1,I1,r1,q1⟩=>⟨x,σ,H1,I1,r1,q1⟩)
noncomputable def tIfS(c:TT)(t u:TS):TS:=λD σ H=>c σ H λb H1=>if b=xG then t D σ H1 else u D σ H1
theorem ZHC{c:jk}{a b:List j4}{tc:TT}(hc:PT X c tc)(ha:PSs X a t)(hb:PSs X b u):PS X (.If c a b pos) (tIfS tc t u):=by
 intro xD s σ H D I h;refine wpAny_If (thn (hc xD s σ H _ I h) λd s1 ⟨H1,I1,q1⟩=>?_);cases d with
 |true=>exact ha xD s1 σ H1 D I1 q1
 |false=>exact hb xD s1 σ H1 D I1 q1
end
noncomputable abbrev TG:=V->St->Hp->(St->Hp->Prop)->Prop
noncomputable abbrev TGs:=List V->St->Hp->(St->Hp->Prop)->Prop
def PG(X:Cx)(target:jk)(t:TG):Prop:=
 ∀(xD:List (jx×Obj))(s:j3)(σ:St)(H:Hp)(v:V)(u:j5)(Q:St->Hp->Prop),Inv X xD σ H s->RelV v u->t v σ H Q->
  xJ (jS X.prog X.w) X.A (assign target X.env u) (λ_ s'=>∃σ' H',Inv X xD σ' H' s'/\Q σ' H') X.xe s
def PGs(X:Cx)(ts:List jk)(t:TGs):Prop:=
 ∀(xD:List (jx×Obj))(s:j3)(σ:St)(H:Hp)(vs:List V)(us:List j5)(Q:St->Hp->Prop),Inv X xD σ H s->Vals vs us->t vs σ H Q->
  xJ (jS X.prog X.w) X.A (assignInOrder ((j7 ts X.env).map (·.2)) us) (λ_ s'=>∃σ' H',Inv X xD σ' H' s'/\Q σ' H') X.xe s
section
variable{X:Cx}{pos:Pos}
noncomputable def ZBJ(i:Nat):TG:=λv σ H Q=>Q (σ.set i (xE v)) H
theorem ZFd(hN:X.N.Nodup)(hi:X.N[i]?=xE x)(hx:Loc X.env.scope x)(hf:X.fn x=xG∨X.env.scope.names.lookup x=xE .local:=by first|exact .inl rfl|exact .inr rfl|assumption):PG X (.Name x pos) (ZBJ i):=by intro xD s σ H v u Q I r h;exact wpAny_assign_Name (Yr I hN hi hx r (λs' I'=>⟨_,H,I',h⟩) hf)
noncomputable def gNil:TGs:=λvs σ H Q=>vs=[]/\Q σ H
noncomputable def ZFm(t:TG)(u:TGs):TGs:=λvs σ H Q=>∃v r,vs=v::r/\t v σ H λσ' H'=>u r σ' H' Q
theorem ZFt:PGs X [] gNil:=by intro xD s σ H vs us Q I r h;obtain⟨e,h⟩:=h;subst e;cases r;exact assignInOrder_nil ⟨σ,H,I,h⟩
theorem ZEo{es:List jk}{t:TG}{u:TGs}(h1:PG X e t)(h2:PGs X es u)
  (hs:(j7 (e::es) X.env).map (·.2)=assign e X.env::(j7 es X.env).map (·.2):=by rfl):PGs X (e::es) (ZFm t u):=by
 intro xD s σ H vs us Q I r h;obtain⟨v,vr,e1,h⟩:=h;subst e1;cases r with
 |cons r rr=>
  rw[hs];refine assignInOrder_cons (thn (h1 xD s σ H _ _ _ I r h) λ_ s1 ⟨σ1,H1,I1,q1⟩=>?_);exact h2 xD s1 σ1 H1 _ _ Q I1 rr q1
noncomputable def gTup(K:PySem.W.Frag)(n:Nat)(t:TGs):TG:=λv σ H Q=>∃a xs,v=.ref a/\SqT K H a xs/\xs.length=n/\t xs σ H Q
theorem ZDw{es:List jk}{k:Nat}{t:TGs}{n:Nat}(hc:X.calm=xG)(h:PGs X es t)
  (hn:(j7 es X.env).length=n:=by rfl) (hst:(j7 es X.env).findIdx? (·.1)=xF:=by rfl):PG X (.Tuple es k pos) (gTup X.K n t):=by
 intro xD s σ H v u Q I r hw;obtain⟨a,xs,e1,hq,hl,hw⟩:=hw;subst e1;cases r;obtain⟨its,rv,ht,hz⟩:=I.tuple hq;refine assign_Tuple_tuple (I.ok.hd hc) ht (by simp[hn,<-hl,rv.length]) hst λh' hx=>?_
 have I1:Inv X xD σ H {s with heap:=h'}:=I.kept (t':=s.toks) λb o e=>hx b o (zC (zV e)) e
 exact h xD _ σ H xs _ Q I1 (by simpa using rv) hw
noncomputable def tAsg(te:TE)(g:TG):TS:=λD σ H=>te σ H λx H1=>g x σ H1 D.nx
theorem ZGr{te:TE}{pos':Pos}(hN:X.N.Nodup)(hi:X.N[i]?=xE x)(hx:Loc X.env.scope x)(he:PE X e te)(hs:swapsWith e (xE (.Name x pos')) pos.line X.env=pure xH:=by rfl)(hf:X.fn x=xG∨X.env.scope.names.lookup x=xE .local:=by first|exact .inl rfl|exact .inr rfl|assumption):
  PS X (.Assign [.Name x pos'] e pos) (tAsg te (ZBJ i)):=by
 intro xD s σ H D I h;refine wpAny_Assign_Name (thn (he xD s σ H _ I h) λv s1 ⟨y,H1,I1,r1,q1⟩=>?_) hs;exact Yr I1 hN hi hx r1 (λs2 I2=>⟨_,H1,I2,q1⟩) hf
end
section
variable{X:Cx}{pos:Pos}
end
structure It where
 go:Nat->Hp->Prop
 yld:Nat->Hp->V->Hp->Prop
 stop:Nat->Hp->Prop
def FpOk(X:Cx)(xD:List (jx×Obj))(H:Hp)(b:jx):Prop:=
 H b=xF/\b≠X.env.locals/\b∉X.fs/\(b∈X.ex∨X.s₀.heap.objs.size<=b)/\(∀x c,X.env.cells.lookup x=xE c->c≠b)/\∀p∈X.pn++xD,p.1≠b
theorem Inv.Kh{H':Hp}(I:Inv X xD σ H s)(hb:s.heap.objs.size<=b)(hn:H' b=xF):FpOk X xD H' b:=by
 refine⟨hn,jQ (zZ I.lt hb),I.nofs hb,.inr (z0 I.sz hb),λx c e z=>?_,λp hp z=>?_⟩
 ·obtain⟨v,q⟩:=I.cell x c e;exact absurd (zZ q.lt (by rw[z];exact hb)) (zE _)
 ·exact absurd (zZ (zV (I.pin p hp).1) (by rw[z];exact hb)) (zE _)
structure Turn (P:j1) (w:j6) (K:PySem.W.Frag) (tg:jk) (J:It) (fp:List jx) (it:jx) (tn:Nat->Heap->Prop):Prop where
 mem:it∈fp
 obj:∀i h,tn i h->∀b∈fp,∃o,h.get? b=xE o/\∀v,o.data≠ .cell v
 keep:∀i h h',tn i h->(∀b∈fp,∀o,h.get? b=xE o->h'.get? b=xE o)->tn i h'
 item:∀(X:Cx),X.prog=P->X.w=w->X.K=K->X.calm=xG->∀(i:Nat)(xD:List (jx×Obj))(s:j3)(σ:St)(H:Hp)(E:j5->j3->Prop),Inv X xD σ H s->(∀b∈fp,FpOk X xD H b)->tn i s.heap->J.go i H->
  xJ (jS P w) X.A (pyNext (.ref it)) (λr s1=>∃u,r=xE u/\
   xJ (jS P w) X.A (jP tg (.ref it) u) (λ_ s2=>∃x H',Inv X xD σ H' s2/\RelV x u/\J.yld i H x H'/\tn (i+1) s2.heap/\∀b∈fp,H' b=xF) E s1) E s
 done:∀(X:Cx),X.prog=P->X.w=w->X.K=K->X.calm=xG->∀(i:Nat)(xD:List (jx×Obj))(s:j3)(σ:St)(H:Hp)(E:j5->j3->Prop),Inv X xD σ H s->(∀b∈fp,FpOk X xD H b)->tn i s.heap->J.stop i H->
  xJ (jS P w) X.A (pyNext (.ref it)) (λr s1=>r=xF/\Inv X xD σ H s1) E s
 self:∀(A:jv)(i:Nat)(s:j3)(Q:j5->j3->Prop)(E:j5->j3->Prop),tn i s.heap->Q (.ref it) s->xJ (jS P w) A (pyIter (.ref it)) Q E s
noncomputable abbrev TI:=St->Hp->(It->Hp->Prop)->Prop
def PIE(X:Cx)(xD:List (jx×Obj))(σ:St)(tg:jk)(R:It->Hp->Prop)(itv:j5)(s2:j3):Prop:=
 ∃(it:jx)(fp:List jx)(tn:Nat->Heap->Prop)(J:It)(H':Hp),itv=.ref it/\Inv X xD σ H' s2/\Turn X.prog X.w X.K tg J fp it tn/\tn 0 s2.heap/\(∀b∈fp,FpOk X xD H' b)/\R J H'
def PI(X:Cx)(tg iter:jk)(wi:TI):Prop:=
 ∀(xD:List (jx×Obj))(s:j3)(σ:St)(H:Hp)(R:It->Hp->Prop),Inv X xD σ H s->wi σ H R->
  xJ (jS X.prog X.w) X.A (eval iter X.env) (λv s1=>xJ (jS X.prog X.w) X.A (pyIter v) (PIE X xD σ tg R) X.xe s1) X.xe s
theorem Mf{M:Model}{it:jx}{o:Obj}{n:String}{vs:Array j5}(ho:s.heap.get? it=xE o)(hc:o.cls=.type n)(hd:o.data=.fields vs)
  (hn: ["enumerate","zip","dict_itemiterator","dict_reverseitemiterator","odict_iterator","itertools.zip_longest","itertools.pairwise"].contains n=xH) (hQ:Q () s):xJ M A (jP tg (.ref it) u) Q E s:=by
 unfold jP
 cases tg<;>first
  |exact xy hQ
  | (cases u<;>first
    |exact xy hQ
    | (
      refine xV (wpAny_load ho ?_);rw[hc,hd];show xJ M A (if(["enumerate","zip","dict_itemiterator","dict_reverseitemiterator","odict_iterator","itertools.zip_longest","itertools.pairwise"].contains n&&vs[0]?==xE (jT _))=xG then _ else _) Q E s;rw[if_neg (by intro h;rw[hn,Bool.false_and]at h;cases h)];exact xy hQ))
noncomputable def Itl(K:PySem.W.Frag)(a:jx):It:=
 ⟨λi H=>∃xs x,SqL K H a xs/\xs[i]?=xE x,λi H x H'=>H'=H/\∀xs,SqL K H a xs->xs[i]?=xE x,λi H=>∃xs,SqL K H a xs/\xs.length<=i⟩
noncomputable def Itt(K:PySem.W.Frag)(a:jx):It:=
 ⟨λi H=>∃xs x,SqT K H a xs/\xs[i]?=xE x,λi H x H'=>H'=H/\∀xs,SqT K H a xs->xs[i]?=xE x,λi H=>∃xs,SqT K H a xs/\xs.length<=i⟩
noncomputable def Itr(lo:Int)(n:Nat):It:=⟨λi _=>i<n,λi H x H'=>H'=H/\x=.int (lo+i),λi _=>n<=i⟩
theorem ZEa(a it:jx):Turn P w K tg (Itl K a) [it] it (λi h=>h.IsListIter it a i) where
 mem:=by simp
 obj:=λi h st b hb=>by
  have e:b=it:=by simpa using hb
  subst e;obtain⟨o,e,c,d⟩:=st;exact⟨o,e,λv z=>by rw[d]at z;cases z⟩
 keep:=λi h h' st k=>st.at λo e=>k it (by simp) o e
 item:=by
  intro X hP hw hK hc i xD s σ H E I hf st hg;subst hP hw hK;obtain⟨xs,x,hq,hx⟩:=hg;obtain⟨its,rv,p,hz⟩:=I.list hq;obtain⟨u,hu,ru⟩:=rv.get hx;obtain⟨f0,f1,f2,f3,f4,f5⟩:=hf it (by simp);refine wpAny_pyNext_list_item st p.isList (x:=u) (by simpa using hu) λh' st' sb=>?_
  have I1:Inv X xD σ H {s with heap:=h'}:=I.turned (t':=s.toks) (λb o hb e=>(sb.2 b hb).trans e) f0 f1 f3 f4 f5;obtain⟨o,e,c,d⟩:=id st';exact⟨u,rfl,Mf (s:={s with heap:=h'}) e c d (by decide) ⟨x,H,I1,ru,⟨rfl,λys hy=>by rw[I.Xf hy hq];exact hx⟩,st',λb hb=>(hf b hb).1⟩⟩
 done:=by intro X hP hw hK hc i xD s σ H E I hf st hg;subst hP hw hK;obtain⟨xs,hq,hx⟩:=hg;obtain⟨its,rv,p,hz⟩:=I.list hq;obtain⟨f0,f1,f2,f3,f4,f5⟩:=hf it (by simp);have hl:=rv.length;exact wpAny_pyNext_list_end (I.ok.hd hc) st p.isList (by simp;lia) λh' eb=>⟨rfl,I.turned (t':=s.toks) (λb o hb e=>eb b o hb e) f0 f1 f3 f4 f5⟩
 self:=λ_ _ _ _ _ st h=>wpAny_pyIter_listiter st h
theorem ZEu(a it:jx):Turn P w K tg (Itt K a) [it] it (λi h=>h.IsTupleIter it a i) where
 mem:=by simp
 obj:=λi h st b hb=>by
  have e:b=it:=by simpa using hb
  subst e;obtain⟨o,e,c,d⟩:=st;exact⟨o,e,λv z=>by rw[d]at z;cases z⟩
 keep:=λi h h' st k=>st.at λo e=>k it (by simp) o e
 item:=by
  intro X hP hw hK hc i xD s σ H E I hf st hg;subst hP hw hK;obtain⟨xs,x,hq,hx⟩:=hg;obtain⟨its,rv,p,hz⟩:=I.tuple hq;obtain⟨u,hu,ru⟩:=rv.get hx;obtain⟨f0,f1,f2,f3,f4,f5⟩:=hf it (by simp)
  refine wpAny_pyNext_tuple_item st (show s.heap.IsTuple a its.toArray from p) (x:=u) (by simpa using hu) λh' st' sb=>?_
  have I1:Inv X xD σ H {s with heap:=h'}:=I.turned (t':=s.toks) (λb o hb e=>(sb.2 b hb).trans e) f0 f1 f3 f4 f5;obtain⟨o,e,c,d⟩:=id st';exact⟨u,rfl,Mf (s:={s with heap:=h'}) e c d (by decide) ⟨x,H,I1,ru,⟨rfl,λys hy=>by rw[I.Xi hy hq];exact hx⟩,st',λb hb=>(hf b hb).1⟩⟩
 done:=by
  intro X hP hw hK hc i xD s σ H E I hf st hg;subst hP hw hK;obtain⟨xs,hq,hx⟩:=hg;obtain⟨its,rv,p,hz⟩:=I.tuple hq;obtain⟨f0,f1,f2,f3,f4,f5⟩:=hf it (by simp);have hl:=rv.length
  exact wpAny_pyNext_tuple_end (I.ok.hd hc) st (show s.heap.IsTuple a its.toArray from p) (by simp;lia) λh' eb=>⟨rfl,I.turned (t':=s.toks) (λb o hb e=>eb b o hb e) f0 f1 f3 f4 f5⟩
 self:=λ_ _ _ _ _ st h=>wpAny_pyIter_tupleiter st h
theorem ZKN(it:jx)(lo:Int)(n:Nat):Turn P w K tg (Itr lo n) [it] it (λi h=>IsRangeIter h it (lo+(i:Nat)*1) ((n:Int)-(i:Nat)) 1) where
 mem:=by simp
 obj:=λi h st b hb=>by
  have e:b=it:=by simpa using hb
  subst e;exact⟨_,st,λv z=>by have z':Data.fields _=Data.cell v:=z;cases z'⟩
 keep:=λi h h' st k=>k it (by simp) _ st
 item:=by
  intro X hP hw hK hc i xD s σ H E I hf st hg;subst hP hw hK;obtain⟨f0,f1,f2,f3,f4,f5⟩:=hf it (by simp);have W:=Walks.range (prog:=X.prog) (w:=X.w) (I.ok.hd hc) it lo 1 n;refine W.item i s _ _ hg st λv h' tk hv st' kk=>?_
  obtain⟨t,rfl⟩:=hv;have I1:Inv X xD σ H {s with heap:=h',toks:=tk}:=I.turned (λb o hb e=>kk b o (by simpa using hb) e) f0 f1 f3 f4 f5;refine⟨_,rfl,Mf (s:={s with heap:=h',toks:=tk}) (n:="range_iterator") st' rfl rfl (by decide) ⟨.int (lo+i),H,I1,⟨t,?_⟩,⟨rfl,rfl⟩,st',λb hb=>(hf b hb).1⟩⟩;rw[Int.mul_one]
 done:=by intro X hP hw hK hc i xD s σ H E I hf st hg;subst hP hw hK;obtain⟨f0,f1,f2,f3,f4,f5⟩:=hf it (by simp);exact wpAny_pyNext_range_end (I.ok.hd hc) st (by have:n<=i:=hg;lia) λh' eb=>⟨rfl,I.turned (t':=s.toks) (λb o hb e=>eb b o hb e) f0 f1 f3 f4 f5⟩
 self:=λ_ _ _ _ _ st h=>wpAny_pyIter_rangeiter st h
section
variable{X:Cx}{tg:jk}
def ZI8(K:PySem.W.Frag)(tl:TE):TI:=λσ H R=>tl σ H λx H1=>∃a,x=.ref a/\(∃xs,SqL K H1 a xs)/\R (Itl K a) H1
def iTup(K:PySem.W.Frag)(tl:TE):TI:=λσ H R=>tl σ H λx H1=>∃a,x=.ref a/\(∃xs,SqT K H1 a xs)/\R (Itt K a) H1
theorem Z6{l:jk}{tl:TE}(hl:PE X l tl):PI X tg l (ZI8 X.K tl):=by
 intro xD s σ H R I h;refine thn (hl xD s σ H _ I h) λv s1 ⟨x,H1,I1,r1,q1⟩=>?_
 obtain⟨a,e,⟨xs,hq⟩,q⟩:=q1;subst e;cases r1;obtain⟨its,rv,p,hz⟩:=I1.list hq;refine wpAny_pyIter_list p.isList ?_;refine⟨s1.heap.objs.size,[s1.heap.objs.size],_,_,H1,rfl,I1.kept (t':=s1.toks) λb o e=>zQ _ e,ZEa a _,⟨_,zy _ rfl,rfl,rfl⟩,λb hb=>?_,q⟩;have e:b=s1.heap.objs.size:=by simpa using hb
 subst e;exact I1.Kh (zK _) (I1.hok.fresh (zK _))
theorem ZE0{l:jk}{tl:TE}(hl:PE X l tl):PI X tg l (iTup X.K tl):=by
 intro xD s σ H R I h;refine thn (hl xD s σ H _ I h) λv s1 ⟨x,H1,I1,r1,q1⟩=>?_
 obtain⟨a,e,⟨xs,hq⟩,q⟩:=q1;subst e;cases r1;obtain⟨its,rv,p,hz⟩:=I1.tuple hq
 refine wpAny_pyIter_tuple (show s1.heap.IsTuple a its.toArray from p) ?_
 refine⟨s1.heap.objs.size,[s1.heap.objs.size],_,_,H1,rfl,I1.kept (t':=s1.toks) λb o e=>zQ _ e,ZEu a _,⟨_,zy _ rfl,rfl,rfl⟩,λb hb=>?_,q⟩;have e:b=s1.heap.objs.size:=by simpa using hb
 subst e;exact I1.Kh (zK _) (I1.hok.fresh (zK _))
theorem ZF2{R:It->Hp->Prop}{lo hi:Int}{t u v:Tok}{tk:Nat}(I:Inv X xD σ H s)(h1: -(2^62)<=lo)(h2:lo<2^62)(h3: -(2^62)<=hi)(h4:hi<2^62)
  (q:R (Itr lo (hi-lo).toNat) H):xJ (jS X.prog X.w) X.A (pyIter (.ref s.heap.objs.size)) (PIE X xD σ tg R) E {s with heap:=s.heap.push {cls:=.type "range",data:=.fields #[.int lo t,.int hi u,.int 1 v]},toks:=tk}:=by
 refine wpAny_pyIter_range (IsRange.new ..) (small_one h1 h2 h3 h4) ?_;have I1:Inv X xD σ H {s with heap:=s.heap.push {cls:=.type "range",data:=.fields #[.int lo t,.int hi u,.int 1 v]},toks:=tk}:=I.kept λb o e=>zQ _ e
 refine⟨(s.heap.push {cls:=.type "range",data:=.fields #[.int lo t,.int hi u,.int 1 v]}).objs.size,[(s.heap.push {cls:=.type "range",data:=.fields #[.int lo t,.int hi u,.int 1 v]}).objs.size],_,_,H,rfl,
  I1.kept (t':=tk) λb o e=>zQ _ e,ZKN _ lo (hi-lo).toNat,?_,λb hb=>?_,q⟩
 ·have e1:lo+((0:Nat):Int)*1=lo:=by simp
  have e2:(((hi-lo).toNat:Nat):Int)-((0:Nat):Int)=Builtin.Range.rangeSize lo hi 1:=by rw[rangeSize_one];split <;> lia
  show IsRangeIter _ _ (lo+((0:Nat):Int)*1) ((((hi-lo).toNat:Nat):Int)-((0:Nat):Int)) 1;rw[e1,e2];exact zy _ rfl
 ·have e:b=(s.heap.push {cls:=.type "range",data:=.fields #[.int lo t,.int hi u,.int 1 v]}).objs.size:=by simpa using hb
  subst e;exact I1.Kh (zK _) (I1.hok.fresh (zK _))
def ZF7(ta:TA):TI:=λσ H R=>ta σ H λvs H1=>∃j:Int,vs=[.int j]/\ -(2^62)<=j/\j<2^62/\R (Itr 0 j.toNat) H1
theorem ZDt{a:jk}{ta:TA}{p pos:Pos}(hg:Gl X "range")(hm:X.mg "range"=xF)(ha:PA X [a] ta)(hs:xQ [a] X.env=[(xH,eval a X.env)]:=by rfl):PI X tg (.Call (.Name "range" p) [a] [] pos) (ZF7 ta):=by
 intro xD s σ H R I h;refine Call_ (Oo I hg hm boot_range (PyProof.Rows.callWith_type1 (thn (ha pos xD s σ H _ I h) λus s1 ⟨vs,H1,I1,r1,q1⟩=>?_) hs rfl));obtain⟨j,e,q1,q2,q⟩:=q1;subst e;cases r1 with
 |cons r rr=>
  cases rr;obtain⟨t,rfl⟩:=r;exact call_range_1 (ZF2 I1 (by lia) (by lia) q1 q2 (by simpa using q))
def tFor(wi:TI)(g:TG)(tb:TS):TS:=λD σ H=>wi σ H λJ H1=>∃W:Nat->Nat->St->Hp->Prop,(∃m,W 0 m σ H1)/\∀i m σ H,W i m σ H->
 (J.stop i H/\D.nx σ H)∨(J.go i H/\∃N:St->Hp->Prop,(∀σ' H',N σ' H'->∃m',m'<m/\W (i+1) m' σ' H')/\∀x H',J.yld i H x H'->g x σ H' λσ2 H2=>tb {D with nx:=N,ct:=N,bk:=D.nx} σ2 H2)
noncomputable def M8(fp:List jx)(h:Heap):List (jx×Obj):=fp.filterMap λb=>(h.get? b).map λo=>(b,o)
theorem Tu{o:Obj}(hb:b∈fp)(e:h.get? b=xE o):(b,o)∈M8 fp h:=List.mem_filterMap.mpr ⟨b,hb,by rw[e];rfl⟩
theorem ZDO{p:jx×Obj}(hp:p∈M8 fp h):p.1∈fp/\h.get? p.1=xE p.2:=by
 obtain⟨b,hb,e⟩:=List.mem_filterMap.mp hp;cases q:h.get? b with
 |none=>rw[q]at e;cases e
 |some o=>
  rw[q]at e;have e':(b,o)=p:=Option.some.inj e;subst e';exact⟨hb,q⟩
theorem Inv.pinned(I:Inv X xD σ H s)(hf:∀b∈fp,FpOk X xD H b)(ho:∀b∈fp,∃o,s.heap.get? b=xE o/\∀v,o.data≠ .cell v):Inv X (xD++M8 fp s.heap) σ H s:=
 I.Ip λp hp=>(zP.mp hp).elim (λz=>I.pin p (z9 _ z)) λz=>by obtain⟨hb,e⟩:=ZDO z;obtain⟨f0,f1,f2,_⟩:=hf p.1 hb;obtain⟨o,e',d⟩:=ho p.1 hb;rw[e]at e';cases e';exact⟨e,f0,f1,f2,d⟩
theorem Inv.unpinned{pl:List (jx×Obj)}(I:Inv X (xD++pl) σ H s):Inv X xD σ H s:=I.Ip λp hp=>I.pin p (z9 _ (jY _ hp))
theorem ZGz{iter:jk}{body:List j4}{wi:TI}{g:TG}{tb:TS}{pos:Pos}(hp:PassesOwn (jS X.prog X.w) X.A X.env X.xe)(hc:X.calm=xG)(hi:PI X tg iter wi)(hg:PG X tg g)(hb:PSs X body tb)
  (hs:∀x,foldedSetIterable iter X.env x=pure x:=by intro _;rfl):PS X (.For tg iter body [] pos) (tFor wi g tb):=by
 intro xD s σ H D I h;refine wpAny_For (thn (hi xD s σ H _ I h) λv s1 h1=>thn h1 λitv s2 h2=>?_) hs;obtain⟨it,fp,tn,J,H2,e,I2,T,st2,f2,W,⟨m0,w0⟩,turn⟩:=h2;subst e;have stat:∀{H':Hp},(∀b∈fp,H' b=xF)->∀b∈fp,FpOk X xD H' b:=λhn b hb=>⟨hn b hb,(f2 b hb).2⟩
 refine codeAny_forLoop_any (λn s'=>∃i σ' H',Inv X xD σ' H' s'/\tn i s'.heap/\(∀b∈fp,H' b=xF)/\W i n σ' H') ?_ m0 ⟨0,σ,H2,I2,st2,λb hb=>(f2 b hb).1,w0⟩;rintro n s3 ⟨i,σ3,H3,I3,st3,fr3,w3⟩;rcases turn i n σ3 H3 w3 with⟨stop,qn⟩|⟨go,N,hN,step⟩
 ·refine xk hp (thn (T.done X rfl rfl rfl hc i xD s3 σ3 H3 X.xe I3 (stat fr3) st3 stop) λr s4 ⟨hr,I4⟩=>?_);subst hr;exact wpAny_execs_nil ⟨σ3,H3,I4,qn⟩
 ·refine xk hp (thn (T.item X rfl rfl rfl hc i xD s3 σ3 H3 X.xe I3 (stat fr3) st3 go) λr s4 ⟨u,hr,h4⟩=>?_);subst hr;refine xk hp (thn h4 λ_ s5 ⟨x,H5,I5,r5,y5,st5,fr5⟩=>?_);have I5':=I5.pinned (stat fr5) (T.obj _ _ st5);refine xk hp (thn (hg _ s5 σ3 H5 x u _ I5' r5 (step x H5 y5)) λ_ s6 ⟨σ6,H6,I6,q6⟩=>?_);refine xk hp (thn (hb _ s6 σ6 H6 _ I6 q6) λf s7 q7=>?_)
  have again:∀{σ7:St}{H7:Hp},Inv X (xD++M8 fp s5.heap) σ7 H7 s7->N σ7 H7->∃m,m<n/\∃i σ' H',Inv X xD σ' H' s7/\tn i s7.heap/\(∀b∈fp,H' b=xF)/\W i m σ' H':=λ{σ7 H7}I7 n7=>by obtain⟨m',hm,w7⟩:=hN σ7 H7 n7;refine⟨m',hm,i+1,σ7,H7,I7.unpinned,T.keep _ _ _ st5 λb hb o e=>(I7.pin (b,o) (z9 _ (z9 _ (Tu hb e)))).1,λb hb=>?_,w7⟩;obtain⟨o,e,d⟩:=T.obj _ _ st5 b hb;exact(I7.pin (b,o) (z9 _ (z9 _ (Tu hb e)))).2.1
  cases f with
  |next=>obtain⟨σ7,H7,I7,n7⟩:=q7;exact again I7 n7
  |cont=>obtain⟨σ7,H7,I7,n7⟩:=q7;exact again I7 n7
  |brk=>obtain⟨σ7,H7,I7,q7⟩:=q7;exact⟨σ7,H7,I7.unpinned,q7⟩
  |ret v=>obtain⟨x7,σ7,H7,I7,r7,q7⟩:=q7;exact⟨x7,σ7,H7,I7.unpinned,r7,q7⟩
end
noncomputable abbrev R2:=V->V->Hp->VK->Prop
variable{r r':R2}
def OpR(X:Cx)(f:j5->j5->Sem j5)(r:R2):Prop:=
 ∀(xD:List (jx×Obj))(s:j3)(σ:St)(H:Hp)(x y:V)(v u:j5)(Q:VK),Inv X xD σ H s->RelV x v->RelV y u->r x y H Q->
  xJ (jS X.prog X.w) X.A (f v u) (EP X xD σ Q) X.xe s
def UnR(X:Cx)(f:j5->Sem j5)(r:V->Hp->VK->Prop):Prop:=
 ∀(xD:List (jx×Obj))(s:j3)(σ:St)(H:Hp)(x:V)(v:j5)(Q:VK),Inv X xD σ H s->RelV x v->r x H Q->
  xJ (jS X.prog X.w) X.A (f v) (EP X xD σ Q) X.xe s
def CallR(X:Cx)(f:j5)(r:List V->Hp->VK->Prop):Prop:=
 ∀(xD:List (jx×Obj))(s:j3)(σ:St)(H:Hp)(xs:List V)(us:List j5)(Q:VK),Inv X xD σ H s->Vals xs us->r xs H Q->
  xJ (jS X.prog X.w) X.A (call f us) (EP X xD σ Q) X.xe s
noncomputable def tOp(r:R2)(ta tb:TE):TE:=λσ H Q=>ta σ H λx H1=>tb σ H1 λy H2=>r x y H2 Q
noncomputable def tUn(r:V->Hp->VK->Prop)(ta:TE):TE:=λσ H Q=>ta σ H λx H1=>r x H1 Q
noncomputable def rI(C:Int->Int->Prop)(g:Int->Int->V):R2:=λx y H Q=>∃i j,x=.int i/\y=.int j/\C i j/\Q (g i j) H
noncomputable def rI0(g:Int->Int->V):R2:=λx y H Q=>∃i j,x=.int i/\y=.int j/\Q (g i j) H
def rU(g:Int->V):V->Hp->VK->Prop:=λx H Q=>∃i,x=.int i/\Q (g i) H
section
variable{X:Cx}{a b c:jk}{ta tb tc:TE}{pos:Pos}
theorem W7(ha:PE X a ta)(hb:PE X b tb){R:V->V->Hp->Prop}(I:Inv X xD σ H s)
  (h:ta σ H λx H1=>tb σ H1 λy H2=>R x y H2) {Q:j5->j3->Prop} {f:j5->j5->Sem j5}
  (hf:∀v u s2 x y H2,Inv X xD σ H2 s2->RelV x v->RelV y u->R x y H2->xJ (jS X.prog X.w) X.A (f v u) Q X.xe s2):
  xJ (jS X.prog X.w) X.A (eval a X.env) (λv s₁=>xJ (jS X.prog X.w) X.A (eval b X.env) (λu s₂=>xJ (jS X.prog X.w) X.A (f v u) Q X.xe s₂) X.xe s₁) X.xe s:=by
 refine thn (ha xD s σ H _ I h) λv s1 ⟨x,H1,I1,r1,q1⟩=>?_
 refine thn (hb xD s1 σ H1 _ I1 q1) λu s2 ⟨y,H2,I2,r2,q2⟩=>?_
 exact hf v u s2 x y H2 I2 r1 r2 q2
theorem ZIb{op:Operator}(ho:OpR X (jB op) r)(ha:PE X a ta)(hb:PE X b tb):PE X (.BinOp a op b pos) (tOp r ta tb):=by intro xD s σ H Q I h;exact wpAny_BinOp (W7 ha hb I h λv u s2 x y H2 I2 rx ry q=>ho xD s2 σ H2 x y v u Q I2 rx ry q)
theorem ZEO{op:UnaryOp}{r:V->Hp->VK->Prop}(ho:UnR X (unaryOp op) r)(ha:PE X a ta):PE X (.UnaryOp op a pos) (tUn r ta):=by intro xD s σ H Q I h;exact UnaryOp_ (thn (ha xD s σ H _ I h) λv s1 ⟨x,H1,I1,r1,q1⟩=>ho xD s1 σ H1 x v Q I1 r1 q1)
theorem opI{C:Int->Int->Prop}{g:Int->Int->Int}
  (rule:∀(i j:Int)(t u:Tok)(s:j3)(Q:j5->j3->Prop)(E:j5->j3->Prop),C i j->Q (.int (g i j) s.toks) {s with toks:=s.toks+1}->xJ (jS X.prog X.w) X.A (f (.int i t) (.int j u)) Q E s):
  OpR X f (rI C λi j=>.int (g i j)):=by
 intro xD s σ H x y v u Q I rx ry h;obtain⟨i,j,rfl,rfl,hc,q⟩:=h;obtain⟨t,rfl⟩:=rx;obtain⟨t',rfl⟩:=ry;exact rule i j t t' s _ _ hc ⟨.int (g i j),H,I.tok _,⟨_,rfl⟩,q⟩
theorem opI0{g:Int->Int->Int}
  (rule:∀(i j:Int)(t u:Tok)(s:j3)(Q:j5->j3->Prop)(E:j5->j3->Prop),Q (.int (g i j) s.toks) {s with toks:=s.toks+1}->xJ (jS X.prog X.w) X.A (f (.int i t) (.int j u)) Q E s):
  OpR X f (rI0 λi j=>.int (g i j)):=by
 intro xD s σ H x y v u Q I rx ry h;obtain⟨i,j,rfl,rfl,q⟩:=h;obtain⟨t,rfl⟩:=rx;obtain⟨t',rfl⟩:=ry;exact rule i j t t' s _ _ ⟨.int (g i j),H,I.tok _,⟨_,rfl⟩,q⟩
theorem Sd{g:Int->Int->Bool}
  (rule:∀(i j:Int)(t u:Tok)(s:j3)(Q:j5->j3->Prop)(E:j5->j3->Prop),Q (.bool (g i j)) s->xJ (jS X.prog X.w) X.A (f (.int i t) (.int j u)) Q E s):
  OpR X f (rI0 λi j=>.bl (g i j)):=by
 intro xD s σ H x y v u Q I rx ry h;obtain⟨i,j,rfl,rfl,q⟩:=h;obtain⟨t,rfl⟩:=rx;obtain⟨t',rfl⟩:=ry;exact rule i j t t' s _ _ ⟨.bl (g i j),H,I,rfl,q⟩
def CPow(i j:Int):Prop:=0<=j/\j<=1000000/\i.natAbs<2^64
def CMul(i j:Int):Prop:=(-(2^64)<i/\i<2^64)∨(-(2^64)<j/\j<2^64)
theorem CMul.ok{i j:Int}(h:CMul i j):IntMulOk i j:=by
 rcases h with⟨h1,h2⟩|⟨h1,h2⟩
 ·exact .of_left (intBits_le_64 h1 h2)
 ·exact .of_right (intBits_le_64 h1 h2)
theorem ZFh:OpR X (jB .Add) (rI0 λi j=>.int (i+j)):=opI0 λ_ _ _ _ _ _ _ q=>add_int q
theorem ZFo:OpR X (jB .Sub) (rI0 λi j=>.int (i-j)):=opI0 λ_ _ _ _ _ _ _ q=>sub_int q
theorem ZFf:OpR X (jB .Mod) (rI (λ_ j=>0<j) λi j=>.int (i%j)):=opI λi j _ _ _ _ _ hc q=>by have h1:(0:Int)<j:=hc;exact mod_int' (by lia) (by rw[Int.fmod_eq_emod_of_nonneg i (by lia)];exact q)
theorem ZGW:OpR X (jB .Pow) (rI CPow λi j=>.int (i^j.toNat)):=opI λ_ _ _ _ _ _ _ hc q=>pow_int_small hc.1 hc.2.1 hc.2.2 q
theorem unI{f:j5->Sem j5}{g:Int->Int}
  (rule:∀(i:Int)(t:Tok)(s:j3)(Q:j5->j3->Prop)(E:j5->j3->Prop),Q (.int (g i) s.toks) {s with toks:=s.toks+1}->xJ (jS X.prog X.w) X.A (f (.int i t)) Q E s):
  UnR X f (rU λi=>.int (g i)):=by
 intro xD s σ H x v Q I rx h;obtain⟨i,rfl,q⟩:=h;obtain⟨t,rfl⟩:=rx;exact rule i t s _ _ ⟨.int (g i),H,I.tok _,⟨_,rfl⟩,q⟩
theorem ZGs:UnR X (unaryOp .USub) (rU λi=>.int (-i)):=unI λ_ _ _ _ _ q=>neg_int q
end
section
variable{X:Cx}{a b c:jk}{ta tb tc:TE}{pos:Pos}
theorem M9{Q:VK}{k k':Bool}(I:Inv X xD σ H s)(q:Q (.bl k) H)(e:k=k'):EP X xD σ Q (.bool k') s:=by subst e;exact⟨.bl k,H,I,rfl,q⟩
theorem ZKI:OpR X (jF .Lt) (rI0 λi j=>.bl (decide (i<j))):=Sd λ_ _ _ _ _ _ _ q=>lt_int q
theorem ZEp:OpR X (jF .LtE) (rI0 λi j=>.bl (decide (i<=j))):=Sd λ_ _ _ _ _ _ _ q=>le_int q
theorem ZFL:OpR X (jF .Gt) (rI0 λi j=>.bl (decide (j<i))):=Sd λ_ _ _ _ _ _ _ q=>gt_int q
theorem ZES:OpR X (jF .GtE) (rI0 λi j=>.bl (decide (j<=i))):=Sd λ_ _ _ _ _ _ _ q=>ge_int q
theorem ZFl:OpR X (jF .Lt) (λx y H Q=>∃i j,x=.str i/\y=.str j/\Q (.bl (decide (i.cps.toList<j.cps.toList))) H):=by intro xD s σ H x y v u Q I rx ry h;obtain⟨i,j,rfl,rfl,q⟩:=h;obtain⟨t,rfl⟩:=rx;obtain⟨t',rfl⟩:=ry;exact lt_str (M9 I q rfl)
theorem ZIo:OpR X (jF .In) (λx y H Q=>∃i j,x=.str i/\y=.str j/\Q (.bl (!(Builtin.Str.occurrences j i 0 j.length 1).isEmpty)) H):=by intro xD s σ H x y v u Q I rx ry h;obtain⟨i,j,rfl,rfl,q⟩:=h;obtain⟨t,rfl⟩:=rx;obtain⟨t',rfl⟩:=ry;exact in_str (M9 I q rfl)
theorem ZIJ:OpR X (jF .Is) (λx y H Q=>y=.non/\Q (.bl (decide (x=.non))) H):=by
 intro xD s σ H x y v u Q I rx ry h;obtain⟨rfl,q⟩:=h;cases ry;refine is_none_gen (M9 I q ?_)
 cases x<;>first
  |(cases rx;rfl)
  |(obtain⟨t,rfl⟩:=rx;rfl)
theorem ZJ5:OpR X (jF .IsNot) (λx y H Q=>y=.non/\Q (.bl (!decide (x=.non))) H):=by
 intro xD s σ H x y v u Q I rx ry h;obtain⟨rfl,q⟩:=h;cases ry;refine isnot_none_gen (M9 I q ?_)
 cases x<;>first
  |(cases rx;rfl)
  |(obtain⟨t,rfl⟩:=rx;rfl)
theorem ZIV:OpR X (jF .NotIn) (λx y H Q=>∃i j,x=.str i/\y=.str j/\Q (.bl (!(!(Builtin.Str.occurrences j i 0 j.length 1).isEmpty))) H):=by intro xD s σ H x y v u Q I rx ry h;obtain⟨i,j,rfl,rfl,q⟩:=h;obtain⟨t,rfl⟩:=rx;obtain⟨t',rfl⟩:=ry;exact notIn_str (M9 I q rfl)
theorem OpR.or(h:OpR X f r)(h':OpR X f r'):OpR X f (λx y H Q=>r x y H Q∨r' x y H Q):=by
 intro xD s σ H x y v u Q I rx ry q;rcases q with q|q
 ·exact h xD s σ H x y v u Q I rx ry q
 ·exact h' xD s σ H x y v u Q I rx ry q
theorem nomark(b:jk)(h:op≠ .In:=by decide)(h2:op≠ .NotIn:=by decide):jA op b=xH:=by
 have e1:(op==CmpOp.In)=xH:=by cases op<;>first|rfl|exact absurd rfl h
 have e2:(op==CmpOp.NotIn)=xH:=by cases op<;>first|rfl|exact absurd rfl h2
 cases b<;>simp[jA,e1,e2]
theorem ZGI(ho:OpR X (jF op) r)(ha:PE X a ta)(hb:PE X b tb)(hm:jA op b=xH):PE X (.Compare a [op] [b] pos) (tOp r ta tb):=by intro xD s σ H Q I h;exact wpAny_Compare1 (W7 ha hb I h λv u s2 x y H2 I2 rx ry q=>ho xD s2 σ H2 x y v u Q I2 rx ry q) hm
noncomputable def Ni(t:TE):TT:=λσ H Q=>t σ H λx H'=>∃k,x=.bl k/\Q k H'
theorem ZHp(ho:OpR X (jF op) r)(ha:PE X a ta)(hb:PE X b tb)(hm:jA op b=xH):PT X (.Compare a [op] [b] pos) (Ni (tOp r ta tb)):=by
 intro xD s σ H Q I h;refine wpAny_isTrue_Compare1 (thn (ha xD s σ H _ I h) λv s1 ⟨x,H1,I1,r1,q1⟩=>thn (hb xD s1 σ H1 _ I1 q1) λu s2 ⟨y,H2,I2,r2,q2⟩=>
  thn (ho xD s2 σ H2 x y v u _ I2 r1 r2 q2) λc s3 ⟨z,H3,I3,r3,k,e,q3⟩=>?_) hm
 subst e;cases r3;exact xA ⟨H3,I3,q3⟩
noncomputable def Xv(r r':R2)(ta tb tc:TE):TE:=λσ H Q=>ta σ H λx H1=>tb σ H1 λy H2=>r x y H2 λz H3=>∃k,z=.bl k/\
 (if k=xG then tc σ H3 λw' H4=>r' y w' H4 Q else Q (.bl xH) H3)
theorem ZDu{op':CmpOp}(ho:OpR X (jF op) r)(ho':OpR X (jF op') r')(ha:PE X a ta)(hb:PE X b tb)(hc:PE X c tc)
  (hm:lastMarks [op,op'] [b,c]=xH:=by with_unfolding_all rfl):PE X (.Compare a [op,op'] [b,c] pos) (Xv r r' ta tb tc):=by
 intro xD s σ H Q I h;refine Compare_chain (thn (ha xD s σ H _ I h) λv s1 ⟨x,H1,I1,r1,q1⟩=>chain_link (thn (hb xD s1 σ H1 _ I1 q1) λu s2 ⟨y,H2,I2,r2,q2⟩=>
  thn (ho xD s2 σ H2 x y v u _ I2 r1 r2 q2) λd s3 ⟨z,H3,I3,r3,k,e,q3⟩=>?_)) hm
 subst e;cases r3;refine xA ?_;cases k with
 |false=>exact ite_ff ⟨.bl xH,H3,I3,rfl,q3⟩
 |true=>exact ite_tt (chain_last (thn (hc xD s3 σ H3 _ I3 q3) λw' s4 ⟨z',H4,I4,r4,q4⟩=>ho' xD s4 σ H4 y z' u w' Q I4 r2 r4 q4))
theorem ZFR{op':CmpOp}(ho:OpR X (jF op) r)(ho':OpR X (jF op') r')(ha:PE X a ta)(hb:PE X b tb)(hc:PE X c tc)
  (hm:lastMarks [op,op'] [b,c]=xH:=by with_unfolding_all rfl):PT X (.Compare a [op,op'] [b,c] pos) (Ni (Xv r r' ta tb tc)):=by
 intro xD s σ H Q I h;refine isTrue_chain (thn (ha xD s σ H _ I h) λv s1 ⟨x,H1,I1,r1,q1⟩=>test_link (thn (hb xD s1 σ H1 _ I1 q1) λu s2 ⟨y,H2,I2,r2,q2⟩=>
  thn (ho xD s2 σ H2 x y v u _ I2 r1 r2 q2) λd s3 ⟨z,H3,I3,r3,k,e,q3⟩=>?_)) hm
 subst e;cases r3;refine xA ?_;cases k with
 |false=>
  obtain⟨k',e',q'⟩:=q3;cases e';exact ite_ff ⟨H3,I3,q'⟩
 |true=>
  refine ite_tt (test_last (thn (hc xD s3 σ H3 _ I3 q3) λw' s4 ⟨z',H4,I4,r4,q4⟩=>thn (ho' xD s4 σ H4 y z' u w' _ I4 r2 r4 q4) λd' s5 ⟨z2,H5,I5,r5,k2,e2,q5⟩=>?_));subst e2;cases r5;exact xA ⟨H5,I5,q5⟩
theorem line63:(sizeLine:Nat)<2^63:=by rw[sizeLine_eq];decide
theorem ZI2:OpR X (jB .Add) (λx y H Q=>∃i j,x=.str i/\y=.str j/\i.length+j.length<=sizeLine/\Q (.str (i++j)) H):=by intro xD s σ H x y v u Q I rx ry h;obtain⟨i,j,rfl,rfl,hz,q⟩:=h;obtain⟨t,rfl⟩:=rx;obtain⟨t',rfl⟩:=ry;exact add_str (λt' tk=>⟨.str (i++j),H,I.tok _,⟨_,rfl⟩,q⟩) hz
theorem vals1{x:V}(r:Vals [x] us):∃u,us=[u]/\RelV x u:=by
 cases r with
 |cons r1 r2=>cases r2;exact⟨_,rfl,r1⟩
theorem vals2{x y:V}(r:Vals [x,y] us):∃u w',us=[u,w']/\RelV x u/\RelV y w':=by
 cases r with
 |cons r1 r2=>
  cases r2 with
  |cons r3 r4=>cases r4;exact⟨_,_,rfl,r1,r3⟩
theorem ZEk(hc:X.calm=xG):CallR X (.builtin "max") (λxs H Q=>∃i j,xs=[.int i,.int j]/\Q (.int (if j>i then j else i)) H):=by
 intro xD s σ H xs us Q I r h;obtain⟨i,j,rfl,q⟩:=h;obtain⟨u,w',rfl,⟨t,rfl⟩,⟨t',rfl⟩⟩:=vals2 r;refine max_two_ints (I.ok.hd hc) λh' tk k=>⟨_,H,I.kept k,?_,q⟩
 by_cases hj:j>i
 ·rw[if_pos hj,if_pos hj];exact⟨_,rfl⟩
 ·rw[if_neg hj,if_neg hj];exact⟨_,rfl⟩
theorem ZI4:CallR X (.type "int") (λxs H Q=>(∃i,xs=[.int i]/\Q (.int i) H)∨∃k,xs=[.bl k]/\Q (.int (if k then 1 else 0)) H):=by
 intro xD s σ H xs us Q I r h;rcases h with⟨i,rfl,q⟩|⟨k,rfl,q⟩
 ·obtain⟨u,rfl,t,rfl⟩:=vals1 r;exact call_int_int ⟨.int i,H,I,⟨_,rfl⟩,q⟩
 ·obtain⟨u,rfl,r1⟩:=vals1 r;cases r1;exact call_int_bool ⟨.int (if k then 1 else 0),H,I.tok _,⟨_,rfl⟩,q⟩
end
theorem ZDn{dx:jx}{mA:Str->Option j5}(n:h.Ns1 dx mA):∃od,h.get? dx=xE od/\∀name,PySem.W.lookIn name od=xE (mA name):=by
 obtain⟨o,es,ep,ho,hd,hk,_,hm⟩:=n;refine⟨o,ho,λname=>?_⟩;have e:=hm name;unfold nsFind findBy at e;rw[<-Array.find?_toList]at e;unfold PySem.W.lookIn;rw[hd];dsimp only;split
 ·rename_i y q;rw[q]at e;exact congrArg xE e
 ·rename_i q;rw[q]at e
  have a:es.toList.any (·.refKey)=xH:=by rw[List.any_eq_false];intro y hy;obtain⟨z,t,hkey⟩:=hk y (Array.mem_toList_iff.mp hy);simp[DictEntry.refKey,hkey]
  have a':¬es.toList.any (·.refKey)=xG:=by rw[a];exact zq
  rw[if_neg a'];exact congrArg xE e
section
variable{prog:j1}{w:j6}{A:jv}{E:j5->j3->Prop}{s:j3}{K:PySem.W.Frag}{x dx C f:jx}{mA:Str->Option j5}{name:Str}{v:j5}
end
theorem RelO.some_of{o:Option j5}(r:RelO (xE v) o):∃u,o=xE u/\RelV v u:=by
 cases o with
 |none=>exact(show False from r).elim
 |some u=>exact⟨u,rfl,r⟩
theorem ZHJ(r:RelV v u):PySem.W.handedIn u=xG:=by
 cases v with
 |non=>cases(show u=Value.none from r);rfl
 |bl b=>cases(show u=Value.bool b from r);rfl
 |int i=>obtain⟨t,e⟩:=(show∃t,u=Value.int i t from r);cases e;rfl
 |str x=>obtain⟨t,e⟩:=(show∃t,u=Value.str x t from r);cases e;rfl
 |byt b=>obtain⟨t,e⟩:=(show∃t,u=Value.bytes b t from r);cases e;rfl
 |flt b=>obtain⟨t,e⟩:=(show∃t,u=Value.float b t from r);cases e;rfl
 |ref a=>cases(show u=Value.ref a from r);rfl
 |ty n=>cases(show u=Value.type n from r);rfl
section
variable{P:j1}{w:j6}{H H':Hp}{h h':Heap}{a C dx:jx}{fs fs':List (Str×V)}
end
def NoAttr(K:PySem.W.Frag)(C:jx)(f:Str):Prop:=PySem.W.findIn K (.ref C) f=xE xF
structure Meth (K:PySem.W.Frag) (C:jx) (m:Str) (f:jx):Prop where
 at_:PySem.W.findIn K (.ref C) m=xE (xE (.ref f))
 fn:PySem.W.isFn K (.ref f)=xG
 kp:PySem.W.keepIn K (.ref f)=xG
section
variable{X:Cx}{xD:List (jx×Obj)}{σ:St}{H:Hp}{s:j3}{a C dx:jx}{fs:List (Str×V)}{f:Str}{v:V}{A:jv}{E:j5->j3->Prop}
theorem ZGu{prog:j1}{env:Env}{f:Str}{pos:Pos}{Q:j5->j3->Prop}(hb:j8 e f env (eval e env)=eval e env)
  (h:xJ (jS prog w) A (eval e env) (λo s₁=>xJ (jS prog w) A (getAttr o f xG) Q E s₁) E s):xJ (jS prog w) A (eval (.Attribute e f pos) env) Q E s:=
 Attribute_any_ h (by rw[arm_eval_Attribute,hb])
end
section
variable{X:Cx}{o e value:jk}{f:Str}{pos pos' tpos:Pos}{ta tv:TE}
end
section
variable{X:Cx}{xD:List (jx×Obj)}{σ:St}{H:Hp}{s:j3}{A:jv}{E:j5->j3->Prop}{Q:j5->j3->Prop}{c:j5}{b:Bool}
end
structure Room (k:Nat) (A:jv):Prop where
 hd:A.handled=xF
 dp:A.depth+3*k+5<recursionLimit
 un:A.units+16*k+200<cLine
theorem Room.mono{j:Nat}(r:Room k A)(h:j<=k):Room j A:=⟨r.hd,by have:=r.dp;lia,by have:=r.un;lia⟩
theorem Room.deeper(r:Room (k+1) A)(env:Env):Room k (A.deeper env):=
 ⟨r.hd,by have:=r.dp;show A.depth+1+3*k+5<_;lia,by have:=r.un;show A.units+3+16*k+200<_;lia⟩
theorem ZEF{C:jx}{kw:List (Str×j5)}:(A.under (.builtin "type.__call__" ⟨.ref C::us,kw⟩)).depth=A.depth+1:=by
 first|rfl|simp[Around.under,Code.weight,Code.isCreation,Code.isGuard,Code.isCaller,Code.frames,Code.isFrame,guardIds]
theorem ZDp{C:jx}{kw:List (Str×j5)}:(A.under (.builtin "type.__call__" ⟨.ref C::us,kw⟩)).units=A.units+1:=by
 first|rfl|simp[Around.under,Code.cUnits,Code.frames,Code.isFrame]
theorem Room.make(r:Room (k+1) A)(C:jx)(us:List j5)(kw:List (Str×j5)):Room k (A.under (.builtin "type.__call__" ⟨.ref C::us,kw⟩)):=
 ⟨r.hd,by have:=r.dp;rw[ZEF];lia,by have:=r.un;rw[ZDp];lia⟩
theorem Room.depth(r:Room k A):A.depth<recursionLimit:=by have:=r.dp;lia
theorem Room.units(r:Room k A):A.units+64<cLine:=by have:=r.un;lia
noncomputable def tNil:TA:=λ_ H Q=>Q [] H
noncomputable def Xg(ta:TE)(tr:TA):TA:=λσ H Q=>ta σ H λx H1=>tr σ H1 λxs H2=>Q (x::xs) H2
section
variable{X:Cx}{e:jk}{es:List jk}{te:TE}{t:TA}{pos:Pos}
theorem Y8:PA X [] tNil:=λ_ _ _ _ H Q I h=>Calls.spliced_nil ⟨[],H,I,.nil,h⟩
theorem Ml(ha:PE X e te)(hr:PA X es t)(hs:xQ (e::es) X.env=(xH,eval e X.env)::xQ es X.env:=by rfl):PA X (e::es) (Xg te t):=by intro pos xD s σ H Q I h;rw[hs];show xJ _ _ (spliced ((xH,eval e X.env)::j9 pos (xQ es X.env))) _ _ s;refine Calls.spliced_cons (thn (ha xD s σ H _ I h) λu s1 ⟨x,H1,I1,r1,q1⟩=>?_);exact thn (hr pos xD s1 σ H1 _ I1 q1) λus s2 ⟨xs,H2,I2,r2,q2⟩=>⟨x::xs,H2,I2,.cons r1 r2,q2⟩
def tTup(t:TA):TE:=λσ H Q=>t σ H λxs H1=>xs.length<=sizeLine/\∀p,H1 p=xF->Q (.ref p) (upd H1 p (.tup xs))
def tLst(t:TA):TE:=λσ H Q=>t σ H λxs H1=>xs.length<=sizeLine/\∀p,H1 p=xF->Q (.ref p) (upd H1 p (.lst xs))
theorem ZGh{x1}(h:PA X es t):PE X (.Tuple es x1 pos) (tTup t):=by intro xD s σ H Q I hq;refine wpAny_Tuple_spliced (thn (h pos xD s σ H _ I hq) λus s1 ⟨xs,H1,I1,r,z,q⟩=>⟨by rw[<-r.length];exact z,?_⟩);have hf:H1 s1.heap.objs.size=xF:=I1.hok.fresh (zK _);refine⟨.ref s1.heap.objs.size,upd H1 s1.heap.objs.size (.tup xs),I1.laid (t':=s1.toks) (λb u e=>zQ _ e) (zK _) ?_,rfl,q _ hf⟩;exact⟨z,us,r,⟨_,zy _ rfl,rfl,_,rfl⟩⟩
theorem ZF3(h:PA X es t):PE X (.List es pos) (tLst t):=by intro xD s σ H Q I hq;refine wpAny_List_spliced (thn (h pos xD s σ H _ I hq) λus s1 ⟨xs,H1,I1,r,z,q⟩=>⟨by rw[<-r.length];exact z,?_⟩);have hf:H1 s1.heap.objs.size=xF:=I1.hok.fresh (zK _);refine⟨.ref s1.heap.objs.size,upd H1 s1.heap.objs.size (.lst xs),I1.laid (t':=s1.toks) (λb u e=>zQ _ e) (zK _) ?_,rfl,q _ hf⟩;exact⟨z,us,0,r,zy _ rfl⟩
end
noncomputable abbrev Sp:=List V->Hp->VK->XK->Prop
noncomputable abbrev CXT:=List Env->Hp->j3->XK->j5->j3->Prop
structure Env0 (P:j1) (w:j6) (K:PySem.W.Frag) (mg:Str->Option j5) (base:Heap) (A:jv) (outer:List Env) (s:j3) (H:Hp):Prop where
 frames:A.frames=xE outer
 mod:Mod K mg base
 bs:∀b o,base.get? b=xE o->s.heap.get? b=xE o/\H b=xF
 bsz:base.objs.size<=s.heap.objs.size
 funs:s.heap.FunFrames base outer
 frf:∀b∈frs outer,H b=xF
 hok:HOk P w H s.heap
 bare:AllBare s.gens
def CE(outer:List Env)(P:j1)(w:j6)(H:Hp)(s:j3)(Q:VK)(u:j5)(s':j3):Prop:=
 ∃v H',s'.os=s.os/\AllBare s'.gens/\Un (frs outer) [] H H' s.heap s'.heap/\HOk P w H' s'.heap/\RelV v u/\Q v H'
def CR(CX:CXT)(outer:List Env)(P:j1)(w:j6)(H:Hp)(s:j3)(Q:VK)(E:XK)(r:Result)(s':j3):Prop:=
 match r with
 |.ok (.ret u)=>CE outer P w H s Q u s'
 |.ok _=>False
 |.error e=>CX outer H s E e s'
structure FnOk (P:j1) (w:j6) (K:PySem.W.Frag) (mg:Str->Option j5) (base:Heap) (CX:CXT) (k:Nat) (f:jx) (fd:jy) (ps:List Str) (sp:Sp):Prop where
 len:∀vs H Q E,sp vs H Q E->vs.length=ps.length
 run:∀(A:jv)(outer:List Env)(s:j3)(H:Hp)(args:Args)(us:List j5)(vs:List V)(Q:VK)(E:XK),Room k A->Env0 P w K mg base A outer s H->BindsTo s fd args (ps.zip us)->Vals vs us->sp vs H Q E->
  codeAny (jS P w) A (.call (.ref f) args) (CR CX outer P w H s Q E) s
theorem Env0.make{outer:List Env}(e:Env0 P w K mg base A outer s H)(C:jx)(us:List j5)(kw:List (Str×j5)):
  Env0 P w K mg base (A.under (.builtin "type.__call__" ⟨.ref C::us,kw⟩)) outer s H:=⟨by first|exact e.frames|(simpa[Around.under,Code.envs,Code.isFrame,pushEnvs]using e.frames),e.mod,e.bs,e.bsz,e.funs,e.frf,e.hok,e.bare⟩
section
variable{X:Cx}{xD:List (jx×Obj)}{σ:St}{H:Hp}{s s':j3}
theorem Inv.env0(I:Inv X xD σ H s):Env0 X.prog X.w X.K X.mg X.base X.A X.stack s H:=
 ⟨I.ok.frames,I.ok.mod,I.bs,z0 I.ok.bsz I.sz,I.stack,I.Q8,I.hok,I.bare⟩
theorem Inv.after{Q:VK}(I:Inv X xD σ H s)(h:CE X.stack X.prog X.w H s Q u s'):EP X xD σ Q u s':=by obtain⟨v,H',os,bare,un,hok,r,q⟩:=h;obtain⟨hh,g,d,t,os'⟩:=s';obtain rfl:os'=s.os:=os;exact⟨v,H',I.call (h':=hh) (g':=g) (d':=d) (t':=t) (ch:=[]) un hok bare (λb z=>absurd z (by simp)),r,q⟩
end
noncomputable def ZHG(sp:Sp)(dvs:List V)(E:XK)(t:TA):TE:=λσ H Q=>t σ H λvs H1=>sp (vs++dvs) H1 Q E
def Binds(K:PySem.W.Frag)(fd:jy)(ps:List Str)(ds:List j5):Prop:=
 ∀(s:j3)(us:List j5),K.In s.heap->(us++ds).length=ps.length->BindsTo s fd ⟨us,[]⟩ (ps.zip (us++ds))
theorem Binds.all{fd:jy}{ps:List Str}(h:∀us:List j5,us.length=ps.length->bindArgs fd ⟨us,[]⟩=pure (ps.zip us)):Binds K fd ps []:=λs us _ hl=>by rw[zU]at hl⊢;exact .of_eq (h us hl)
def Passes(CX:CXT)(X:Cx)(E:XK):Prop:=∀(xD:List (jx×Obj))(σ:St)(H:Hp)(s:j3)(e:j5)(s':j3),Inv X xD σ H s->CX X.stack H s E e s'->X.xe e s'
section
variable{X:Cx}{CX:CXT}{k:Nat}{f C:jx}{fd:jy}{ps:List Str}{sp:Sp}{dvs:List V}{ds:List j5}{E:XK}{x m:Str}{p pos apos:Pos}{e o:jk}{es:List jk}{ta:TE}{t:TA}
theorem ZHK{Q:VK}{vs:List V}(F:FnOk X.prog X.w X.K X.mg X.base CX k f fd ps sp)(hr:Room k X.A)(hb:Binds X.K fd ps ds)(hd:Vals dvs ds)(hx:Passes CX X E)
  (I:Inv X xD σ H s) (r:Vals vs us) (h:sp (vs++dvs) H Q E):xJ (jS X.prog X.w) X.A (call (.ref f) us) (EP X xD σ Q) X.xe s:=by
 have r2:Vals (vs++dvs) (us++ds):=r.append hd;have hl:(us++ds).length=ps.length:=by rw[<-r2.length];exact F.len _ _ _ _ h
 refine wpAny_call (jE (F.run X.A X.stack s H ⟨us,[]⟩ (us++ds) (vs++dvs) Q E hr I.env0 (hb s us I.kIn hl) r2 h) λr s' hq=>?_);cases r with
 |error e=>exact hx xD σ H s e s' I hq
 |ok fl=>
  cases fl with
  |ret u=>exact I.after hq
  |next=>exact False.elim hq
  |brk=>exact False.elim hq
  |cont=>exact False.elim hq
theorem ZBP(F:FnOk X.prog X.w X.K X.mg X.base CX k f fd ps sp)(hr:Room k X.A)(hg:Gl X x)(hm:X.mg x=xE (.ref f))(hk:PySem.W.keepIn X.K (.ref f)=xG)(hb:Binds X.K fd ps ds)(hd:Vals dvs ds)(hx:Passes CX X E)
  (ha:PA X (e::es) t) (hdb:(x==("__debug__":Str))=xH:=by decide) (he:xQ (e::es) X.env=(xH,eval e X.env)::xQ es X.env:=by rfl) (hpl:(j9 pos (xQ es X.env)).any (·.1)=xH:=by rfl):
  PE X (.Call (.Name x p) (e::es) [] pos) (ZHG sp dvs E t):=by
 intro xD s σ H Q I h;refine xX (Lj I hg hm ?_ hdb);refine PySem.W.callWith_K (h₀:=X.base) I.ok.mod.kin hk (thn (ha pos xD s σ H _ I h) λus s1 ⟨vs,H1,I1,r,q⟩=>⟨I1.kIn,?_⟩) he hpl;exact ZHK F hr hb hd hx I1 r q
end
section
variable{X:Cx}{CX:CXT}{k:Nat}{f C:jx}{fd:jy}{ps ks:List Str}{sp:Sp}{E:XK}{x m:Str}{p pos apos kpos:Pos}{e o:jk}{es:List jk}{kws:List Keyword}{te ta:TE}{t tk:TA}{nm:Option Str}
variable{g:List j5->List j5->List j5}{gV:List V->List V->List V}
end
structure FnScope (N P:List Str) (sc:j2):Prop where
 kind:sc.kind=.function
 co:sc.isCoroutine=xH
 gen:sc.isGenerator=xH
 nd:N.Nodup
 pre:N.take P.length=P
 par:∀x∈P,sc.names.lookup x=xE .local∨sc.names.lookup x=xE .cell
 nofree:∀y∈sc.names,y.2≠ .free
theorem ZBh:∀{binds:List (Str×j5)}{m:Str->Option j5},(∀v,(x,v)∉binds)->bindL kindOf binds m x=m x
 |[],_,_=>rfl
 | (n,v)::r,m,h=>by
  unfold bindL;rw[ZBh λw hw=>h w (zX _ hw)];split
  ·have:x≠n:=by rintro rfl;exact h v zk
   simp[this]
  ·rfl
theorem ZDU:∀{binds:List (Str×j5)}{m:Str->Option j5},(∀v,(x,v)∉binds)->bindC kindOf binds m x=m x
 |[],_,_=>rfl
 | (n,v)::r,m,h=>by
  unfold bindC;rw[ZDU λw hw=>h w (zX _ hw)];split
  ·rfl
  ·have:x≠n:=by rintro rfl;exact h v zk
   simp[this]
theorem ZBF{v:j5}:∀{P:List Str}{vs:List j5}{i:Nat}{m:Str->Option j5},P.Nodup->P[i]?=xE x->vs[i]?=xE v->kindOf x=xE .local->
  bindL kindOf (P.zip vs) m x=xE v
 |[],_,_,_,_,h,_,_=>by simp at h
 |_::_,[],_,_,_,_,h,_=>by simp at h
 |p::P,w::vs,0,m,nd,h1,h2,hk=>by simp at h1 h2;subst h1;subst h2;show bindL kindOf ((p,w)::P.zip vs) m p=_;unfold bindL;rw[ZBh λv hv=>(qT.mp nd).1 (List.of_mem_zip hv).1,if_pos hk];simp
 |p::P,w::vs,i+1,m,nd,h1,h2,hk=>by show bindL kindOf ((p,w)::P.zip vs) m x=_;unfold bindL;exact ZBF (i:=i) (qT.mp nd).2 (by simpa using h1) (by simpa using h2) hk
theorem Zq{v:j5}:∀{P:List Str}{vs:List j5}{i:Nat}{m:Str->Option j5},P.Nodup->P[i]?=xE x->vs[i]?=xE v->kindOf x≠xE .local->
  bindC kindOf (P.zip vs) m x=xE v
 |[],_,_,_,_,h,_,_=>by simp at h
 |_::_,[],_,_,_,_,h,_=>by simp at h
 |p::P,w::vs,0,m,nd,h1,h2,hk=>by simp at h1 h2;subst h1;subst h2;show bindC kindOf ((p,w)::P.zip vs) m p=_;unfold bindC;rw[ZDU λv hv=>(qT.mp nd).1 (List.of_mem_zip hv).1,if_neg hk];simp
 |p::P,w::vs,i+1,m,nd,h1,h2,hk=>by show bindC kindOf ((p,w)::P.zip vs) m x=_;unfold bindC;exact Zq (i:=i) (qT.mp nd).2 (by simpa using h1) (by simpa using h2) hk
noncomputable def start(N:List Str)(vs:List V):St:=vs.map xE++zI (N.length-vs.length) xF
noncomputable def Fy(CX:CXT)(P:j1)(w:j6)(K:PySem.W.Frag)(mg:Str->Option j5)(base:Heap)(N:List Str)(qual:Str)(scope:j2)(f:jx)(cd:j5)(A:jv)(outer:List Env)(s:j3)(H:Hp)(E:XK):Cx where
 prog:=P
 w:=w
 K:=K
 mg:=mg
 base:=base
 A:=A.deeper (envOfC qual scope s.heap.objs.size f cd)
 N:=N
 s₀:=s
 H₀:=H
 env:=envOfC qual scope s.heap.objs.size f cd
 outer:=outer
 stack:=envOfC qual scope s.heap.objs.size f cd::outer
 ex:=[]
 calm:=xG
 fn:=λ_=>xG
 pn:=[]
 xe:=λe s'=>xJ (jS P w) (A.deeper (envOfC qual scope s.heap.objs.size f cd)) (leaving (envOfC qual scope s.heap.objs.size f cd) e) (λ_ s''=>CX outer H s E e s'') (λe' s''=>CX outer H s E e' s'') s'
theorem ZCT{sc:j2}{n:Nat}(h:sc.names.lookup x=xE .cell):∃c,(cellsFrom n sc.names []).lookup x=xE c:=by have q:=PySem.W.cellsFrom_some sc.names n [] (.inl h);exact Option.isSome_iff_exists.mp q
theorem ZIN{CX:CXT}{N ps:List Str}{qual:Str}{scope:j2}{f:jx}{cd:j5}{outer:List Env}{s1:j3}{E:XK}{vs:List V}
  (S:FnScope N ps scope) (hd:A.handled=xF) (e0:Env0 P w K mg base A outer s H) (hl:vs.length=ps.length) (r:Vals vs us)
  (x:InCallC s s.heap.objs.size (bindL (envOfC qual scope s.heap.objs.size f cd).kindOf (ps.zip us) λ_=>xF) (cellsFrom (s.heap.objs.size+1) scope.names []) (bindC (envOfC qual scope s.heap.objs.size f cd).kindOf (ps.zip us) λ_=>xF) s1):
  Inv (Fy CX P w K mg base N qual scope f cd A outer s H E) [] (start N vs) H s1:=by
 have hpl:ps.length<=N.length:=by have:=congrArg List.length S.pre;rw[qV]at this;lia
 obtain⟨h1,tk,rfl,hk⟩:=x.done
 have noA:∀b:jx,b∉(Fy CX P w K mg base N qual scope f cd A outer s H E).ex:=λb z=>absurd (show b∈([]:List jx)from z) (by simp)
 refine⟨⟨e0.mod,S.kind,rfl,rfl,zK _,λy z c h1 h2=>?_,λy hy=>?_,λy c _ h=>?_,λ_=>hd,Around.frames_deeper e0.frames,.inr ⟨rfl,rfl⟩,λb z=>absurd z (noA b),e0.bs,e0.bsz,λb _ _=>noA b,λb z=>absurd z (noA b),e0.funs,e0.frf⟩,
  rfl,e0.bare,Un.kept hk,⟨_,x.toInCall.ns,λi y v h1 h2 h3=>?_⟩,λy c h=>⟨_,x.cell y c h⟩,e0.hok.fresh (zK _),λy c h=>?_,λp hp=>absurd (show p∈([]:List (jx×Obj))from hp) (by simp),e0.hok.kept hk,?_⟩
 ·exact name_of_addr x.apart (PySem.mem_of_lookup h1) (PySem.mem_of_lookup h2)
 ·have hy:scope.names.lookup y=xE .cell∨scope.names.lookup y=xE .free:=hy;rcases hy with hy|hy
  ·exact ZCT hy
  ·exact absurd rfl (S.nofree _ (PySem.mem_of_lookup hy))
 ·exact Nat.le_of_lt (x.above y c (PySem.mem_of_lookup h))
 ·have hi:i<vs.length:=by
   unfold start at h2;by_cases hi:i<vs.length
   ·exact hi
   ·rw[zA (by simpa using hi)]at h2;rw[qz]at h2
    split at h2<;>cases h2
  have ha:vs[i]?=xE v:=by
   unfold start at h2;rw[zL (by simpa using hi),zF]at h2;cases e:vs[i]? with
   |none=>rw[e]at h2;cases h2
   |some a=>rw[e]at h2;cases h2;rfl
  obtain⟨u,hu,rv⟩:=r.get ha;have hp:ps[i]?=xE y:=by rw[<-S.pre,qU (by lia)];exact h1
  have ndP:ps.Nodup:=by rw[<-S.pre];exact S.nd.sublist (List.take_sublist _ _)
  refine⟨u,rv,?_⟩;rcases S.par y (List.mem_of_getElem? hp)with k|k
  ·exact .inl ⟨k,ZBF ndP hp hu k⟩
  ·obtain⟨c,e⟩:=ZCT (n:=s.heap.objs.size+1) k;refine .inr ⟨.inl k,c,e,?_⟩;have q:=x.cell y c e;rw[Zq ndP hp hu (by show scope.names.lookup y≠_;rw[k];decide)]at q;exact q
 ·exact e0.hok.fresh (Nat.le_of_lt (x.above y c (PySem.mem_of_lookup h)))
 ·unfold start;show _=N.length;rw[qK,zw,jJ];lia
theorem ZBd{CX:CXT}{f:jx}{name qual:Str}{params:Arguments}{body:List j4}{scope:j2}{dV kV doc pm cdv ct oc:j5}{an od:Option jx}
  {osl:Array (Option j5)} {N ps:List Str} {sp:Sp} (lk:K.lookup f=xE ⟨oc,od,.func (PySem.W.fnOf name qual params body scope dV kV doc pm an cdv ct),osl⟩) (hcd:PySem.W.codeIn K cdv qual=xG) (S:FnScope N ps scope)
  (len:∀vs H Q E,sp vs H Q E->vs.length=ps.length)
  (hbody:∀(A:jv)(outer:List Env)(s:j3)(H:Hp)(vs:List V)(Q:VK)(E:XK),Room k (A.deeper (envOfC qual scope s.heap.objs.size f cdv))->sp vs H Q E->
   ∃t,PSs (Fy CX P w K mg base N qual scope f cdv A outer s H E) body t/\t {nx:=λ_ H'=>Q .non H',rt:=Q} (start N vs) H):
  FnOk P w K mg base CX (k+1) f (PySem.W.fnOf name qual params body scope dV kV doc pm an cdv ct) ps sp:=by
 refine⟨len,λA outer s H args us vs Q E hr e0 hb r hsp=>?_⟩;have hl:=len _ _ _ _ hsp;have KX:K.In s.heap:=e0.mod.kin.keeps λb o e=>(e0.bs b o e).1
 have lim:s.heap.NoLimit:=e0.mod.nolimit.keeps λb o e=>(e0.bs b o e).1
 have hkind:∀y∈ps.zip us,scope.names.lookup y.1=xE .local∨(scope.names.lookup y.1=xE .cell/\((cellsFrom (s.heap.objs.size+1) scope.names []).lookup y.1).isSome=xG):=λ⟨n,v⟩ hy=>by
  rcases S.par n (List.of_mem_zip hy).1 with q|q
  ·exact .inl q
  ·exact .inr ⟨q,PySem.W.cellsFrom_some _ _ _ (.inl q)⟩
 refine codeAny_call_function hr.depth (KX _ _ lk) rfl S.co S.gen rfl (PySem.W.codeRec_of KX hcd) (hb _ _ _ _ ?_);refine wpAny_newFunctionEnv_cells S.kind hkind λenv he s1 x=>?_
 subst he;refine⟨lim.keeps x.toInCall.keep,codeAny_func ?_⟩;obtain⟨t,ht,hq⟩:=hbody A outer s H vs Q E (hr.deeper _) hsp;have I:Inv (Fy CX P w K mg base N qual scope f cdv A outer s H E) [] (start N vs) H s1:=ZIN S hr.hd e0 hl r x;refine xz (ht [] s1 (start N vs) H _ I hq) (λfl s' hs=>?_) λe s' hs=>hs
 have fin:∀{σ':St}{H':Hp}{v:V}{u:j5},Inv (Fy CX P w K mg base N qual scope f cdv A outer s H E) [] σ' H' s'->RelV v u->Q v H'->CE outer P w H s Q u s':=
  λ{σ' H' v u}J rv q=>⟨v,H',J.os,J.bare,J.base,J.hok,rv,q⟩
 cases fl with
 |ret u=>
  obtain⟨v,σ',H',J,rv,q⟩:=hs;exact fin J rv q
 |next=>
  obtain⟨σ',H',J,q⟩:=hs;exact fin (v:=V.non) (u:=Value.none) J rfl q
 |brk=>
  obtain⟨_,_,_,q⟩:=hs;exact False.elim q
 |cont=>
  obtain⟨_,_,_,q⟩:=hs;exact False.elim q
section
variable{X:Cx}{x:Str}{p pos:Pos}{e:jk}{es:List jk}{t:TA}{id T:String}{r:List V->Hp->VK->Prop}
noncomputable def tCB(r:List V->Hp->VK->Prop)(t:TA):TE:=λσ H Q=>t σ H λvs H1=>r vs H1 Q
theorem ZDT(hc:CallR X (.builtin id) r)(hg:Gl X x)(hm:X.mg x=xF)(hv:jC x=xE (.builtin id))(ha:PA X (e::es) t)(hn:x≠"__name__":=by decide)(hdb:(x==("__debug__":Str))=xH:=by decide)
  (he:xQ (e::es) X.env=(xH,eval e X.env)::xQ es X.env:=by rfl) (hpl:(j9 pos (xQ es X.env)).any (·.1)=xH:=by rfl):PE X (.Call (.Name x p) (e::es) [] pos) (tCB r t):=by
 intro xD s σ H Q I h;refine xX (Oo I hg hm hv ?_ hn hdb);exact PyProof.Rows.callWith_builtin1 (thn (ha pos xD s σ H _ I h) λus s1 ⟨vs,H1,I1,r1,q1⟩=>hc xD s1 σ H1 vs us Q I1 r1 q1) he hpl
theorem ZJ0(hc:CallR X (.type T) r)(hg:Gl X x)(hm:X.mg x=xF)(hv:jC x=xE (.type T))(ha:PA X (e::es) t)(hn:x≠"__name__":=by decide)(hdb:(x==("__debug__":Str))=xH:=by decide)
  (he:xQ (e::es) X.env=(xH,eval e X.env)::xQ es X.env:=by rfl) (hpl:(j9 pos (xQ es X.env)).any (·.1)=xH:=by rfl):PE X (.Call (.Name x p) (e::es) [] pos) (tCB r t):=by
 intro xD s σ H Q I h;refine xX (Oo I hg hm hv ?_ hn hdb);exact PyProof.Rows.callWith_type1 (thn (ha pos xD s σ H _ I h) λus s1 ⟨vs,H1,I1,r1,q1⟩=>hc xD s1 σ H1 vs us Q I1 r1 q1) he hpl
end
end _L
namespace HT
open PySem PyProof.Rows
section
open PySem.SeqAt
open PySem.AutoSeq1 (wpAny_loadPart')
open PySem.MeetsSeq PySem.MeetsSeq2 PySem.MeetsSeq3
end
section
variable{prog:j1}{w:j6}{A:jv}{E:j5->j3->Prop}{s:j3}
theorem ZEG{t b:jx}{vs ws:List j5}{Q:j5->j3->Prop}(ht:IsTup s.heap t vs.toArray)(hb:IsTup s.heap b ws.toArray)(hv:vs≠[])
  (h1:ws=[]->Q (.ref t) s) (h2:ws≠[]->Q (.ref s.heap.objs.size) {s with heap:=s.heap.push {cls:=.type "tuple",data:=.seq (vs++ws).toArray}})
  (hsz:vs.length+ws.length<=sizeLine):xJ (jS prog w) A (jB .Add (.ref t) (.ref b)) Q E s:=by
 obtain⟨⟨cls,dd,data,sl⟩,ho,hc,n,hd⟩:=id ht;obtain⟨⟨cls2,dd2,data2,sl2⟩,ho2,hc2,n2,hd2⟩:=id hb;simp only at hc hd hc2 hd2;subst hc hd hc2 hd2;have e:vs.toArray++ws.toArray=(vs++ws).toArray:=by simp
 by_cases hw:ws=[]
 ·exact concat_meets ⟨_,ho,rfl⟩ ⟨_,ho2,rfl⟩ noFill_tuple_add seq_tuple_add PySem.F.slot_tuple_add PySem.F.entry_tuple_add (PySem.F.args_tuple_add_2 _ _)
   (tuple_addW1 t b vs.toArray ws.toArray n n2 dd dd2 sl sl2 (by simpa using hv) (by simp[hw])) ⟨ho,ho2,h1 hw⟩
 ·refine concat_meets ⟨_,ho,rfl⟩ ⟨_,ho2,rfl⟩ noFill_tuple_add seq_tuple_add PySem.F.slot_tuple_add PySem.F.entry_tuple_add (PySem.F.args_tuple_add_2 _ _)
   (tuple_addW2 t b vs.toArray ws.toArray n n2 dd dd2 sl sl2 (by simpa using hv) (by simpa using hw) (by rw[zW,zW];exact hsz)) ⟨ho,ho2,?_⟩
  rw[e];exact h2 hw
noncomputable def sIx(n d:Nat):Option Int->Nat
 |none=>d
 |some v=>if v<0 then(v+(n:Int)).toNat else min v.toNat n
theorem ZAJ(n d:Nat)(hd:d<=n)(o:Option Int):sIx n d o<=n:=by
 cases o with
 |none=>exact hd
 |some v=>
  show(if v<0 then(v+(n:Int)).toNat else min v.toNat n)<=n;by_cases hv:v<0
  ·rw[if_pos hv];lia
  ·rw[if_neg hv];exact Nat.min_le_right _ _
theorem ZDE(v:Int)(n d:Nat):(if v<0 then max (v+(n:Int)) 0 else min v (n:Int))=((sIx n d (xE v):Nat):Int):=by
 show(if v<0 then max (v+(n:Int)) 0 else min v (n:Int))=(((if v<0 then(v+(n:Int)).toNat else min v.toNat n):Nat):Int);by_cases hv:v<0
 ·simp only[if_pos hv];lia
 ·simp only[if_neg hv];lia
theorem ZIz(lo hi:Option Int)(n:Nat):Builtin.Slice.sliceAdjust lo hi 1 (n:Int)=(((sIx n 0 lo:Nat):Int),((sIx n n hi:Nat):Int)):=by
 have h1:¬((1:Int)<0):=by lia
 unfold Builtin.Slice.sliceAdjust;simp only[h1,if_false];refine Prod.ext ?_ ?_
 ·cases lo with
  |none=>rfl
  |some v=>exact ZDE v n 0
 ·cases hi with
  |none=>rfl
  |some v=>exact ZDE v n n
theorem ZE1(i j:Nat):Builtin.Slice.slicePlaces (i:Int) (j:Int) 1=j-i:=by
 unfold Builtin.Slice.slicePlaces;have h1:(1:Int)>0:=by lia
 simp only[h1,if_true,Int.ediv_one]
 split <;> lia
theorem ZBf{v:j5}{o:Option Int}{Q:Option Int->j3->Prop}(p:IsPart v o)(h:Q o s):xJ (jS prog w) A (Builtin.Slice.slicePartIndex v) Q E s:=by
 cases p with
 |none=>exact slicePart_none h
 |int i t=>exact slicePart_int h
theorem Zz{sl:jx}{vl vu:j5}{lo hi:Option Int}{n:Nat}{Q:Int×Int×Nat->j3->Prop}(hs:s.heap.IsSliceOf sl vl vu .none)(pl:IsPart vl lo)(pu:IsPart vu hi)
  (h:Q (((sIx n 0 lo:Nat):Int),1,sIx n n hi-sIx n 0 lo) s):xJ (jS prog w) A (Builtin.Slice.sliceApplied (.ref sl) (pure (n:Int))) Q E s:=by
 obtain⟨os,hos,hcs,hds⟩:=id hs;unfold Builtin.Slice.sliceApplied Builtin.Slice.sliceFields;refine xV (xV (xY hos hds (x:=vl) rfl (xV (xY hos hds (x:=vu) rfl (xV (xY hos hds (x:=.none) rfl (xy ?_)))))));refine xV (slicePart_none ?_);show xJ _ _ (if((1:Int)==0)=xG then _ else _) _ _ s;rw[if_neg (by decide)];refine xV (ZBf pl (xV (ZBf pu (xV (xy ?_)))))
 show xJ _ _ (match Builtin.Slice.sliceAdjust lo hi 1 (n:Int)with |(lo,hi)=>pure (lo,(1:Int),Builtin.Slice.slicePlaces lo hi 1)) _ _ s
 rw[ZIz lo hi n];show xJ _ _ (pure (((sIx n 0 lo:Nat):Int),(1:Int),Builtin.Slice.slicePlaces ((sIx n 0 lo:Nat):Int) ((sIx n n hi:Nat):Int) 1)) _ _ s;rw[ZE1];exact xy h
theorem ZGH(xs:Array j5)(i k:Nat):((zx k).filterMap λ(m:Nat)=>xs[((i:Int)+(m:Int)*1).toNat]?).toArray=((xs.toList.drop i).take k).toArray:=by
 have e:(λ(m:Nat)=>xs[((i:Int)+(m:Int)*1).toNat]?)=λm=>xs[i+m]? :=by
  funext m;have:((i:Int)+(m:Int)*1).toNat=i+m:=by lia
  rw[this]
 rw[e];have:=pick_run xs i k;rw[qB]at this;have e2:((λx=>xs[x]?) ∘ λx=>i+x)=λm=>xs[i+m]? :=rfl
 rw[e2]at this;rw[this]
theorem ZJd{t sl:jx}{items:Array j5}{vl vu:j5}{lo hi:Option Int}{Q:j5->j3->Prop}(ht:IsTup s.heap t items)(hs:s.heap.IsSliceOf sl vl vu .none)(pl:IsPart vl lo)(pu:IsPart vu hi)
  (hw:¬(sIx items.size 0 lo=0/\sIx items.size items.size hi=items.size))
  (h:Q (.ref s.heap.objs.size) {s with heap:=s.heap.push {cls:=.type "tuple",data:=.seq ((items.toList.drop (sIx items.size 0 lo)).take (sIx items.size items.size hi-sIx items.size 0 lo)).toArray}})
  (hsz:items.size<=sizeLine):xJ (jS prog w) A (getItem (.ref t) (.ref sl)) Q E s:=by
 have htake:sizeOk (.seq ((items.toList.drop (sIx items.size 0 lo)).take (sIx items.size items.size hi-sIx items.size 0 lo)).toArray):=by show((items.toList.drop (sIx items.size 0 lo)).take (sIx items.size items.size hi-sIx items.size 0 lo)).toArray.size<=sizeLine;rw[zW,qV,qA,qM];lia
 have hj:sIx items.size items.size hi<=items.size:=ZAJ _ _ (zK _) hi;obtain⟨os,hos,hcs,hds⟩:=id hs;have hTs:s.TypeIs (.ref sl) "slice":=⟨os,hos,hcs⟩;unfold getItem
 try with_reducible refine xq ?_
 first|refine xV (xy ?_)|skip
 refine xV (wpAny_sequenceKey ht.typeIs (by decide) ?_);refine xV (xW (name:=Str.ofString "__getitem__") ht.typeIs PyProof.Rows.slot_tuple_getitem
  (xK PyProof.Rows.slot_tuple_getitem ht.typeIs entry_tuple_getitem ?_ (args_tuple_getitem _ _)))
 show xJ _ _ (Builtin.Tuple.tupleItemsOf (.ref t) >>=_) _ _ s;refine xV (tupleItemsOf_ ht ?_);refine xV (wpAny_typeOf hTs ?_);rw[if_pos (by decide)];refine xV (Zz hs pl pu ?_);have hno:¬((((sIx items.size 0 lo:Nat):Int)==0&&(1:Int)==1&&(sIx items.size items.size hi-sIx items.size 0 lo)==items.size)=xG):=by intro q;rw[zY,zY]at q;have q1:((sIx items.size 0 lo:Nat):Int)=0:=eq_of_beq q.1.1;have q2:sIx items.size items.size hi-sIx items.size 0 lo=items.size:=eq_of_beq q.2;exact hw ⟨by lia,by lia⟩
 show xJ _ _ (if(((sIx items.size 0 lo:Nat):Int)==0&&(1:Int)==1&&(sIx items.size items.size hi-sIx items.size 0 lo)==items.size)=xG then _ else _) _ _ s;rw[if_neg hno,ZGH]
 first
  |exact xV (m:=Builtin.Tuple.tupleExact _) (xj (xy ⟨_,rfl,xy h⟩) htake)
  |exact xV (m:=Builtin.Tuple.tupleExact _) (xj (xV (xy (xy ⟨_,rfl,xy h⟩))) htake)
  |exact xV (xV (m:=Builtin.Tuple.tupleExact _) (xj (xy (xy ⟨_,rfl,xy h⟩)) htake))
  |exact xV (xV (m:=Builtin.Tuple.tupleExact _) (xj (xy ⟨_,rfl,xy h⟩) htake))
end
end HT
namespace _L
open PySem PySem.Spec PyProof.Rows
variable{s:j3}
noncomputable abbrev TO:=St->Hp->(Option Int->Hp->Prop)->Prop
def PO(X:Cx)(e:Option jk)(t:TO):Prop:=
 ∀(xD:List (jx×Obj))(s:j3)(σ:St)(H:Hp)(Q:Option Int->Hp->Prop),Inv X xD σ H s->t σ H Q->
  xJ (jS X.prog X.w) X.A (evalPart e X.env) (λu s'=>∃o H',Inv X xD σ H' s'/\IsPart u o/\Q o H') X.xe s
noncomputable def ZGZ:TO:=λ_ H Q=>Q xF H
noncomputable def ZHi(t:TE):TO:=λσ H Q=>t σ H λx H1=>∃i,x=.int i/\Q (xE i) H1
section
variable{X:Cx}{e:jk}{te:TE}{lo hi:Option jk}{tl th:TO}{pos p2:Pos}
theorem ZFV:PO X xF ZGZ:=by intro xD s σ H Q I h;rw[evalPart_none];exact xy ⟨xF,H,I,.none,h⟩
theorem ZII(h:PE X e te):PO X (xE e) (ZHi te):=by
 intro xD s σ H Q I hw;rw[evalPart_some];refine thn (h xD s σ H _ I hw) λu s1 ⟨x,H1,I1,r1,q1⟩=>?_
 obtain⟨i,rfl,q⟩:=q1;obtain⟨t,rfl⟩:=r1;exact⟨xE i,H1,I1,.int i t,q⟩
def SlR(X:Cx)(r:V->Option Int->Option Int->Hp->VK->Prop):Prop:=
 ∀(xD:List (jx×Obj))(s:j3)(σ:St)(H:Hp)(x:V)(v vl vu:j5)(lo hi:Option Int)(sl:jx)(Q:VK),Inv X xD σ H s->RelV x v->s.heap.IsSliceOf sl vl vu .none->IsPart vl lo->IsPart vu hi->r x lo hi H Q->
  ∃T id,typeLookup (.type T) "__getitem__"=pure (xE (.builtin id))/\s.TypeIs v T/\xJ (jS X.prog X.w) X.A (getItem v (.ref sl)) (EP X xD σ Q) X.xe s
theorem SlR.or{r r':V->Option Int->Option Int->Hp->VK->Prop}(h:SlR X r)(h':SlR X r'):SlR X (λx lo hi H Q=>r x lo hi H Q∨r' x lo hi H Q):=by
 intro xD s σ H x v vl vu lo hi sl Q I rx hs pl pu q;rcases q with q|q
 ·exact h xD s σ H x v vl vu lo hi sl Q I rx hs pl pu q
 ·exact h' xD s σ H x v vl vu lo hi sl Q I rx hs pl pu q
noncomputable def tSl(r:V->Option Int->Option Int->Hp->VK->Prop)(te:TE)(tl th:TO):TE:=λσ H Q=>te σ H λx H1=>tl σ H1 λl H2=>th σ H2 λu H3=>r x l u H3 Q
theorem ZEQ{r:V->Option Int->Option Int->Hp->VK->Prop}(hr:SlR X r)(he:PE X e te)(hl:PO X lo tl)(hu:PO X hi th):PE X (.Subscript e (.Slice lo hi xF p2) pos) (tSl r te tl th):=by
 intro xD s σ H Q I h;refine Subscript_ (thn (he xD s σ H _ I h) λv s1 ⟨x,H1,I1,r1,q1⟩=>?_);refine wpAny_Slice (thn (hl xD s1 σ H1 _ I1 q1) λvl s2 ⟨l,H2,I2,pl,q2⟩=>thn (hu xD s2 σ H2 _ I2 q2) λvu s3 ⟨u,H3,I3,pu,q3⟩=>?_);rw[evalPart_none];refine xy ?_;have I4:Inv X xD σ H3 {s3 with heap:=s3.heap.push {cls:=.type "slice",data:=.fields #[vl,vu,.none]}}:=I3.kept (t':=s3.toks) λb ob q=>zQ _ q
 obtain⟨T,id,hT,ht,hg⟩:=hr xD {s3 with heap:=s3.heap.push {cls:=.type "slice",data:=.fields #[vl,vu,.none]}} σ H3 x v vl vu l u s3.heap.objs.size Q I4 r1 (Heap.IsSliceOf.new ..) pl pu q3;show xJ (jS X.prog X.w) X.A (subscriptTail e (.Slice lo hi xF p2) v (.ref s3.heap.objs.size)) (EP X xD σ Q) X.xe {s3 with heap:=s3.heap.push {cls:=.type "slice",data:=.fields #[vl,vu,.none]}}
 exact tail_any (ops:=[.ref s3.heap.objs.size,v]) ht hT hg (by with_unfolding_all rfl)
def Jj(xs:List V)(lo hi:Option Int):List V:=(xs.drop (HT.sIx xs.length 0 lo)).take (HT.sIx xs.length xs.length hi-HT.sIx xs.length 0 lo)
theorem ZCK(xs:List V)(lo hi:Option Int):(Jj xs lo hi).length<=xs.length:=by unfold Jj;rw[qV,qA];lia
def rSlT(K:PySem.W.Frag):V->Option Int->Option Int->Hp->VK->Prop:=λx lo hi H Q=>∃a xs,x=.ref a/\SqT K H a xs/\
 ¬(HT.sIx xs.length 0 lo=0/\HT.sIx xs.length xs.length hi=xs.length)/\∀p,H p=xF->Q (.ref p) (upd H p (.tup (Jj xs lo hi)))
theorem ZFe:SlR X (rSlT X.K):=by
 intro xD s σ H x v vl vu lo hi sl Q I rx hs pl pu h;obtain⟨a,xs,rfl,hx,hw,q⟩:=h;cases rx;obtain⟨its,r,ht,hz⟩:=I.tuple hx;have hlen:its.toArray.size=xs.length:=by rw[zW];exact r.length.symm
 refine⟨"tuple",_,PyProof.Rows.slot_tuple_getitem.lookup,ht.typeIs,?_⟩;refine HT.ZJd ht hs pl pu (by rw[hlen];exact hw) ?_ (by rw[hlen];exact hz);rw[hlen];refine⟨.ref s.heap.objs.size,_,I.laid (t':=s.toks) (o:=.tup (Jj xs lo hi)) (λb ob q=>zQ _ q) (zK _) ?_,rfl,q _ (I.hok.fresh (zK _))⟩;exact⟨z0 (ZCK xs lo hi) hz,_,(r.drop (HT.sIx xs.length 0 lo)).take (HT.sIx xs.length xs.length hi-HT.sIx xs.length 0 lo),IsTup.new _ _⟩
def ZCt(K:PySem.W.Frag):R2:=λx y H Q=>∃a b xs ys,x=.ref a/\y=.ref b/\SqT K H a xs/\SqT K H b ys/\xs≠[]/\xs.length+ys.length<=sizeLine/\
 (ys=[]->Q (.ref a) H)/\(ys≠[]->∀p,H p=xF->Q (.ref p) (upd H p (.tup (xs++ys))))
theorem Vals.Xm{xs:List V}{us:List j5}(r:Vals xs us):us=[]↔xs=[]:=by
 cases r with
 |nil=>simp
 |cons _ _=>simp
theorem ZHw:OpR X (jB .Add) (ZCt X.K):=by
 intro xD s σ H x y v u Q I rx ry h;obtain⟨a,b,xs,ys,rfl,rfl,ha,hb,hx,hz,q1,q2⟩:=h;cases rx;cases ry;obtain⟨its,r1,p1,_⟩:=I.tuple ha;obtain⟨its2,r2,p2,_⟩:=I.tuple hb;refine HT.ZEG p1 p2 (λz=>hx (r1.Xm.mp z)) (λz=>⟨.ref a,H,I,rfl,q1 (r2.Xm.mp z)⟩) (λz=>?_) (by rw[<-r1.length,<-r2.length];exact hz);refine⟨.ref s.heap.objs.size,_,I.laid (t':=s.toks) (o:=.tup (xs++ys)) (λb ob q=>zQ _ q) (zK _) ?_,rfl,q2 (λw=>z (r2.Xm.mpr w)) _ (I.hok.fresh (zK _))⟩
 exact⟨by rw[qK];exact hz,_,r1.append r2,IsTup.new _ _⟩
end
noncomputable def ixN(n:Nat)(i:Int):Option Nat:=if 0<=i then(if i<n then xE i.toNat else xF)else if -(n:Int)<=i then xE (i+n).toNat else xF
def atI{α:Type}(xs:List α)(i:Int):Option α:=(ixN xs.length i).bind λj=>xs[j]?
theorem ZEL{n:Nat}{i:Int}{j:Nat}(h:ixN n i=xE j):seqIndex? i n=xE j/\j<n/\ -(n:Int)<=i/\i<n:=by
 unfold ixN at h;by_cases h0:0<=i
 ·rw[if_pos h0]at h;by_cases h1:i<n
  ·rw[if_pos h1]at h;have e:i.toNat=j:=Option.some.inj h;exact⟨by rw[seqIndex_of h0 h1,e],by lia,by lia,h1⟩
  ·rw[if_neg h1]at h;cases h
 ·rw[if_neg h0]at h;by_cases h1: -(n:Int)<=i
  ·rw[if_pos h1]at h;have e:(i+n).toNat=j:=Option.some.inj h;exact⟨by rw[seqIndex_neg (by lia) h1,e],by lia,h1,by lia⟩
  ·rw[if_neg h1]at h;cases h
theorem Ve{α:Type}{xs:List α}{i:Int}{v:α}(h:atI xs i=xE v):∃j,seqIndex? i xs.length=xE j/\xs[j]?=xE v/\j<xs.length/\ -(xs.length:Int)<=i/\i<xs.length:=by
 unfold atI at h;cases e:ixN xs.length i with
 |none=>rw[e]at h;cases h
 |some j=>
  rw[e]at h;obtain⟨h1,h2,h3,h4⟩:=ZEL e;exact⟨j,h1,h,h2,h3,h4⟩
def PlainIx(b:jk):Prop:=∀o i,subscripted b xH o i=operate [o,i] (getItem o i)
def IxR(X:Cx)(r:R2):Prop:=
 ∀(value slice:jk)(xD:List (jx×Obj))(s:j3)(σ:St)(H:Hp)(x y:V)(v u:j5)(Q:VK),Inv X xD σ H s->RelV x v->RelV y u->r x y H Q->
  subscripted slice xH v u=operate [v,u] (getItem v u)->xJ (jS X.prog X.w) X.A (subscriptTail value slice v u) (EP X xD σ Q) X.xe s
def MtR(X:Cx)(id:String)(r:V->List V->Hp->VK->Prop):Prop:=
 ∀(xD:List (jx×Obj))(s:j3)(σ:St)(H:Hp)(x:V)(xs:List V)(v:j5)(us:List j5)(Q:VK),Inv X xD σ H s->RelV x v->Vals xs us->r x xs H Q->
  xJ (jS X.prog X.w) X.A (call (.builtin id) (v::us)) (EP X xD σ Q) X.xe s
section
variable{X:Cx}{a b:jk}{ta tb:TE}{pos:Pos}
theorem IxR.or{r r':R2}(h:IxR X r)(h':IxR X r'):IxR X (λx y H Q=>r x y H Q∨r' x y H Q):=by
 intro value slice xD s σ H x y v u Q I rx ry q hs;rcases q with q|q
 ·exact h value slice xD s σ H x y v u Q I rx ry q hs
 ·exact h' value slice xD s σ H x y v u Q I rx ry q hs
theorem ZJh{r:R2}(hr:IxR X r)(ha:PE X a ta)(hb:PE X b tb)(hs:PlainIx b):PE X (.Subscript a b pos) (tOp r ta tb):=by intro xD s σ H Q I h;exact Subscript_ (W7 ha hb I h λv u s2 x y H2 I2 rx ry q=>hr a b xD s2 σ H2 x y v u Q I2 rx ry q (hs _ _))
def rIxL(K:PySem.W.Frag):R2:=λx y H Q=>∃p xs i v,x=.ref p/\y=.int i/\SqL K H p xs/\atI xs i=xE v/\Q v H
def rIxT(K:PySem.W.Frag):R2:=λx y H Q=>∃p xs i v,x=.ref p/\y=.int i/\SqT K H p xs/\atI xs i=xE v/\Q v H
def rIxS:R2:=λx y H Q=>∃z i c,x=.str z/\y=.int i/\z.length<=sizeLine/\atI z.cps.toList i=xE c/\Q (.str ⟨#[c]⟩) H
theorem ZI5:IxR X (rIxL X.K):=by
 intro value slice xD s σ H x y v u Q I rx ry h hs;obtain⟨p,xs,i,z,rfl,rfl,hq,he,q⟩:=h;cases rx;obtain⟨t,rfl⟩:=ry;obtain⟨its,r,pl,hz⟩:=I.list hq;obtain⟨j,h1,h2,h3,h4,h5⟩:=Ve he;obtain⟨w,ew,rw'⟩:=r.get h2;have hl:=r.length;have hn:=line63;have fin:EP X xD σ Q w s:=⟨z,H,I,rw',q⟩;by_cases h0:0<=i
 ·have hj:i.toNat=j:=by rw[seqIndex_of h0 h5]at h1;exact Option.some.inj h1
  exact item_listR pl.isList h0 (by lia) (by rw[hj];simpa using ew) fin hs
 ·have hj:(i+(its.toArray.size:Int)).toNat=j:=by rw[seqIndex_neg (by lia) h4]at h1;rw[zW,<-hl];exact Option.some.inj h1
  exact subscriptTail_builtinR (x:=w) pl.isList.typeIs slot_list_getitem.lookup
   (wpAny_getItem_list_neg (Q:=λr s'=>r=w/\EP X xD σ Q r s') pl.isList (by lia) (by rw[zW]<;>lia) (by lia) (by rw[hj];simpa using ew) ⟨rfl,fin⟩) hs
theorem ZH8:IxR X (rIxT X.K):=by
 intro value slice xD s σ H x y v u Q I rx ry h hs;obtain⟨p,xs,i,z,rfl,rfl,hq,he,q⟩:=h;cases rx;obtain⟨t,rfl⟩:=ry;obtain⟨its,r,pl,hz⟩:=I.tuple hq;obtain⟨j,h1,h2,h3,h4,h5⟩:=Ve he;obtain⟨w,ew,rw'⟩:=r.get h2;have hl:=r.length;have hn:=line63;have fin:EP X xD σ Q w s:=⟨z,H,I,rw',q⟩;exact subscriptTail_builtinR (x:=w) pl.typeIs slot_tuple_getitem.lookup
  (getItem_tuple (j:=j) (Q:=λr s'=>r=w/\EP X xD σ Q r s') pl (by lia) (by lia) (by rw[zW,<-hl];exact h1) (by simpa using ew) ⟨rfl,fin⟩) hs
theorem ZGG:IxR X rIxS:=by
 intro value slice xD s σ H x y v u Q I rx ry h hs;obtain⟨z,i,c,rfl,rfl,hz,he,q⟩:=h;obtain⟨t,rfl⟩:=rx;obtain⟨t',rfl⟩:=ry;obtain⟨j,h1,h2,h3,h4,h5⟩:=Ve he;have hl:z.cps.toList.length=z.length:=by simp[Str.length]
 rw[hl]at h1 h4 h5;have hn:=line63;exact tail_any (typeIs_str s z t) slot_str_getitem.lookup (getItem_str (c:=c) (by have e1:decide (i < -(2^63:Int))=xH:=decide_eq_false (by lia);have e2:decide (i ≥ 2^63)=xH:=decide_eq_false (by lia);rw[e1,e2,Bool.or_false]) (by rw[h1];simpa using h2) ⟨.str ⟨#[c]⟩,H,I.tok _,⟨_,rfl⟩,q⟩) hs
def rIx(K:PySem.W.Frag):R2:=λx y H Q=>rIxL K x y H Q∨rIxT K x y H Q∨rIxS x y H Q
theorem ZG9:IxR X (rIx X.K):=ZI5.or (ZH8.or ZGG)
theorem ZJa(lo hi:Option Int)(n:Nat):(jU lo hi xF n).1=((HT.sIx n 0 lo:Nat):Int)/\(jU lo hi xF n).2.1=((HT.sIx n n hi:Nat):Int)/\(jU lo hi xF n).2.2=1:=by
 refine⟨?_,?_,rfl⟩
 ·cases lo with
  |none=>simp[jU,HT.sIx]
  |some i=>
   simp only[jU,HT.sIx,Option.getD_none,show(1:Int)>0 by decide,if_true];by_cases h:i<0
   ·simp only[h,if_true]<;>lia
   ·simp only[h,if_false]<;>lia
 ·cases hi with
  |none=>simp[jU,HT.sIx]
  |some i=>
   simp only[jU,HT.sIx,Option.getD_none,show(1:Int)>0 by decide,if_true];by_cases h:i<0
   ·simp only[h,if_true]<;>lia
   ·simp only[h,if_false]<;>lia
theorem ZFB(its:List j5)(lo hi:Option Int):slicePick its.toArray lo hi xF=((its.drop (HT.sIx its.length 0 lo)).take (HT.sIx its.length its.length hi-HT.sIx its.length 0 lo)).toArray:=by
 obtain⟨h1,h2,h3⟩:=ZJa lo hi its.toArray.size;unfold slicePick;rw[h1,h2,h3]
 simp only[sliceRange_one,pick_run,zW]<;>rfl
def rSlL(K:PySem.W.Frag):V->Option Int->Option Int->Hp->VK->Prop:=λx lo hi H Q=>∃a xs,x=.ref a/\SqL K H a xs/\∀p,H p=xF->Q (.ref p) (upd H p (.lst (Jj xs lo hi)))
theorem ZHD:SlR X (rSlL X.K):=by
 intro xD s σ H x v vl vu lo hi sl Q I rx hs pl pu h;obtain⟨a,xs,rfl,hx,q⟩:=h;cases rx;obtain⟨its,r,ht,hz⟩:=I.list hx;have hlen:=r.length;refine⟨"list",_,slot_list_getitem.lookup,ht.isList.typeIs,?_⟩
 refine wpAny_getItem_list_slice ht.isList hs pl pu .none (by simp) ?_ (by rw[zW]<;>lia)
 rw[ZFB,<-hlen];refine⟨.ref s.heap.objs.size,_,I.laid (t':=s.toks) (o:=.lst (Jj xs lo hi)) (λb ob q=>zQ _ q) (zK _) ?_,rfl,q _ (I.hok.fresh (zK _))⟩;exact⟨z0 (ZCK xs lo hi) hz,_,0,(r.drop (HT.sIx xs.length 0 lo)).take (HT.sIx xs.length xs.length hi-HT.sIx xs.length 0 lo),zy _ rfl⟩
noncomputable def Cw:V->Bool
 |.non=>xG
 |.bl _=>xG
 |.int _=>xG
 |.str _=>xG
 |_=>xH
noncomputable def eqV:V->V->Bool
 |.non,.non=>xG
 |.bl a,.bl b=>a==b
 |.bl a,.int b=>(if a then 1 else 0)==b
 |.int a,.bl b=>a==(if b then 1 else 0)
 |.int a,.int b=>a==b
 |.str a,.str b=>a==b
 |_,_=>xH
theorem ZB9{A:jv}{y x:V}{u v:j5}(ry:RelV y u)(rx:RelV x v)(fy:Cw y=xG)(fx:Cw x=xG):SeqAt.EqAt A s u v (eqV y x):=by
 cases y with
 |non=>
  cases ry;cases x with
  |non=>cases rx;exact SeqAt.EqAt.same _
  |bl b=>cases rx;exact SeqAt.EqAt.none_bool b
  |int b=>obtain⟨t,rfl⟩:=rx;exact SeqAt.EqAt.none_int b t
  |str b=>obtain⟨t,rfl⟩:=rx;exact SeqAt.EqAt.none_str b t
  |_=>exact absurd (show xH=xG from fx) zq
 |bl a=>
  cases ry;cases x with
  |non=>cases rx;exact SeqAt.EqAt.bool_none a
  |bl b=>cases rx;exact SeqAt.EqAt.bool_bool a b
  |int b=>obtain⟨t,rfl⟩:=rx;exact SeqAt.EqAt.bool_int a b t
  |str b=>obtain⟨t,rfl⟩:=rx;exact SeqAt.EqAt.bool_str a b t
  |_=>exact absurd (show xH=xG from fx) zq
 |int a=>
  obtain⟨t',rfl⟩:=ry;cases x with
  |non=>cases rx;exact SeqAt.EqAt.int_none a t'
  |bl b=>cases rx;exact SeqAt.EqAt.int_bool a t' b
  |int b=>obtain⟨t,rfl⟩:=rx;exact SeqAt.EqAt.int_int a t' b t
  |str b=>obtain⟨t,rfl⟩:=rx;exact SeqAt.EqAt.int_str a t' b t
  |_=>exact absurd (show xH=xG from fx) zq
 |str a=>
  obtain⟨t',rfl⟩:=ry;cases x with
  |non=>cases rx;exact SeqAt.EqAt.str_none a t'
  |bl b=>cases rx;exact SeqAt.EqAt.str_bool a t' b
  |int b=>obtain⟨t,rfl⟩:=rx;exact SeqAt.EqAt.str_int a t' b t
  |str b=>obtain⟨t,rfl⟩:=rx;exact SeqAt.EqAt.str_str a t' b t
  |_=>exact absurd (show xH=xG from fx) zq
 |_=>exact absurd (show xH=xG from fy) zq
def eqU(x:V)(u:j5):Bool:=match u with
 |.none=>eqV .non x
 |.bool b=>eqV (.bl b) x
 |.int i _=>eqV (.int i) x
 |.str z _=>eqV (.str z) x
 |_=>xH
theorem ZB1{x y:V}{u:j5}(r:RelV y u)(f:Cw y=xG):eqU x u=eqV y x:=by
 cases y with
 |non=>cases r;rfl
 |bl b=>cases r;rfl
 |int i=>obtain⟨t,rfl⟩:=r;rfl
 |str z=>obtain⟨t,rfl⟩:=r;rfl
 |_=>exact absurd (show xH=xG from f) zq
theorem Nt{x:V}:∀{xs:List V}{us:List j5},Vals xs us->xs.all Cw=xG->us.any (eqU x)=xs.any λy=>eqV y x
 |_,_,.nil,_=>rfl
 |y::xs,u::us,.cons r t,f=>by rw[qN,zY]at f;rw[List.any_cons,List.any_cons,ZB1 r f.1,Nt t f.2]
theorem My{A:jv}{x:V}{v:j5}(rx:RelV x v)(fx:Cw x=xG):∀{xs:List V}{us:List j5},Vals xs us->xs.all Cw=xG->∀u∈us,SeqAt.EqAt A s u v (eqU x u)
 |_,_,.nil,_=>λu hu=>by cases hu
 |y::xs,u::us,.cons r t,f=>λu' hu=>by
  rw[qN,zY]at f;rcases zz.mp hu with rfl|hu
  ·rw[ZB1 r f.1];exact ZB9 r rx f.1 fx
  ·exact My rx fx t f.2 u' hu
def inV(x:V)(xs:List V):Bool:=xs.any λy=>eqV y x
def rIn(K:PySem.W.Frag)(neg:Bool):R2:=λx y H Q=>∃p xs,y=.ref p/\(SqL K H p xs∨SqT K H p xs)/\Cw x=xG/\xs.all Cw=xG/\Q (.bl (if neg then !inV x xs else inV x xs)) H
theorem ZG6:OpR X (jF .In) (rIn X.K xH):=by
 intro xD s σ H x y v u Q I rx ry h;obtain⟨p,xs,rfl,hq,fx,fs,q⟩:=h;cases ry;rcases hq with hq|hq
 ·obtain⟨its,r,pl,hz⟩:=I.list hq;refine SeqAt.in_listAt (eqU x) pl.isList (λw hw=>My rx fx r fs w (by simpa using hw)) ⟨.bl _,H,I,rfl,?_⟩;rw[show its.toArray.any (eqU x)=its.any (eqU x) by simp,Nt r fs];exact q
 ·obtain⟨its,r,pl,hz⟩:=I.tuple hq;refine SeqAt.in_tupleAt (eqU x) pl (λw hw=>My rx fx r fs w (by simpa using hw)) ⟨.bl _,H,I,rfl,?_⟩;rw[show its.toArray.any (eqU x)=its.any (eqU x) by simp,Nt r fs];exact q
theorem ZEK:OpR X (jF .NotIn) (rIn X.K xG):=by
 intro xD s σ H x y v u Q I rx ry h;obtain⟨p,xs,rfl,hq,fx,fs,q⟩:=h;cases ry;rcases hq with hq|hq
 ·obtain⟨its,r,pl,hz⟩:=I.list hq;refine SeqAt.notIn_listAt (eqU x) pl.isList (λw hw=>My rx fx r fs w (by simpa using hw)) ⟨.bl _,H,I,rfl,?_⟩;rw[show its.toArray.any (eqU x)=its.any (eqU x) by simp,Nt r fs];exact q
 ·obtain⟨its,r,pl,hz⟩:=I.tuple hq;refine SeqAt.notIn_tupleAt (eqU x) pl (λw hw=>My rx fx r fs w (by simpa using hw)) ⟨.bl _,H,I,rfl,?_⟩;rw[show its.toArray.any (eqU x)=its.any (eqU x) by simp,Nt r fs];exact q
theorem ZF9:CallR X (.builtin "len") (λxs H Q=>∃p ys,xs=[.ref p]/\(SqL X.K H p ys∨SqT X.K H p ys)/\Q (.int ys.length) H):=by
 intro xD s σ H xs us Q I r h;obtain⟨p,ys,rfl,hq,q⟩:=h;obtain⟨u,rfl,rx⟩:=vals1 r;cases rx;have hn:=line63;rcases hq with hq|hq
 ·obtain⟨its,r',pl,hz⟩:=I.list hq;have hlen:=r'.length
  exact Calls.call_len_list pl.isList (by simp only[zW]<;>lia) ⟨.int ys.length,H,I.tok _,⟨s.toks+1,by rw[zW,hlen]⟩,q⟩
 ·obtain⟨its,r',pl,hz⟩:=I.tuple hq;have hlen:=r'.length
  exact len_tuple pl (by simp only[zW]<;>lia) ⟨.int ys.length,H,I.tok _,⟨s.toks+1,by rw[zW,hlen]⟩,q⟩
theorem ZKS:CallR X (.builtin "len") (λxs H Q=>∃z,xs=[.str z]/\z.length<=sizeLine/\Q (.int z.length) H):=by intro xD s σ H xs us Q I r h;obtain⟨z,rfl,hz,q⟩:=h;obtain⟨u,rfl,t,rfl⟩:=vals1 r;have hn:=line63;exact len_str (by lia) ⟨.int z.length,H,I.tok _,⟨_,rfl⟩,q⟩
theorem CallR.or{f:j5}{r r':List V->Hp->VK->Prop}(h:CallR X f r)(h':CallR X f r'):CallR X f (λxs H Q=>r xs H Q∨r' xs H Q):=by
 intro xD s σ H xs us Q I rs q;rcases q with q|q
 ·exact h xD s σ H xs us Q I rs q
 ·exact h' xD s σ H xs us Q I rs q
theorem ZKL:CallR X (.type "tuple") (λxs H Q=>∃p ys,xs=[.ref p]/\((SqL X.K H p ys/\∀l,H l=xF->Q (.ref l) (upd H l (.tup ys)))∨(SqT X.K H p ys/\Q (.ref p) H))):=by
 intro xD s σ H xs us Q I r h;obtain⟨p,ys,rfl,h⟩:=h;obtain⟨u,rfl,rx⟩:=vals1 r;cases rx;rcases h with⟨hq,q⟩|⟨hq,q⟩
 ·obtain⟨its,r',pl,hz⟩:=I.list hq;have hlen:=r'.length
  refine call_tuple_list pl.isList (λh' kp=>?_) (by simp only[zW]<;>lia)
  have I1:Inv X xD σ H {s with heap:=h'}:=I.kept (t':=s.toks) kp;have I2:Inv X xD σ (upd H h'.objs.size (.tup ys)) {s with heap:=h'.push {cls:=.type "tuple",data:=.seq its.toArray}}:=
   I1.laid (t':=s.toks) (λb o e=>zQ _ e) (zK _) (show ObjOk X.prog X.w _ _ _ (.tup ys)from⟨hz,its,r',IsTup.new _ _⟩)
  exact⟨.ref h'.objs.size,_,I2,rfl,q _ (I1.hok.fresh (zK _))⟩
 ·obtain⟨its,r',pl,hz⟩:=I.tuple hq;exact call_tuple_same pl ⟨.ref p,H,I,rfl,q⟩
def tyV(K:PySem.W.Frag)(T:String)(x:V)(H:Hp):Prop:=match x with
 |.str _=>T="str"
 |.int _=>T="int"
 | .ref p=>(T="list"/\∃xs,SqL K H p xs)∨(T="tuple"/\∃o,K.lookup p=xE o/\o.cls=.type "tuple"/\o.dict=xF)∨
   (T="dict"/\((∃kvs,H p=xE (.dK kvs))∨∃kvs,H p=xE (.dT kvs)))∨(T="set"/\∃S n,H p=xE (.set S n))
 |_=>False
theorem ZGa{xD:List (jx×Obj)}{σ:St}{H:Hp}{T:String}{x:V}{v:j5}(I:Inv X xD σ H s)(r:RelV x v)(ty:tyV X.K T x H):
  s.TypeIs v T/\∀a,v=.ref a->∃ob,s.heap.get? a=xE ob/\ob.dict=xF:=by
 cases x with
 |str z=>
  obtain⟨t,rfl⟩:=r
  cases(show T="str" from ty)
  exact⟨typeIs_str s z t,λ_ e=>nomatch e⟩
 |int i=>
  obtain⟨t,rfl⟩:=r
  cases(show T="int" from ty)
  exact⟨typeIs_int s i t,λ_ e=>nomatch e⟩
 | ref p=>
  cases r;rcases ty with⟨rfl,xs,hq⟩|⟨rfl,o,hk,hc,hd⟩|⟨rfl,hk⟩|⟨rfl,S,n,hk⟩
  ·obtain⟨its,_,pl,_⟩:=I.list hq;refine⟨pl.isList.typeIs,λa e=>?_⟩;cases e;obtain⟨o,n,e,c,hd,_⟩:=pl;exact⟨o,e,hd⟩
  ·refine⟨⟨o,I.kIn p o hk,hc⟩,λa e=>?_⟩;cases e;exact⟨o,I.kIn _ o hk,hd⟩
  ·have z:∃o,s.heap.get? p=xE o/\o.ExactDict:=by
    rcases hk with⟨kvs,hk⟩|⟨kvs,hk⟩
    ·obtain⟨_,_,_,_,o,_,_,e,ex,_⟩:=I.hok p _ hk;exact⟨o,e,ex⟩
    ·obtain⟨_,_,_,_,o,_,_,e,ex,_⟩:=I.hok p _ hk;exact⟨o,e,ex⟩
   obtain⟨o,e,ex⟩:=z;refine⟨⟨o,e,ex.1⟩,λa e2=>?_⟩;cases e2;exact⟨o,e,ex.2.1⟩
  ·obtain⟨o,_,_,_,e,ex,_⟩:=I.hok p _ hk;refine⟨⟨o,e,ex.1⟩,λa e2=>?_⟩;cases e2;exact⟨o,e,ex.2.1⟩
 |_=>exact False.elim ty
noncomputable def tBM(K:PySem.W.Frag)(T:String)(r:V->List V->Hp->VK->Prop)(to:TE)(t:TA):TE:=λσ H Q=>to σ H λx H1=>tyV K T x H1/\t σ H1 λxs H2=>r x xs H2 Q
variable{o e:jk}{es:List jk}{to:TE}{t:TA}{name:Str}{apos cpos:Pos}{T id:String}{r:V->List V->Hp->VK->Prop}
theorem ZAy(pa:PlainAttrs T)(slot:Slot T name id)(hty:typeOf (.builtin id)=pure (.type "method_descriptor"))(hm:MtR X id r)(ho:PE X o to)(ha:PA X (e::es) t)
  (hbase:j8 o name X.env (eval o X.env)=eval o X.env:=by rfl)
  (hfew:((j9 cpos (xQ (e::es) X.env)).all (λx=> !x.1)&&(backToKw cpos (keywordEach [] X.env)).all (λx=>x.1.isSome)
   && decide ((e::es).length+([]:List Keyword).length+(if([]:List Keyword).isEmpty then 0 else 1)<30))=xG:=by rfl)
  (hline:(apos.endLine==cpos.line)=xG:=by rfl) (hs:xQ (e::es) X.env=(xH,eval e X.env)::xQ es X.env:=by rfl) (hplain:(j9 cpos (xQ es X.env)).any (·.1)=xH:=by rfl):
  PE X (.Call (.Attribute o name apos) (e::es) [] cpos) (tBM X.K T r to t):=by
 intro xD s σ H Q I h;refine wpAny_Call_method_late hbase hfew hline rfl (thn (ho xD s σ H _ I h) λv s1 ⟨x,H1,I1,r1,ty,q1⟩=>?_);obtain⟨h1,h2⟩:=ZGa I1 r1 ty;refine⟨T,id,pa,slot,hty,h1,h2,?_⟩;have hA:=ha cpos xD s1 σ H1 _ I1 q1;rw[hs]at hA⊢
 refine Calls.callWith_builtin (by show(xH||(j9 cpos (xQ es X.env)).any (·.1))=xH;rw[hplain]<;>rfl) (Calls.evalArgs_plain ?_)
 exact thn hA λus s2 ⟨vs,H2,I2,r2,q2⟩=>hm xD s2 σ H2 x vs v us Q I2 r1 r2 q2
end
def MtM(X:Cx)(id:String)(r:V->List V->Hp->VK->Prop):Prop:=
 ∀(xD:List (jx×Obj))(s:j3)(σ:St)(H:Hp)(x:V)(xs:List V)(v:j5)(us:List j5)(Q:VK),Inv X xD σ H s->RelV x v->Vals xs us->r x xs H Q->
  xJ (jS X.prog X.w) X.A (call (.builtin id) (v::us)) (EP X xD σ Q) X.xe s
theorem Vals.one:∀{x:V}{us:List j5},Vals [x] us->∃u,us=[u]/\RelV x u
 |_,_,.cons r .nil=>⟨_,rfl,r⟩
section
variable{X:Cx}{xD:List (jx×Obj)}{σ:St}{H:Hp}{s:j3}{l b:jx}{xs ys zs:List V}
theorem Inv.lset{its its':List j5}{n:Nat}{f:Array j5->Array j5}{t':Nat}(I:Inv X xD σ H s)(hH:H l=xE (.lst xs))
  (e:s.heap.get? l=xE {cls:=.type "list",data:=.seq its.toArray n}) (hf:f its.toArray=its'.toArray) (hv:Vals ys its') (hz:ys.length<=sizeLine):
  Inv X xD σ (upd H l (.lst ys)) {s with heap:=s.heap.update l (Obj.mapSeq f),toks:=t'}:=by
 have q:=PySem.IsL.update e f;rw[hf]at q;refine I.write (x:=l) (e:=l) (by rw[hH];exact trivial) (.inl rfl) (λb' u hb hu=>(zT s.heap (Obj.mapSeq f) (Ne.symm hb)).trans hu) ⟨_,q⟩ ?_;exact⟨hz,its',_,hv,q⟩
theorem Inv.lnew{its:List j5}{t':Nat}(I:Inv X xD σ H s)(hv:Vals ys its)(hz:ys.length<=sizeLine):
  Inv X xD σ (upd H s.heap.objs.size (.lst ys)) {s with heap:=s.heap.push {cls:=.type "list",data:=.seq its.toArray},toks:=t'}:=
 I.laid (λ_ _ q=>zQ _ q) (zK _) ⟨hz,its,0,hv,zy _ rfl⟩
theorem Inv.fresh(I:Inv X xD σ H s):H s.heap.objs.size=xF:=I.hok.fresh (zK _)
theorem Inv.lstM(I:Inv X xD σ H s)(hH:H l=xE (.lst xs)):xs.length<=sizeLine/\∃(its:List j5)(n:Nat),Vals xs its/\xs.length=its.length/\s.heap.get? l=xE {cls:=.type "list",data:=.seq its.toArray n}:=by obtain⟨z,its,n,r,e⟩:=I.hok l _ hH;exact⟨z,its,n,r,r.length,e⟩
end
section
variable{X:Cx}
def ZKH:V->List V->Hp->VK->Prop:=λx vs H Q=>∃l xs y,x=.ref l/\vs=[y]/\H l=xE (.lst xs)/\xs.length<sizeLine/\Q .non (upd H l (.lst (xs++[y])))
theorem ZHN:MtM X "list.append" ZKH:=by
 intro xD s σ H x vs v us Q I rx rv h;obtain⟨l,xs,y,rfl,rfl,hH,hz,q⟩:=h;cases rx;obtain⟨u,rfl,ru⟩:=rv.one;obtain⟨z,its,n,r,hl,e⟩:=I.lstM hH;refine call_meets F.slot_list_append ⟨_,e,rfl⟩ F.entry_list_append (F.args_list_append_2 _ _) (PySem.list_append l its.toArray n u (by rw[zW];lia)) ⟨e,?_⟩;refine⟨.non,_,I.lset (its':=its++[u]) hH e (by simp) (r.append (.cons ru .nil)) ?_,rfl,q⟩
 rw[qK,List.length_singleton];lia
end
section
variable{prog:j1}{w:j6}{A:jv}{E:j5->j3->Prop}{s:j3}
end
section
variable{X:Cx}
end
end _L
namespace Att
open PySem PySem.W PySem.Calls PyProof.Rows
theorem ZJ8{P:Params}{h:Heap}:∀(ns:List Int)(vs:List j5),WellAll P h vs (ns.map WData.int)->IntsAre vs ns:=by
 intro ns
 induction ns with
 |nil=>
  intro vs w;rw[qj]at w;cases w;exact .nil
 | cons n ns ih=>
  intro vs w;rw[zj]at w;cases w with
  |cons a b=>
   cases a;exact .cons _ _ (ih _ b)
theorem ZFX{l:OpenLaw}{n:Nat}(hn:l.most=xE n){P:Params}{h:Heap}{args:List WData}{vals:List j5}
  (hpre:l.row.toRowW.claim.pre args=xG) (hwl:WellAll P h vals args):
  ∃a vs ns,vals=[Value.ref a]/\args=[WData.list (ns.map WData.int)]/\h.get? a=xE {cls:=.type "list",data:=.seq vs.toArray}/\IntsAre vs ns/\ns.length<=n:=by
 have hsh:WShape.hasAll [] args [.list .int]=xG:=(pre_splitW hpre).1;have hc:l.pre.holds [] {args:=args}=xG:=(pre_splitW hpre).2;obtain⟨d,r,rfl,h1,h2⟩:=hasAllW_cons hsh;obtain rfl:=hasAllW_nil h2;obtain⟨xs,rfl,h3⟩:=hasW_list h1;obtain⟨ns,rfl⟩:=items_int h3;have hlen:ns.length<=n:=by
  unfold OpenLaw.pre at hc;have h4:(WTm.not (.lt (.lit (.int (n:Int))) (.len (.arg 0)))).holds [] {args:=[.list (ns.map .int)]}=xG:=by have h4:=(holds_andW hc).1;rw[hn]at h4;exact h4
  have h5:=condW_of h4 (w_not (w_lt w_lit (w_len_list (w_arg rfl))));rw[zw]at h5;refine Nat.le_of_not_lt λq=>?_
  have q':(n:Int)<((ns.length:Nat):Int):=by lia
  first
   |(rw[decide_eq_true q']at h5;exact absurd h5 (by decide))
   |(simp at h5;lia)
 cases hwl with
 |cons w1 w2=>
  cases w2;cases w1 with
  |list ho hall=>exact⟨_,_,ns,rfl,rfl,ho,ZJ8 ns _ hall,hlen⟩
theorem ZH6(l:OpenLaw)(args:List WData):l.row.toRowW.claim.post args (.bool xG) args=xG:=
 postW_of (r:=l.row.toRowW) (X:=(xG==xG))
  (show WShape.has [] (.bool xG) .bool=xG by first|rfl|decide|simp[WShape.has,WShape.arms,WShape.armsAll])
  (show(WTm.eq .res (.lit (.bool xG))).value [] {args:=args,res:=xE (.bool xG),after:=args}=xE (.bool (xG==xG))from w_eq_bool (w_res rfl) w_lit) rfl
section
variable{prog:j1}{w:j6}{A:jv}{E:j5->j3->Prop}{s:j3}{K:xB}
end
end Att
namespace _L
open PySem PySem.Spec PyProof.Rows
variable{fd:jy}{x:Str}
theorem Sg:∀{vs:List j5}{ns:List Int},IntsAre vs ns->Vals (ns.map V.int) vs
 |_,_,.nil=>.nil
 |_,_,.cons n t h=>.cons ⟨t,rfl⟩ (Sg h)
def Only(H:Hp):Prop:=∀b,H b=xF∨∃o xs,H b=xE (.frz o (.lst xs))
theorem ZH5{P:j1}{w:j6}{K:PySem.W.Frag}{mg mb:Str->Option j5}{CX:CXT}{k:Nat}{fa a:jx}{sp:Sp}{s₁:j3}{vs:List j5}{ns:List Int}
  (KX:K.In s₁.heap) (hns:s₁.heap.Ns jR mg) (hb:s₁.heap.Ns builtinsNs mb) (hbb:∀x:Str,x≠"__name__"->mb x=jC x) (hlim:s₁.heap.NoLimit) (hg:s₁.gens= #[])
  (ha:s₁.heap.get? a=xE {cls:=.type "list",data:=.seq vs.toArray}) (hi:IntsAre vs ns) (hl:ns.length<=sizeLine) (hr:Room k callerA)
  (F:∀base:Heap,K.In base->base.Ns jR mg->FnOk P w K mg base CX k fa fd [x] sp) (hbind:∀(s:j3)(u:j5),BindsTo s fd ⟨[u],[]⟩ [(x,u)])
  (hsp:∀H:Hp,Only H->SqL K H a (ns.map V.int)->sp [.ref a] H (λv _=>v=.bl xG) λ_ _ _=>False)
  (hCX:∀H e s',CX [] H s₁ (λ_ _ _=>False) e s'->False):
  codeAny (jS P w) callerA (.call (.ref fa) ⟨[.ref a],[]⟩) (λr s'=>r=.ok (.ret (.bool xG))/\OldK s₁.heap s'.heap/\s'.os=s₁.os/\AllBare s'.gens) s₁:=by
 have rv:=Sg hi;have lenV:=hi.length;have core:∀H:Hp,Only H->SqL K H a (ns.map V.int)->HOk P w H s₁.heap->(∀b,H b≠xF->b=a)->(H a≠xF->K.lookup a=xF)->
   codeAny (jS P w) callerA (.call (.ref fa) ⟨[.ref a],[]⟩) (λr s'=>r=.ok (.ret (.bool xG))/\OldK s₁.heap s'.heap/\s'.os=s₁.os/\AllBare s'.gens) s₁:=by
  intro H hO hS hok hA hK;have base_of:∀{b:jx}{o:Obj},s₁.heap.get? b=xE o->H b=xF->(Hv s₁.heap H).get? b=xE o:=λe n=>ZJP e n
  have noA:∀{b:jx}{o:Obj}{es:Array DictEntry}{ep:Nat},s₁.heap.get? b=xE o->o.data=.dict es ep->H b=xF:=λ{b o es ep}e d=>by
   cases q:H b with
   |none=>rfl
   |some u=>
    have e':b=a:=hA b (by rw[q];simp);subst e';rw[ha]at e;cases e;have d':Data.seq vs.toArray _=Data.dict es ep:=d;cases d'
  have nsK:∀{b:jx}{m:Str->Option j5},s₁.heap.Ns b m->(Hv s₁.heap H).Ns b m:=λ{b m}⟨o,es,ep,e,d,r⟩=>⟨o,es,ep,base_of e (noA e d),d,r⟩
  have hKb:K.In (Hv s₁.heap H):=λb o e=>base_of (KX b o e) (by
   cases q:H b with
   |none=>rfl
   |some u=>
    have e':b=a:=hA b (by rw[q];simp);subst e';rw[hK (by rw[q];simp)]at e;cases e)
  have hM:Mod K mg (Hv s₁.heap H):=⟨hKb,nsK hns,⟨mb,nsK hb,hbb⟩,let⟨mc,h1,h2⟩:=hlim;⟨mc,nsK h1,h2⟩⟩
  have e0:Env0 P w K mg (Hv s₁.heap H) callerA [] s₁ H:=⟨rfl,hM,λb o e=>ZJn e,Nat.le_of_eq (ZG0 _ _),trivial,λb hb=>absurd (show b∈([]:List jx)from hb) (by simp),hok,.of_eq hg⟩
  refine jE ((F _ hKb (nsK hns)).run callerA [] s₁ H ⟨[.ref a],[]⟩ [.ref a] [.ref a] _ _ hr e0 (hbind s₁ (.ref a)) (.cons rfl .nil) (hsp H hO hS)) λr s' h=>?_
  cases r with
  |error e=>exact(hCX H e s' h).elim
  | ok fl=>
   cases fl with
   |next=>exact False.elim h
   |brk=>exact False.elim h
   |cont=>exact False.elim h
   | ret u=>
    obtain⟨v,H',os,bare,un,hok',r',q⟩:=h;have q':v=.bl xG:=q;subst q';obtain rfl:u=Value.bool xG:=r';refine⟨rfl,OldK.of_keep λb o e=>?_,os,bare⟩;cases q:H b with
    |none=>exact un.keep b o e q (by intro z;exact absurd (show b∈([]:List jx)from z) (by simp)) (by simp)
    |some u=>
     rcases hO b with z|⟨ob,xs,z⟩
     ·rw[q]at z;cases z
     ·have z2:=un.frzs b ob _ z;obtain⟨e1,_⟩:=hok b _ z;obtain⟨e2,_⟩:=hok' b _ z2;rw[e]at e1;cases e1;exact e2
 cases hk:K.lookup a with
 |some o=>
  have e:=KX a o hk;rw[ha]at e;cases e;refine core (λ_=>xF) (λ_=>.inl rfl) (.inr ⟨_,vs.toArray,_,hk,rfl,rfl,rfl,by rw[zW,lenV];exact hl,by simpa using rv⟩) (λb u z=>by have z':(xF:Option HO)=xE u:=z;cases z') (λb z=>absurd rfl z) λz=>absurd rfl z
 | none=>
  refine core (λb=>if b=a then xE (.frz {cls:=.type "list",data:=.seq vs.toArray} (.lst (ns.map V.int)))else xF) (λb=>?_) (.inl (.inr ⟨{cls:=.type "list",data:=.seq vs.toArray},if_pos rfl⟩)) (λb u z=>?_) (λb z=>?_) λ_=>hk
  ·by_cases hb:b=a
   ·exact .inr ⟨_,_,if_pos hb⟩
   ·exact .inl (if_neg hb)
  ·by_cases hb:b=a
   ·have z':=(if_pos hb).symm.trans z;cases z';subst hb;exact⟨ha,by rw[zw];exact hl,vs,_,rv,ha⟩
   ·have z':=(if_neg hb).symm.trans z;cases z'
  ·by_cases hb:b=a
   ·exact hb
   ·exact absurd (if_neg hb) z
noncomputable def Hm(s:j4):Arguments:=match s with
 |.FunctionDef _ a _ _ _ _ _ _ _ _=>a
 |_=>{posonlyargs:=[],args:=[],vararg:=xF,kwonlyargs:=[],kw_defaults:=[],kwarg:=xF,defaults:=[]}
noncomputable def Eh(s:j4):List j4:=match s with
 |.FunctionDef _ _ b _ _ _ _ _ _ _=>b
 |_=>[]
noncomputable def Aw(s:j4):j2:=match s with
 |.FunctionDef _ _ _ _ _ _ sc _ _ _=>sc
 |_=>{kind:=.function,names:=[],isGenerator:=xH,isCoroutine:=xH}
noncomputable abbrev CX0:CXT:=λ_ _ _ _ _ _=>False
noncomputable abbrev E0:XK:=λ_ _ _=>False
theorem pass0{X:Cx}:Passes CX0 X E0:=λ_ _ _ _ _ _ _ h=>h.elim
structure Fun (K:PySem.W.Frag) (x qual:Str) (st:j4) (f:jx) (fd:jy):Prop where
 ex:∃(oc:j5)(od:Option jx)(kV doc pm:j5)(an:Option jx)(cdv ct:j5)(osl:Array (Option j5)),
  fd=PySem.W.fnOf x qual (Hm st) (Eh st) (Aw st) .none kV doc pm an cdv ct/\K.lookup f=xE ⟨oc,od,.func fd,osl⟩/\PySem.W.codeIn K cdv qual=xG
 kp:PySem.W.keepIn K (.ref f)=xG
section
variable{P:j1}{w:j6}{K:PySem.W.Frag}{mg:Str->Option j5}{base:Heap}
theorem Fun.ok{qual:Str}{st:j4}{f:jx}{N ps:List Str}{k:Nat}{sp:Sp}(F:Fun K x qual st f fd)(S:FnScope N ps (Aw st))(len:∀vs H Q E,sp vs H Q E->vs.length=ps.length)
  (hbody:∀(cdv:j5)(A:jv)(outer:List Env)(s:j3)(H:Hp)(vs:List V)(Q:VK)(E:XK),Room k (A.deeper (envOfC qual (Aw st) s.heap.objs.size f cdv))->sp vs H Q E->
   ∃t,PSs (Fy CX0 P w K mg base N qual (Aw st) f cdv A outer s H E).nox (Eh st) t/\t {nx:=λ_ H'=>Q .non H',rt:=Q} (start N vs) H):FnOk P w K mg base CX0 (k+1) f fd ps sp:=by
 obtain⟨oc,od,kV,doc,pm,an,cdv,ct,osl,rfl,lk,hcd⟩:=F.ex;refine ZBd lk hcd S len λA outer s H vs Q E hr hsp=>?_
 obtain⟨t,h,q⟩:=hbody cdv A outer s H vs Q E hr hsp;exact⟨t,h.nox,q⟩
theorem Fun.binds{qual:Str}{st:j4}{f:jx}{ps:List Str}(F:Fun K x qual st f fd)
  (h:∀(kV doc pm:j5)(an:Option jx)(cdv ct:j5)(us:List j5),us.length=ps.length->bindArgs (PySem.W.fnOf x qual (Hm st) (Eh st) (Aw st) .none kV doc pm an cdv ct) ⟨us,[]⟩=pure (ps.zip us)):Binds K fd ps []:=by
 obtain⟨oc,od,kV,doc,pm,an,cdv,ct,osl,rfl,lk,hcd⟩:=F.ex;exact .all (h kV doc pm an cdv ct)
end
section
variable{X:Cx}
theorem pv(i:Nat){pos:Pos}(hN:X.N[i]?=xE x:=by rfl)(hv:Vis X.env.scope x:=by first|exact Or.inl rfl|exact Or.inr (Or.inl rfl)|exact Or.inr (Or.inr rfl))(hd:(x==("__debug__":Str))=xH:=by decide)
  (hcd:(x==("__classdict__":Str))=xH:=by decide):PE X (.Name x pos) (K3 i):=O6 hN hv hd hcd
end
section
variable{κ:Type}[DecidableEq κ]
end
section
variable{P:j1}{w:j6}{H:Hp}{h:Heap}{a:jx}
end
section
variable{X:Cx}{xD:List (jx×Obj)}{σ:St}{H:Hp}{s:j3}{a:jx}{y v:V}{u r:j5}{o:Option V}{A:jv}{E:j5->j3->Prop}
end
section
variable{X:Cx}{xD:List (jx×Obj)}{σ:St}{H:Hp}{s:j3}{a:jx}{kvs:List (Key×V)}{k:Key}{u:j5}{A:jv}{E:j5->j3->Prop}
end
section
variable{X:Cx}{o i e value:jk}{pos pos' tpos:Pos}{td ty tv:TE}
end
section
variable{X:Cx}{pos:Pos}
end
section
variable{X:Cx}{xD:List (jx×Obj)}{σ:St}{H:Hp}{s:j3}{a:jx}{y d:V}{u r:j5}{o:Option V}{A:jv}{E:j5->j3->Prop}
end
section
variable{X:Cx}{o e f:jk}{apos cpos:Pos}{td ty tx:TE}
end
section
variable{X:Cx}{xD:List (jx×Obj)}{σ:St}{H:Hp}{s:j3}{a:jx}{kvs:List (Key×V)}{A:jv}{E:j5->j3->Prop}
end
section
variable{X:Cx}{xD:List (jx×Obj)}{σ:St}{H:Hp}{s:j3}{a:jx}{y:V}{u:j5}{A:jv}{E:j5->j3->Prop}
end
section
variable{X:Cx}
end
end _L
namespace _L
section
variable{κ:Type}[DecidableEq κ]
end
end _L
namespace _D
open PySem PySem.Spec _L
open PyProof.Rows hiding St
variable{α:Type}{H:Hp}{p:jx}{v:V}{vs:List V}{σ:St}{E:XK}{Q:VK}{W:Ends}{e:jk}{ho:HO}{i j k nt:Nat}{x:Str}{op:CmpOp}{A:jv}{s:j3}{P:j1}{w:j6}{scope:j2}{env:Env}{X:Cx}{lo hi:Option Int}
inductive D where
 |non|bl (b:Bool)|int (i:Int)|str (x:Str)|ty (n:String)
 |tup (xs:List D)
 |fl (xs:List D)
 |ref (i:Nat)
variable{d:D}{ds xs:List D}
inductive DO where
 |lst (xs:List D)
 |dct (kvs:List (Key×D))
 |ins (c:Str) (fs:List (Str×D))
 |tab (c m:Str)
 |exc (c:Str) (fs:List (Str×D))
 |gone
variable{o:DO}
noncomputable abbrev DH:=List DO
variable{G G' L:DH}
noncomputable abbrev DSt:=List (Option D)
variable{S:DSt}
structure Xn where
 cls:Str
 fs:List (Str×D)
inductive R (α:Type) where
 |ok (a:α) (G:DH)
 |err (x:Xn) (G:DH)
 |bad
variable{r:R D}{f:D->D->DH->R D}
noncomputable def R.bind{α β:Type}(r:R α)(f:α->DH->R β):R β:=match r with
 |.ok a G=>f a G
 |.err x G=>.err x G
 |.bad=>.bad
@[simp]theorem R.ZCb{β:Type}(a:α)(G:DH)(f:α->DH->R β):(R.ok a G).bind f=f a G:=id rfl
inductive SR where
 |nx (S:DSt) (G:DH)
 |rt (d:D) (G:DH)
 |bk (S:DSt) (G:DH)
 |ct (S:DSt) (G:DH)
 |err (x:Xn) (G:DH)
 |bad
noncomputable abbrev DE:=DSt->DH->R D
variable{t te:DE}
noncomputable abbrev DB:=DSt->DH->R Bool
noncomputable abbrev DA:=DSt->DH->R (List D)
noncomputable abbrev DS:=DSt->DH->SR
variable{u:DS}
def FzL(K:PySem.W.Frag)(H:Hp)(a:jx)(xs:List V):Prop:=
 (∃o,H a=xE (.frz o (.lst xs)))∨
  ∃(o:Obj)(its:Array j5)(n:Nat),K.lookup a=xE o/\o.cls=.type "list"/\o.dict=xF/\o.data=.seq its n/\its.size<=sizeLine/\Vals xs its.toList
theorem FzL.sq{K:PySem.W.Frag}{a:jx}{xs:List V}(h:FzL K H a xs):SqL K H a xs:=by
 rcases h with⟨o,h⟩|h
 ·exact .inl (.inr ⟨o,h⟩)
 ·exact .inr h
structure Wd where
 K:PySem.W.Frag
 n:Nat
 m:Nat->jx
 H:Hp
variable{a b c:Wd}
mutual
def Rep(a:Wd):D->V->Prop
 |.non,v=>v=.non
 |.bl b,v=>v=.bl b
 |.int i,v=>v=.int i
 |.str x,v=>v=.str x
 |.ty n,v=>v=.ty n
 |.tup ds,v=>∃p vs,v=.ref p/\SqT a.K a.H p vs/\Reps a ds vs
 |.fl ds,v=>∃p vs,v=.ref p/\FzL a.K a.H p vs/\Reps a ds vs
 |.ref i,v=>i<a.n/\v=.ref (a.m i)
def Reps(a:Wd):List D->List V->Prop
 |[],vs=>vs=[]
 |d::ds,vs=>∃v r,vs=v::r/\Rep a d v/\Reps a ds r
end
noncomputable def lamQ:Str:="Sending.send_by.<locals>.<lambda>"
def TabOk(H:Hp)(P:jx):Prop:=
 ∃ps:Array j5,H P=xE (.tbl ps)/\TriplesOk ps.toList/\∀pos cv,codeAmong pos ps.toList=xE cv->∃(c:jx)(oc:Obj)(vs:Array j5)(t:Tok),cv=.ref c/\H c=xE (.frz oc (.own 0))/\oc.data=.fields vs/\vs[1]?=xE (.str lamQ t)
theorem TabOk.mono{H':Hp}{P:jx}(h:TabOk H P)(ht:∀p ps,H p=xE (.tbl ps)->H' p=xE (.tbl ps))(hf:∀p o u,H p=xE (.frz o u)->H' p=xE (.frz o u)):TabOk H' P:=by obtain⟨ps,e,t,k⟩:=h;refine⟨ps,ht _ _ e,t,λpos cv hc=>?_⟩;obtain⟨c,oc,vs,tk,e1,e2,e3,e4⟩:=k pos cv hc;exact⟨c,oc,vs,tk,e1,hf _ _ _ e2,e3,e4⟩
def TabAt(K:PySem.W.Frag)(C m:Str)(c P:jx):Prop:=
 ∃(Ca f:jx)(oc:j5)(od:Option jx)(fd:jy)(sl:Array (Option j5)),PySem.W.nsIn K jR C=xE (xE (.ref Ca))/\PySem.W.findIn K (.ref Ca) m=xE (xE (.ref f))/\K.lookup f=xE ⟨oc,od,.func fd,sl⟩/\fd.code=.ref c/\PySem.W.codeHdIn K c P=xG
structure Ext (a b:Wd):Prop where
 k:b.K=a.K
 n:a.n<=b.n
 m:∀i,i<a.n->b.m i=a.m i
 tup:∀p xs,a.H p=xE (.tup xs)->b.H p=xE (.tup xs)
 frz:∀p o u,a.H p=xE (.frz o u)->b.H p=xE (.frz o u)
 tab:∀p,TabOk a.H p->TabOk b.H p
theorem Ext.refl(a:Wd):Ext a a:=⟨rfl,zK _,λ_ _=>rfl,λ_ _ h=>h,λ_ _ _ h=>h,λ_ h=>h⟩
theorem Ext.trans(x:Ext a b)(y:Ext b c):Ext a c:=
 ⟨y.k.trans x.k,z0 x.n y.n,λi h=>(y.m i (zZ h x.n)).trans (x.m i h),λp xs h=>y.tup p xs (x.tup p xs h),λp o u h=>y.frz p o u (x.frz p o u h),λp h=>y.tab p (x.tab p h)⟩
theorem Ext.sqT(x:Ext a b){xs:List V}(h:SqT a.K a.H p xs):SqT b.K b.H p xs:=by
 rcases h with(h|⟨o,h⟩)|h
 ·exact .inl (.inl (x.tup _ _ h))
 ·exact .inl (.inr ⟨o,x.frz _ _ _ h⟩)
 ·exact .inr (by rw[x.k];exact h)
theorem Ext.fzL(x:Ext a b){xs:List V}(h:FzL a.K a.H p xs):FzL b.K b.H p xs:=by
 rcases h with⟨o,h⟩|h
 ·exact .inl ⟨o,x.frz _ _ _ h⟩
 ·exact .inr (by rw[x.k];exact h)
mutual
theorem Rep.mono(x:Ext a b):∀{d:D}{v:V},Rep a d v->Rep b d v
 |.non,_,h=>h
 |.bl _,_,h=>h
 |.int _,_,h=>h
 |.str _,_,h=>h
 |.ty _,_,h=>h
 |.tup ds,v,h=>by obtain⟨p,vs,e,q,r⟩:=h;exact⟨p,vs,e,x.sqT q,Reps.mono x r⟩
 |.fl ds,v,h=>by obtain⟨p,vs,e,q,r⟩:=h;exact⟨p,vs,e,x.fzL q,Reps.mono x r⟩
 |.ref i,v,h=>by obtain⟨l,e⟩:=h;exact⟨zZ l x.n,by rw[x.m i l];exact e⟩
theorem Reps.mono(x:Ext a b):∀{ds:List D}{vs:List V},Reps a ds vs->Reps b ds vs
 |[],_,h=>h
 |d::ds,vs,h=>by obtain⟨v,r,e,h1,h2⟩:=h;exact⟨v,r,e,Rep.mono x h1,Reps.mono x h2⟩
end
theorem Reps.length:∀{ds:List D}{vs:List V},Reps a ds vs->ds.length=vs.length
 |[],vs,h=>by cases(show vs=[]from h);rfl
 |d::ds,vs,h=>by obtain⟨v,r,e,h1,h2⟩:=h;subst e;show ds.length+1=r.length+1;rw[Reps.length h2]
theorem Reps.get:∀{ds:List D}{vs:List V}{i:Nat}{d:D},Reps a ds vs->ds[i]?=xE d->∃v,vs[i]?=xE v/\Rep a d v
 |[],vs,_,_,h,e=>by simp at e
 |d::ds,vs,0,d',h,e=>by obtain⟨v,r,e1,h1,h2⟩:=h;subst e1;simp at e;subst e;exact⟨v,rfl,h1⟩
 |d::ds,vs,i+1,d',h,e=>by obtain⟨v,r,e1,h1,h2⟩:=h;subst e1;obtain⟨w,e2,h3⟩:=Reps.get (i:=i) (d:=d') h2 (by simpa using e);exact⟨w,by simpa using e2,h3⟩
theorem Reps.get':∀{ds:List D}{vs:List V}{i:Nat}{v:V},Reps a ds vs->vs[i]?=xE v->∃d,ds[i]?=xE d/\Rep a d v
 |[],vs,_,_,h,e=>by cases(show vs=[]from h);simp at e
 |d::ds,vs,0,v',h,e=>by obtain⟨v,r,e1,h1,h2⟩:=h;subst e1;simp at e;subst e;exact⟨d,rfl,h1⟩
 |d::ds,vs,i+1,v',h,e=>by obtain⟨v,r,e1,h1,h2⟩:=h;subst e1;obtain⟨w,e2,h3⟩:=Reps.get' (i:=i) (v:=v') h2 (by simpa using e);exact⟨w,by simpa using e2,h3⟩
theorem Reps.append:∀{ds es:List D}{vs us:List V},Reps a ds vs->Reps a es us->Reps a (ds++es) (vs++us)
 |[],_,vs,_,h,h'=>by cases(show vs=[]from h);exact h'
 |d::ds,es,vs,us,h,h'=>by obtain⟨v,r,e1,h1,h2⟩:=h;subst e1;exact⟨v,r++us,rfl,h1,Reps.append h2 h'⟩
theorem Reps.cons(h:Rep a d v)(r:Reps a ds vs):Reps a (d::ds) (v::vs):=⟨v,vs,rfl,h,r⟩
theorem Reps.nil:Reps a [] []:=rfl
theorem Reps.take:∀{ds:List D}{vs:List V}(i:Nat),Reps a ds vs->Reps a (ds.take i) (vs.take i)
 |_,_,0,_=>rfl
 |[],vs,_+1,r=>by cases(show vs=[]from r);exact rfl
 |d'::ds,vs,i+1,r=>by obtain⟨v',r',e1,h1,h2⟩:=r;subst e1;exact⟨v',r'.take i,rfl,h1,Reps.take i h2⟩
theorem Reps.drop:∀{ds:List D}{vs:List V}(i:Nat),Reps a ds vs->Reps a (ds.drop i) (vs.drop i)
 |_,_,0,r=>r
 |[],vs,_+1,r=>by cases(show vs=[]from r);exact rfl
 |d'::ds,vs,i+1,r=>by obtain⟨v',r',e1,h1,h2⟩:=r;subst e1;exact Reps.drop i h2
theorem Reps.ints:∀(ns:List Int),Reps a (ns.map D.int) (ns.map V.int)
 |[]=>rfl
 |n::ns=>⟨.int n,ns.map V.int,rfl,rfl,Reps.ints ns⟩
def RepKV(a:Wd)(kvs:List (Key×D))(us:List (Key×V)):Prop:=kvs.map (·.1)=us.map (·.1)/\Reps a (kvs.map (·.2)) (us.map (·.2))
def RepF(a:Wd)(fs:List (Str×D))(us:List (Str×V)):Prop:=fs.map (·.1)=us.map (·.1)/\Reps a (fs.map (·.2)) (us.map (·.2))
def XD(a:Wd)(od:Option jx)(fs:List (Str×D)):Prop:=(fs=[]/\od=xF)∨∃dx o us,od=xE dx/\a.H dx=xE (.frz o (.xd us))/\RepF a fs us
def ORep(a:Wd):DO->Option HO->Prop
 |.lst ds,o=>∃vs,o=xE (.lst vs)/\Reps a ds vs
 |.dct kvs,o=>∃us,o=xE (.dK us)/\RepKV a kvs us
 |.ins c fs,o=>∃C dx us,PySem.W.nsIn a.K jR c=xE (xE (.ref C))/\o=xE (.ins C dx us)/\RepF a fs us
 |.tab C m,_=>∃c P,TabAt a.K C m c P/\TabOk a.H P
 |.exc c fs,o=>∃C oe u vs,PySem.W.nsIn a.K jR c=xE (xE (.ref C))/\o=xE (.frz oe u)/\oe.cls=.ref C/\oe.data=.fields vs/\XD a oe.dict fs
 |.gone,_=>True
structure Sim (a:Wd) (G:DH):Prop where
 len:G.length=a.n
 inj:∀i j,i<a.n->j<a.n->a.m i=a.m j->i=j
 obj:∀(i:Nat)(o:DO),G[i]?=xE o->ORep a o (a.H (a.m i))
 tr:∀i,i<a.n->a.H (a.m i)≠xF
structure RepS (a:Wd) (S:DSt) (σ:St):Prop where
 len:S.length=σ.length
 get:∀(i:Nat)(d:D),S[i]?=xE (xE d)->∃v,σ[i]?=xE (xE v)/\Rep a d v
theorem RepS.mono(x:Ext a b)(r:RepS a S σ):RepS b S σ:=⟨r.len,λi d h=>let⟨v,e,q⟩:=r.get i d h;⟨v,e,q.mono x⟩⟩
theorem RepS.set(r:RepS a S σ)(i:Nat)(h:Rep a d v):RepS a (S.set i (xE d)) (σ.set i (xE v)):=by
 refine⟨by simpa using r.len,λj e he=>?_⟩;rw[qq]at he⊢;by_cases hij:i=j
 ·subst hij;rw[if_pos rfl]at he⊢;by_cases hl:i<S.length
  ·rw[if_pos hl]at he;have e1:d=e:=by simpa using he
   subst e1;rw[if_pos (by rw[<-r.len];exact hl)];exact⟨v,rfl,h⟩
  ·rw[if_neg hl]at he;cases he
 ·rw[if_neg hij]at he⊢;exact r.get j e he
def XOk(E:XK)(a:Wd)(x:Xn)(G:DH):Prop:=E≠E0/\∀(b:Wd)(C:jx)(od:Option jx),Ext a b->Sim b G->PySem.W.nsIn b.K jR x.cls=xE (xE (.ref C))->XD b od x.fs->E (.ref C) od b.H
def out(E:XK)(a:Wd)(r:R D)(Q:VK):Prop:=match r with
 |.ok d G=>∀(b:Wd)(v:V),Ext a b->Sim b G->Rep b d v->Q v b.H
 |.err x G=>XOk E a x G
 |.bad=>False
def Ea(E:XK)(a:Wd)(r:R Bool)(Q:Bool->Hp->Prop):Prop:=match r with
 |.ok k G=>∀(b:Wd),Ext a b->Sim b G->Q k b.H
 |.err x G=>XOk E a x G
 |.bad=>False
def Eb(E:XK)(a:Wd)(r:R (List D))(Q:List V->Hp->Prop):Prop:=match r with
 |.ok ds G=>∀(b:Wd)(vs:List V),Ext a b->Sim b G->Reps b ds vs->Q vs b.H
 |.err x G=>XOk E a x G
 |.bad=>False
def Bx(E:XK)(a:Wd)(r:SR)(W:Ends):Prop:=match r with
 |.nx S G=>∀(b:Wd)(σ:St),Ext a b->Sim b G->RepS b S σ->W.nx σ b.H
 |.bk S G=>∀(b:Wd)(σ:St),Ext a b->Sim b G->RepS b S σ->W.bk σ b.H
 |.ct S G=>∀(b:Wd)(σ:St),Ext a b->Sim b G->RepS b S σ->W.ct σ b.H
 |.rt d G=>∀(b:Wd)(v:V),Ext a b->Sim b G->Rep b d v->W.rt v b.H
 |.err x G=>XOk E a x G
 |.bad=>False
theorem XOk.mono(x:Ext a b){e:Xn}(h:XOk E a e G):XOk E b e G:=⟨h.1,λc C od y s n q=>h.2 c C od (x.trans y) s n q⟩
theorem out.mono(x:Ext a b)(h:out E a r Q):out E b r Q:=by
 cases r with
 |ok d G=>exact λc v y s q=>h c v (x.trans y) s q
 |err e G=>exact XOk.mono (E:=E) (e:=e) (G:=G) x h
 |bad=>exact h
theorem Ea.mono(x:Ext a b){r:R Bool}{Q:Bool->Hp->Prop}(h:Ea E a r Q):Ea E b r Q:=by
 cases r with
 |ok d G=>exact λc y s=>h c (x.trans y) s
 |err e G=>exact XOk.mono (E:=E) (e:=e) (G:=G) x h
 |bad=>exact h
theorem Eb.mono(x:Ext a b){r:R (List D)}{Q:List V->Hp->Prop}(h:Eb E a r Q):Eb E b r Q:=by
 cases r with
 |ok d G=>exact λc vs y s q=>h c vs (x.trans y) s q
 |err e G=>exact XOk.mono (E:=E) (e:=e) (G:=G) x h
 |bad=>exact h
theorem Bx.mono(x:Ext a b){r:SR}(h:Bx E a r W):Bx E b r W:=by
 cases r with
 |nx d G=>exact λc vs y s q=>h c vs (x.trans y) s q
 |bk d G=>exact λc vs y s q=>h c vs (x.trans y) s q
 |ct d G=>exact λc vs y s q=>h c vs (x.trans y) s q
 |rt d G=>exact λc vs y s q=>h c vs (x.trans y) s q
 |err e G=>exact XOk.mono (E:=E) (e:=e) (G:=G) x h
 |bad=>exact h
def lE(K:PySem.W.Frag)(E:XK)(t:DE):TE:=λσ H Q=>∃(a:Wd)(S:DSt)(G:DH),a.K=K/\a.H=H/\Sim a G/\RepS a S σ/\out E a (t S G) Q
def lB(K:PySem.W.Frag)(E:XK)(t:DB):TT:=λσ H Q=>∃(a:Wd)(S:DSt)(G:DH),a.K=K/\a.H=H/\Sim a G/\RepS a S σ/\Ea E a (t S G) Q
def lA(K:PySem.W.Frag)(E:XK)(t:DA):TA:=λσ H Q=>∃(a:Wd)(S:DSt)(G:DH),a.K=K/\a.H=H/\Sim a G/\RepS a S σ/\Eb E a (t S G) Q
def lS(K:PySem.W.Frag)(E:XK)(t:DS):TS:=λW σ H=>∃(a:Wd)(S:DSt)(G:DH),a.K=K/\a.H=H/\Sim a G/\RepS a S σ/\Bx E a (t S G) W
def lR2(K:PySem.W.Frag)(E:XK)(f:D->D->DH->R D):R2:=λx y H Q=>∃(a:Wd)(G:DH)(d e:D),a.K=K/\a.H=H/\Sim a G/\Rep a d x/\Rep a e y/\out E a (f d e G) Q
def lR1(K:PySem.W.Frag)(E:XK)(f:D->DH->R D):V->Hp->VK->Prop:=λx H Q=>∃(a:Wd)(G:DH)(d:D),a.K=K/\a.H=H/\Sim a G/\Rep a d x/\out E a (f d G) Q
def lRn(K:PySem.W.Frag)(E:XK)(f:List D->DH->R D):List V->Hp->VK->Prop:=λxs H Q=>∃(a:Wd)(G:DH)(ds:List D),a.K=K/\a.H=H/\Sim a G/\Reps a ds xs/\out E a (f ds G) Q
def lF(K:PySem.W.Frag)(f:List D->DH->R D):Sp:=λxs H Q _=>∃(a:Wd)(G:DH)(ds:List D),a.K=K/\a.H=H/\Sim a G/\Reps a ds xs/\out E0 a (f ds G) Q
def lFx(K:PySem.W.Frag)(f:List D->DH->R D):Sp:=λxs H Q E=>∃(a:Wd)(G:DH)(ds:List D),a.K=K/\a.H=H/\Sim a G/\Reps a ds xs/\out E a (f ds G) Q
section
variable{X:Cx}{E:XK}
def QE(X:Cx)(E:XK)(e:jk)(t:DE):Prop:=PE X e (lE X.K E t)
def QT(X:Cx)(E:XK)(e:jk)(t:DB):Prop:=PT X e (lB X.K E t)
def QA(X:Cx)(E:XK)(es:List jk)(t:DA):Prop:=PA X es (lA X.K E t)
def QS(X:Cx)(E:XK)(st:j4)(t:DS):Prop:=PS X st (lS X.K E t)
def QSs(X:Cx)(E:XK)(st:List j4)(t:DS):Prop:=PSs X st (lS X.K E t)
theorem _root_._L.PE.mono{t t':TE}(h:PE X e t)(w:∀σ H Q,t' σ H Q->t σ H Q):PE X e t':=λxD s σ H Q I q=>h xD s σ H Q I (w σ H Q q)
theorem _root_._L.PT.mono{t t':TT}(h:PT X e t)(w:∀σ H Q,t' σ H Q->t σ H Q):PT X e t':=λxD s σ H Q I q=>h xD s σ H Q I (w σ H Q q)
theorem _root_._L.PA.mono{e:List jk}{t t':TA}(h:PA X e t)(w:∀σ H Q,t' σ H Q->t σ H Q):PA X e t':=λpos xD s σ H Q I q=>h pos xD s σ H Q I (w σ H Q q)
theorem _root_._L.PS.mono{e:j4}{t t':TS}(h:PS X e t)(w:∀W σ H,t' W σ H->t W σ H):PS X e t':=λxD s σ H W I q=>h xD s σ H W I (w W σ H q)
theorem _root_._L.PSs.mono{e:List j4}{t t':TS}(h:PSs X e t)(w:∀W σ H,t' W σ H->t W σ H):PSs X e t':=λxD s σ H W I q=>h xD s σ H W I (w W σ H q)
theorem _root_._L.OpR.mono{f:j5->j5->Sem j5}{r r':R2}(h:OpR X f r)(w:∀x y H Q,r' x y H Q->r x y H Q):OpR X f r':=λxD s σ H x y v u Q I rx ry q=>h xD s σ H x y v u Q I rx ry (w _ _ _ _ q)
end
theorem Dz{f:D->DH->R D}(h:out E a (r.bind f) Q):
  out E a r (λv H=>∃(b:Wd)(d:D)(G:DH),b.H=H/\Ext a b/\Sim b G/\Rep b d v/\r=.ok d G/\out E b (f d G) Q):=by
 cases r with
 |ok d G=>exact λb v x s q=>⟨b,d,G,rfl,x,s,q,rfl,out.mono x h⟩
 |err e G=>exact h
 |bad=>exact h
theorem O5{r:R (List D)}{f:List D->DH->R D}(h:out E a (r.bind f) Q):
  Eb E a r (λvs H=>∃(b:Wd)(ds:List D)(G:DH),b.H=H/\Ext a b/\Sim b G/\Reps b ds vs/\r=.ok ds G/\out E b (f ds G) Q):=by
 cases r with
 |ok d G=>exact λb v x s q=>⟨b,d,G,rfl,x,s,q,rfl,out.mono x h⟩
 |err e G=>exact h
 |bad=>exact h
theorem ZGK{r:R Bool}{f:Bool->DH->R D}(h:out E a (r.bind f) Q):
  Ea E a r (λk H=>∃(b:Wd)(G:DH),b.H=H/\Ext a b/\Sim b G/\r=.ok k G/\out E b (f k G) Q):=by
 cases r with
 |ok d G=>exact λb x s=>⟨b,G,rfl,x,s,rfl,out.mono x h⟩
 |err e G=>exact h
 |bad=>exact h
theorem ZD4{f:D->DH->R Bool}{Q:Bool->Hp->Prop}(h:Ea E a (r.bind f) Q):
  out E a r (λv H=>∃(b:Wd)(d:D)(G:DH),b.H=H/\Ext a b/\Sim b G/\Rep b d v/\r=.ok d G/\Ea E b (f d G) Q):=by
 cases r with
 |ok d G=>exact λb v x s q=>⟨b,d,G,rfl,x,s,q,rfl,Ea.mono x h⟩
 |err e G=>exact h
 |bad=>exact h
theorem Ws{r:R Bool}{f:Bool->DH->R Bool}{Q:Bool->Hp->Prop}(h:Ea E a (r.bind f) Q):
  Ea E a r (λk H=>∃(b:Wd)(G:DH),b.H=H/\Ext a b/\Sim b G/\r=.ok k G/\Ea E b (f k G) Q):=by
 cases r with
 |ok d G=>exact λb x s=>⟨b,G,rfl,x,s,rfl,Ea.mono x h⟩
 |err e G=>exact h
 |bad=>exact h
theorem ZEd{f:D->DH->R (List D)}{Q:List V->Hp->Prop}(h:Eb E a (r.bind f) Q):
  out E a r (λv H=>∃(b:Wd)(d:D)(G:DH),b.H=H/\Ext a b/\Sim b G/\Rep b d v/\r=.ok d G/\Eb E b (f d G) Q):=by
 cases r with
 |ok d G=>exact λb v x s q=>⟨b,d,G,rfl,x,s,q,rfl,Eb.mono x h⟩
 |err e G=>exact h
 |bad=>exact h
theorem ZJy{r:R (List D)}{f:List D->DH->R (List D)}{Q:List V->Hp->Prop}(h:Eb E a (r.bind f) Q):
  Eb E a r (λvs H=>∃(b:Wd)(ds:List D)(G:DH),b.H=H/\Ext a b/\Sim b G/\Reps b ds vs/\r=.ok ds G/\Eb E b (f ds G) Q):=by
 cases r with
 |ok d G=>exact λb v x s q=>⟨b,d,G,rfl,x,s,q,rfl,Eb.mono x h⟩
 |err e G=>exact h
 |bad=>exact h
noncomputable def R.toS{α:Type}(r:R α)(f:α->DH->SR):SR:=match r with
 |.ok a G=>f a G
 |.err x G=>.err x G
 |.bad=>.bad
@[simp]theorem R.Gu(a:α)(G:DH)(f:α->DH->SR):(R.ok a G).toS f=f a G:=id rfl
theorem Tn{f:D->DH->SR}(h:Bx E a (r.toS f) W):
  out E a r (λv H=>∃(b:Wd)(d:D)(G:DH),b.H=H/\Ext a b/\Sim b G/\Rep b d v/\r=.ok d G/\Bx E b (f d G) W):=by
 cases r with
 |ok d G=>exact λb v x s q=>⟨b,d,G,rfl,x,s,q,rfl,Bx.mono x h⟩
 |err e G=>exact h
 |bad=>exact h
theorem ZF5{r:R Bool}{f:Bool->DH->SR}(h:Bx E a (r.toS f) W):
  Ea E a r (λk H=>∃(b:Wd)(G:DH),b.H=H/\Ext a b/\Sim b G/\r=.ok k G/\Bx E b (f k G) W):=by
 cases r with
 |ok d G=>exact λb x s=>⟨b,G,rfl,x,s,rfl,Bx.mono x h⟩
 |err e G=>exact h
 |bad=>exact h
section
theorem out.imp{Q':VK}(h:out E a r Q)(w:∀v H,Q v H->Q' v H):out E a r Q':=by
 cases r with
 |ok d G=>exact λb v x s q=>w _ _ (h b v x s q)
 |err e G=>exact h
 |bad=>exact h
theorem Eb.imp{r:R (List D)}{Q Q':List V->Hp->Prop}(h:Eb E a r Q)(w:∀v H,Q v H->Q' v H):Eb E a r Q':=by
 cases r with
 |ok d G=>exact λb v x s q=>w _ _ (h b v x s q)
 |err e G=>exact h
 |bad=>exact h
theorem Ea.imp{r:R Bool}{Q Q':Bool->Hp->Prop}(h:Ea E a r Q)(w:∀v H,Q v H->Q' v H):Ea E a r Q':=by
 cases r with
 |ok d G=>exact λb x s=>w _ _ (h b x s)
 |err e G=>exact h
 |bad=>exact h
def Wd.push(a:Wd)(p:jx)(ho:HO):Wd:=⟨a.K,a.n+1,λk=>if k=a.n then p else a.m k,upd a.H p ho⟩
def Wd.put(a:Wd)(p:jx)(ho:HO):Wd:={a with H:=upd a.H p ho}
theorem Ext.put(h:a.H p=xF):Ext a (a.put p ho):=
 ⟨rfl,zK _,λ_ _=>rfl,λq xs e=>by show upd a.H p ho q=_;rw[Az (Fp e h)];exact e,λq o u e=>by show upd a.H p ho q=_;rw[Az (Fp e h)];exact e,λ_ t=>t.mono (λq ps e=>by show upd a.H p ho q=_;rw[Az (Fp e h)];exact e) (λq o u e=>by show upd a.H p ho q=_;rw[Az (Fp e h)];exact e)⟩
theorem Ext.push(h:a.H p=xF):Ext a (a.push p ho):=
 ⟨rfl,qC _,λi hi=>by show(if i=a.n then p else a.m i)=a.m i;rw[if_neg (zC hi)],λq xs e=>by show upd a.H p ho q=_;rw[Az (Fp e h)];exact e,λq o u e=>by show upd a.H p ho q=_;rw[Az (Fp e h)];exact e,λ_ t=>t.mono (λq ps e=>by show upd a.H p ho q=_;rw[Az (Fp e h)];exact e) (λq o u e=>by show upd a.H p ho q=_;rw[Az (Fp e h)];exact e)⟩
theorem XD.mono(x:Ext a b){od:Option jx}{fs:List (Str×D)}(h:XD a od fs):XD b od fs:=by
 rcases h with h|⟨dx,o,us,e,f,k,r⟩
 ·exact .inl h
 ·exact .inr ⟨dx,o,us,e,x.frz _ _ _ f,k,r.mono x⟩
theorem ORep.mono(x:Ext a b){q:Option HO}(h:ORep a o q):ORep b o q:=by
 cases o with
 |lst ds=>obtain⟨vs,e,r⟩:=h;exact⟨vs,e,r.mono x⟩
 |dct kvs=>obtain⟨us,e,k,r⟩:=h;exact⟨us,e,k,r.mono x⟩
 |ins c fs=>obtain⟨C,dx,us,n,e,k,r⟩:=h;exact⟨C,dx,us,by rw[x.k];exact n,e,k,r.mono x⟩
 |tab C m=>obtain⟨c,P,e,t⟩:=h;exact⟨c,P,by rw[x.k];exact e,x.tab _ t⟩
 |exc c fs=>obtain⟨C,oe,u,vs,n,e,k1,k2,z⟩:=h;exact⟨C,oe,u,vs,by rw[x.k];exact n,e,k1,k2,z.mono x⟩
 |gone=>trivial
theorem Sim.lt(s:Sim a G)(h:G[i]?=xE o):i<a.n:=by rw[<-s.len];exact(zv.mp h).1
theorem Sim.put(s:Sim a G)(h:a.H p=xF):Sim (a.put p ho) G:=by
 refine⟨s.len,s.inj,λi o e=>?_,λi hi=>?_⟩
 ·have z:a.H (a.m i)≠xF:=s.tr i (s.lt e);have ne:a.m i≠p:=λq=>z (by rw[q];exact h)
  show ORep _ o (upd a.H p ho (a.m i));rw[Az ne];exact(s.obj i o e).mono (Ext.put h)
 ·have z:a.H (a.m i)≠xF:=s.tr i hi;have ne:a.m i≠p:=λq=>z (by rw[q];exact h)
  show upd a.H p ho (a.m i)≠xF;rw[Az ne];exact z
theorem Sim.push(s:Sim a G)(h:a.H p=xF)(r:ORep (a.push p ho) o (xE ho)):Sim (a.push p ho) (G++[o]):=by
 have nep:∀i,i<a.n->a.m i≠p:=λi hi q=>s.tr i hi (by rw[q];exact h)
 have old:∀i,i<a.n->(a.push p ho).m i=a.m i:=λi hi=>by show(if i=a.n then p else a.m i)=_;rw[if_neg (zC hi)]
 have new:(a.push p ho).m a.n=p:=by show(if a.n=a.n then p else a.m a.n)=_;rw[if_pos rfl]
 refine⟨by simp[s.len,Wd.push],λi j hi hj e=>?_,λi u e=>?_,λi hi=>?_⟩
 ·have hi':i<a.n+1:=hi;have hj':j<a.n+1:=hj;by_cases h1:i<a.n
  ·by_cases h2:j<a.n
   ·rw[old i h1,old j h2]at e;exact s.inj i j h1 h2 e
   ·have:j=a.n:=by lia
    subst this;rw[old i h1,new]at e;exact absurd e (nep i h1)
  ·have:i=a.n:=by lia
   subst this;by_cases h2:j<a.n
   ·rw[old j h2,new]at e;exact absurd e.symm (nep j h2)
   ·lia
 ·by_cases h1:i<a.n
  ·rw[zL (by rw[s.len];exact h1)]at e;rw[old i h1];show ORep _ u (upd a.H p ho (a.m i));rw[Az (nep i h1)];exact(s.obj i u e).mono (Ext.push h)
  ·have hl:i<(G++[o]).length:=(zv.mp e).1;have:i=a.n:=by rw[qK,s.len]at hl;simp at hl;lia
   subst this;rw[zA (by rw[s.len];exact zK _),s.len]at e;simp at e;subst e;rw[new];show ORep _ o (upd a.H p ho p);rw[Fw];exact r
 ·have hi':i<a.n+1:=hi;by_cases h1:i<a.n
  ·rw[old i h1];show upd a.H p ho (a.m i)≠xF;rw[Az (nep i h1)];exact s.tr i h1
  ·have:i=a.n:=by lia
   subst this;rw[new];show upd a.H p ho p≠xF;rw[Fw];simp
theorem Ext.wr(h:a.H p=xE (.lst vs)):Ext a (a.put p ho):=
 ⟨rfl,zK _,λ_ _=>rfl,λq xs e=>by
  show upd a.H p ho q=_;rw[Az (λz=>by subst z;rw[h]at e;cases e)];exact e,λq o u e=>by
  show upd a.H p ho q=_;rw[Az (λz=>by subst z;rw[h]at e;cases e)];exact e,λ_ t=>t.mono (λq ps e=>by show upd a.H p ho q=_;rw[Az (λz=>by subst z;rw[h]at e;cases e)];exact e) (λq o u e=>by show upd a.H p ho q=_;rw[Az (λz=>by subst z;rw[h]at e;cases e)];exact e)⟩
theorem Sim.wr(s:Sim a G)(hi:i<a.n){vs':List V}{ds':List D}(h:a.H (a.m i)=xE (.lst vs))(r:Reps (a.put (a.m i) (.lst vs')) ds' vs'):Sim (a.put (a.m i) (.lst vs')) (G.set i (.lst ds')):=by
 refine⟨by rw[jq];exact s.len,s.inj,λj o e=>?_,λj hj=>?_⟩
 ·rw[qq]at e;show ORep _ o (upd a.H (a.m i) (.lst vs') (a.m j));by_cases hij:i=j
  ·subst hij;rw[if_pos rfl,if_pos (by rw[s.len];exact hi)]at e;cases e;rw[Fw];exact⟨vs',rfl,r⟩
  ·rw[if_neg hij]at e;rw[Az λz=>hij (s.inj _ _ (s.lt e) hi z).symm];exact(s.obj j o e).mono (Ext.wr h)
 ·show upd a.H (a.m i) (.lst vs') (a.m j)≠xF;by_cases hij:a.m j=a.m i
  ·rw[hij,Fw];simp
  ·rw[Az hij];exact s.tr j hj
mutual
noncomputable def bel(n:Nat):D->Bool
 |.ref i=>decide (i<n)
 |.tup ds=>bels n ds
 |.fl ds=>bels n ds
 |_=>xG
noncomputable def bels(n:Nat):List D->Bool
 |[]=>xG
 |d::ds=>bel n d&&bels n ds
end
def K7(n:Nat):DO->Bool
 |.lst ds=>bels n ds
 |.dct kvs=>bels n (kvs.map (·.2))
 |.ins _ fs=>bels n (fs.map (·.2))
 |.tab _ _=>xG
 |.exc _ fs=>bels n (fs.map (·.2))
 |.gone=>xG
mutual
theorem Rep.bel:∀{d:D}{v:V},Rep a d v->bel a.n d=xG
 |.non,_,_=>by simp[_D.bel]
 |.bl _,_,_=>by simp[_D.bel]
 |.int _,_,_=>by simp[_D.bel]
 |.str _,_,_=>by simp[_D.bel]
 |.ty _,_,_=>by simp[_D.bel]
 |.tup ds,v,h=>by obtain⟨p,vs,e,q,r⟩:=h;simp only[_D.bel];exact Reps.bels r
 |.fl ds,v,h=>by obtain⟨p,vs,e,q,r⟩:=h;simp only[_D.bel];exact Reps.bels r
 |.ref i,v,h=>by obtain⟨l,e⟩:=h;simp only[_D.bel];exact decide_eq_true l
theorem Reps.bels:∀{ds:List D}{vs:List V},Reps a ds vs->bels a.n ds=xG
 |[],_,_=>by simp[_D.bels]
 |d::ds,vs,h=>by
  obtain⟨v,r,e,h1,h2⟩:=h;simp only[_D.bels];rw[Rep.bel h1,Reps.bels h2]
  rfl
end
structure Cut (b c:Wd):Prop where
 k:c.K=b.K
 h:c.H=b.H
mutual
theorem Rep.cut(x:Cut b c){n:Nat}(hn:n<=c.n)(hm:∀i,i<n->c.m i=b.m i):∀{d:D}{v:V},Rep b d v->bel n d=xG->Rep c d v
 |.non,_,h,_=>h
 |.bl _,_,h,_=>h
 |.int _,_,h,_=>h
 |.str _,_,h,_=>h
 |.ty _,_,h,_=>h
 |.tup ds,v,h,q=>by obtain⟨p,vs,e,t,r⟩:=h;simp only[_D.bel]at q;exact⟨p,vs,e,by rw[x.k,x.h];exact t,Reps.cut x hn hm r q⟩
 |.fl ds,v,h,q=>by obtain⟨p,vs,e,t,r⟩:=h;simp only[_D.bel]at q;exact⟨p,vs,e,by rw[x.k,x.h];exact t,Reps.cut x hn hm r q⟩
 |.ref i,v,h,q=>by obtain⟨l,e⟩:=h;simp only[_D.bel]at q;have q':=of_decide_eq_true q;exact⟨zZ q' hn,by rw[hm i q'];exact e⟩
theorem Reps.cut(x:Cut b c){n:Nat}(hn:n<=c.n)(hm:∀i,i<n->c.m i=b.m i):∀{ds:List D}{vs:List V},Reps b ds vs->bels n ds=xG->Reps c ds vs
 |[],_,h,_=>h
 |d::ds,vs,h,q=>by obtain⟨v,r,e,h1,h2⟩:=h;simp only[_D.bels,zY]at q;exact⟨v,r,e,Rep.cut x hn hm h1 q.1,Reps.cut x hn hm h2 q.2⟩
end
theorem ORep.cut(x:Cut b c){n:Nat}(hn:n<=c.n)(hm:∀i,i<n->c.m i=b.m i){q:Option HO}(h:ORep b o q)(l:K7 n o=xG):ORep c o q:=by
 cases o with
 |lst ds=>obtain⟨vs,e,r⟩:=h;exact⟨vs,e,Reps.cut x hn hm r l⟩
 |dct kvs=>obtain⟨us,e,k,r⟩:=h;exact⟨us,e,k,Reps.cut x hn hm r l⟩
 |ins c fs=>obtain⟨C,dx,us,n,e,k,r⟩:=h;exact⟨C,dx,us,by rw[x.k];exact n,e,k,Reps.cut x hn hm r l⟩
 |tab C m=>obtain⟨c,P,e,t⟩:=h;exact⟨c,P,by rw[x.k];exact e,by rw[x.h];exact t⟩
 |exc c fs=>
  obtain⟨C,oe,u,vs,n,e,k1,k2,z⟩:=h;refine⟨C,oe,u,vs,by rw[x.k];exact n,e,k1,k2,?_⟩;rcases z with z|⟨dx,o,us,e,f,k,r⟩
  ·exact .inl z
  ·exact .inr ⟨dx,o,us,e,by rw[x.h];exact f,k,Reps.cut x hn hm r l⟩
 |gone=>trivial
theorem ORep.K7{q:Option HO}(h:ORep a o q):K7 a.n o=xG:=by
 cases o with
 |lst ds=>obtain⟨vs,e,r⟩:=h;exact r.bels
 |dct kvs=>obtain⟨us,e,k,r⟩:=h;exact r.bels
 |ins c fs=>obtain⟨C,dx,us,n,e,k,r⟩:=h;exact r.bels
 |tab C m=>rfl
 |exc c fs=>
  obtain⟨C,oe,u,vs,n,e,k1,k2,z⟩:=h;rcases z with⟨z,_⟩|⟨dx,o,us,e,f,k,r⟩
  ·rw[z];rfl
  ·exact r.bels
 |gone=>rfl
open Classical in
def tidy (G:DH) (r:R D):R D:=match r with
 | .ok d G'=>if G'.take G.length=G then
   (if bel G.length d=xG then .ok d G else match d with
    |.ref i=>match G'[i]? with
     |some o=>if K7 G.length o=xG then .ok (.ref G.length) (G++[o])else .ok d G'
     |none=>.ok d G'
    |_=>.ok d G')else .ok d G'
 |r=>r
theorem Za (s:Sim a G) (h:out E a (tidy G r) Q):out E a r Q:=by
 cases r with
 |err e G'=>exact h
 |bad=>exact h
 | ok d G'=>
  intro b v x sb rb;unfold tidy at h;dsimp only at h;split at h
  ·rename_i hG;have hlen:∀i o,G[i]?=xE o->G'[i]?=xE o:=λi o e=>by have hi:i<G.length:=(zv.mp e).1;rw[<-hG,qU hi]at e;exact e
   have base:∀(c:Wd),Cut b c->a.n<=c.n->(∀i,i<a.n->c.m i=b.m i)->∀i o,G[i]?=xE o->ORep c o (c.H (c.m i)):=λc cc hn hm i o e=>by have q:=sb.obj i o (hlen i o e);rw[cc.h,hm i (s.lt e)];exact q.cut cc hn hm (s.obj i o e).K7
   split at h
   ·rename_i hb;rw[s.len]at hb;let c:Wd:=⟨b.K,a.n,b.m,b.H⟩;have cc:Cut b c:=⟨rfl,rfl⟩;refine h c v ⟨x.k,zK _,x.m,x.tup,x.frz,x.tab⟩ ⟨s.len,λi j hi hj=>sb.inj i j (zZ hi x.n) (zZ hj x.n),base c cc (zK _) (λ_ _=>rfl),λi hi=>sb.tr i (zZ hi x.n)⟩ ?_;exact rb.cut cc (zK _) (λ_ _=>rfl) hb
   ·rename_i hb;split at h
    ·rename_i i;obtain⟨il,iv⟩:=rb;split at h
     ·rename_i o ho;split at h
      ·rename_i hbo;rw[s.len]at hbo hb h;simp only[_D.bel,decide_eq_true_eq]at hb;let c:Wd:=⟨b.K,a.n+1,λk=>if k=a.n then b.m i else b.m k,b.H⟩;have cc:Cut b c:=⟨rfl,rfl⟩;have cm:∀j,j<a.n->c.m j=b.m j:=λj hj=>by show(if j=a.n then b.m i else b.m j)=_;rw[if_neg (zC hj)]
       have cn:c.m a.n=b.m i:=by show(if a.n=a.n then b.m i else b.m a.n)=_;rw[if_pos rfl]
       have lt':∀j,j<a.n->j<b.n:=λj hj=>zZ hj x.n
       refine h c v ⟨x.k,qC _,λj hj=>(cm j hj).trans (x.m j hj),x.tup,x.frz,x.tab⟩ ⟨by simp[s.len,c],λj k hj hk e=>?_,λj u e=>?_,λj hj=>?_⟩ ⟨zR _,by rw[cn];exact iv⟩
       ·have hj':j<a.n+1:=hj;have hk':k<a.n+1:=hk;by_cases h1:j<a.n
        ·by_cases h2:k<a.n
         ·rw[cm j h1,cm k h2]at e;exact sb.inj j k (lt' j h1) (lt' k h2) e
         ·have:k=a.n:=by lia
          subst this;rw[cm j h1,cn]at e;have:=sb.inj j i (lt' j h1) il e;lia
        ·have:j=a.n:=by lia
         subst this;by_cases h2:k<a.n
         ·rw[cm k h2,cn]at e;have:=sb.inj i k il (lt' k h2) e;lia
         ·lia
       ·by_cases h1:j<a.n
        ·rw[zL (by rw[s.len];exact h1)]at e;exact base c cc (qC _) cm j u e
        ·have hl:j<(G++[o]).length:=(zv.mp e).1;have:j=a.n:=by rw[qK,s.len]at hl;simp at hl;lia
         subst this;rw[zA (by rw[s.len];exact zK _),s.len]at e;simp at e;subst e;rw[cn];exact(sb.obj i o ho).cut cc (qC _) cm hbo
       ·have hj':j<a.n+1:=hj;by_cases h1:j<a.n
        ·rw[cm j h1];exact sb.tr j (lt' j h1)
        ·have:j=a.n:=by lia
         subst this;rw[cn];exact sb.tr i il
      ·exact h b v x sb ⟨il,iv⟩
     ·exact h b v x sb ⟨il,iv⟩
    ·exact h b v x sb rb
  ·exact h b v x sb rb
end
noncomputable def dV(i:Nat):DE:=λS G=>match S[i]? with
 |some (xE d)=>.ok d G
 |_=>.bad
noncomputable def dC(d:D):DE:=λ_ G=>.ok d G
def dOp(f:D->D->DH->R D)(a b:DE):DE:=λS G=>(a S G).bind λx G1=>(b S G1).bind λy G2=>f x y G2
def dUn(f:D->DH->R D)(a:DE):DE:=λS G=>(a S G).bind f
noncomputable def Ag:DA:=λ_ G=>.ok [] G
def Ab(a:DE)(r:DA):DA:=λS G=>(a S G).bind λx G1=>(r S G1).bind λxs G2=>.ok (x::xs) G2
def dFn(f:List D->DH->R D)(t:DA):DE:=λS G=>(t S G).bind f
def Ir(t:DE):DE:=λS G=>tidy G (t S G)
def asB:D->DH->R Bool
 |.bl k,G=>.ok k G
 |_,_=>.bad
def Av(t:DE):DB:=λS G=>(t S G).bind asB
def K5(t u:DB):DB:=λS G=>(t S G).bind λk G1=>if k=xG then u S G1 else .ok xH G1
def dOr(t u:DB):DB:=λS G=>(t S G).bind λk G1=>if k=xG then .ok xG G1 else u S G1
def Dc(t:DB):DB:=λS G=>(t S G).bind λk G1=>.ok (!k) G1
def J7(t u:DE):DE:=λS G=>(t S G).bind λx G1=>(asB x G1).bind λk G2=>if k=xG then u S G2 else .ok (.bl xH) G2
def Uw(t u:DE):DE:=λS G=>(t S G).bind λx G1=>(asB x G1).bind λk G2=>if k=xG then .ok (.bl xG) G2 else u S G2
def T7(t:DE):DE:=λS G=>(t S G).bind λx G1=>(asB x G1).bind λk G2=>.ok (.bl (!k)) G2
def Gq(f g:D->D->DH->R D)(a b c:DE):DE:=λS G=>(a S G).bind λx G1=>(b S G1).bind λy G2=>(f x y G2).bind λz G3=>(asB z G3).bind λk G4=>
 if k=xG then(c S G4).bind λw G5=>g y w G5 else .ok (.bl xH) G4
noncomputable def El(ds:List D)(G:DH):R D:=if ds.length<=1000000 then .ok (.tup ds) G else .bad
noncomputable def Ay(ds:List D)(G:DH):R D:=if ds.length<=1000000 then .ok (.ref G.length) (G++[.lst ds])else .bad
noncomputable def Bs(d:D)(G:DH):Option (List D):=match d with
 |.tup xs=>xE xs
 |.fl xs=>xE xs
 |.ref i=>match G[i]? with
  |some (.lst xs)=>xE xs
  |_=>xF
 |_=>xF
theorem size6:(1000000:Nat)<=sizeLine:=by decide
section
variable{X:Cx}{E:XK}{a b c:jk}{ta tb tc:DE}{pos:Pos}
theorem two{K:PySem.W.Frag}(h:lE K E (dOp f ta tb) σ H Q):tOp (lR2 K E f) (lE K E ta) (lE K E tb) σ H Q:=by obtain⟨a,S,G,hk,rfl,s,r,h⟩:=h;refine⟨a,S,G,hk,rfl,s,r,(Dz h).imp ?_⟩;rintro v _ ⟨b,d,G1,rfl,x,s1,q,_,h1⟩;refine⟨b,S,G1,x.k.trans hk,rfl,s1,r.mono x,(Dz h1).imp ?_⟩;rintro w _ ⟨c,e,G2,rfl,y,s2,q2,_,h2⟩;exact⟨c,G2,d,e,y.k.trans (x.k.trans hk),rfl,s2,q.mono y,q2,h2⟩
theorem Aa(i:Nat){pos:Pos}(hN:X.N[i]?=xE x:=by rfl)(hv:Vis X.env.scope x:=by first|exact Or.inl rfl|exact Or.inr (Or.inl rfl)|exact Or.inr (Or.inr rfl))(hd:(x==("__debug__":Str))=xH:=by decide)
  (hcd:(x==("__classdict__":Str))=xH:=by decide):QE X E (.Name x pos) (dV i):=by
 refine(O6 hN hv hd hcd).mono λσ H Q h=>?_
 obtain⟨a,S,G,hk,rfl,s,r,h⟩:=h;unfold dV at h;split at h
 ·rename_i d e;obtain⟨v,e',q⟩:=r.get i d e;exact⟨v,e',h a v (Ext.refl a) s q⟩
 ·exact h.elim
theorem Ls{K:PySem.W.Frag}(h:lE K E (dC d) σ H Q)(r:∀a:Wd,a.K=K->Rep a d v):Q v H:=by obtain⟨a,S,G,hk,rfl,s,_,h⟩:=h;exact h a v (Ext.refl a) s (r a hk)
theorem Ac{i:Int}:QE X E (.Constant (.int i) j pos) (dC (.int i)):=ZF8.mono λσ H Q h=>Ls h λ_ _=>rfl
theorem Ei{i:Bool}:QE X E (.Constant (.bool i) j pos) (dC (.bl i)):=ZDs.mono λσ H Q h=>Ls h λ_ _=>rfl
theorem Ht:QE X E (.Constant .none j pos) (dC .non):=ZGe.mono λσ H Q h=>Ls h λ_ _=>rfl
theorem Ci{i:Str}:QE X E (.Constant (.str i) j pos) (dC (.str i)):=Ss.mono λσ H Q h=>Ls h λ_ _=>rfl
theorem Br{u:j5}(hg:Gl X x)(hm:X.mg x=xE u)(r:RelV v u)(rd:∀a:Wd,a.K=X.K->Rep a d v)(hd:(x==("__debug__":Str))=xH:=by decide):QE X E (.Name x pos) (dC d):=
 (ZBX hg hm r hd).mono λσ H Q h=>Ls h rd
theorem Af{op:Operator}(ho:OpR X (jB op) (lR2 X.K E f))(ha:QE X E a ta)(hb:QE X E b tb):QE X E (.BinOp a op b pos) (dOp f ta tb):=
 (ZIb ho ha hb).mono λ_ _ _ h=>two h
theorem Fi(ho:OpR X (jF op) (lR2 X.K E f))(ha:QE X E a ta)(hb:QE X E b tb)(hm:jA op b=xH):QE X E (.Compare a [op] [b] pos) (dOp f ta tb):=
 (ZGI ho ha hb hm).mono λ_ _ _ h=>two h
theorem Vn{K:PySem.W.Frag}{Q:Bool->Hp->Prop}(h:lB K E (Av t) σ H Q):Ni (lE K E t) σ H Q:=by
 obtain⟨a,S,G,hk,rfl,s,r,h⟩:=h;refine⟨a,S,G,hk,rfl,s,r,(ZD4 h).imp ?_⟩;rintro v _ ⟨b,d,G1,rfl,x,s1,q,_,h1⟩;cases d with
 |bl k=>exact⟨k,q,h1 b (Ext.refl b) s1⟩
 |_=>exact h1.elim
theorem ZBl{t t':TE}(w:∀σ H Q,t' σ H Q->t σ H Q)(σ:St)(H:Hp)(Q:Bool->Hp->Prop)(h:Ni t' σ H Q):Ni t σ H Q:=w _ _ _ h
theorem Be(ho:OpR X (jF op) (lR2 X.K E f))(ha:QE X E a ta)(hb:QE X E b tb)(hm:jA op b=xH):QT X E (.Compare a [op] [b] pos) (Av (dOp f ta tb)):=
 (ZHp ho ha hb hm).mono λσ H Q h=>ZBl (λ_ _ _ z=>two z) σ H Q (Vn h)
theorem chain{K:PySem.W.Frag}{g:D->D->DH->R D}(h:lE K E (Gq f g ta tb tc) σ H Q):Xv (lR2 K E f) (lR2 K E g) (lE K E ta) (lE K E tb) (lE K E tc) σ H Q:=by
 obtain⟨a,S,G,hk,rfl,s,r,h⟩:=h;refine⟨a,S,G,hk,rfl,s,r,(Dz h).imp ?_⟩;rintro v _ ⟨b,d,G1,rfl,x,s1,q,_,h1⟩;refine⟨b,S,G1,x.k.trans hk,rfl,s1,r.mono x,(Dz h1).imp ?_⟩;rintro w _ ⟨c,e,G2,rfl,y,s2,q2,_,h2⟩;refine⟨c,G2,d,e,y.k.trans (x.k.trans hk),rfl,s2,q.mono y,q2,(Dz h2).imp ?_⟩;rintro z _ ⟨c3,e3,G3,rfl,y3,s3,q3,_,h3⟩;cases e3 with
 | bl k=>
  refine⟨k,q3,?_⟩;cases k with
  |false=>exact h3 c3 (.bl xH) (Ext.refl _) s3 rfl
  |true=>
   refine⟨c3,S,G3,(y3.k.trans (y.k.trans (x.k.trans hk))),rfl,s3,((r.mono x).mono y).mono y3,(Dz h3).imp ?_⟩;rintro z4 _ ⟨c4,e4,G4,rfl,y4,s4,q4,_,h4⟩;exact⟨c4,G4,e,e4,y4.k.trans (y3.k.trans (y.k.trans (x.k.trans hk))),rfl,s4,(q2.mono y3).mono y4,q4,h4⟩
 |_=>exact h3.elim
theorem Vt{op':CmpOp}{g:D->D->DH->R D}(ho:OpR X (jF op) (lR2 X.K E f))(ho':OpR X (jF op') (lR2 X.K E g))(ha:QE X E a ta)(hb:QE X E b tb)(hc:QE X E c tc)
  (hm:lastMarks [op,op'] [b,c]=xH:=by with_unfolding_all rfl):QE X E (.Compare a [op,op'] [b,c] pos) (Gq f g ta tb tc):=
 (ZDu ho ho' ha hb hc hm).mono λ_ _ _ h=>chain h
theorem Sq{op':CmpOp}{g:D->D->DH->R D}(ho:OpR X (jF op) (lR2 X.K E f))(ho':OpR X (jF op') (lR2 X.K E g))(ha:QE X E a ta)(hb:QE X E b tb)(hc:QE X E c tc)
  (hm:lastMarks [op,op'] [b,c]=xH:=by with_unfolding_all rfl):QT X E (.Compare a [op,op'] [b,c] pos) (Av (Gq f g ta tb tc)):=
 (ZFR ho ho' ha hb hc hm).mono λσ H Q h=>ZBl (λ_ _ _ z=>chain z) σ H Q (Vn h)
theorem Ec(ha:QE X E a ta)(he:∀whole,isTrue a X.env whole=(do let v<-whole;standAt a.pos;holding [v] (truthy v)):=by intro _;rfl):QT X E a (Av ta):=
 (ZJV ha he).mono λσ H Q h=>Vn h
theorem Lk(ha:QE X E a ta):QE X E a (Ir ta):=_L.PE.mono ha λσ H Q h=>by obtain⟨w,S,G,hk,rfl,s,r,h⟩:=h;exact⟨w,S,G,hk,rfl,s,r,Za s h⟩
def QW(X:Cx)(E:XK)(e:jk)(t:DB):Prop:=PW X e (lB X.K E t)
theorem _root_._L.PW.mono{t t':TT}(h:PW X e t)(w:∀σ H Q,t' σ H Q->t σ H Q):PW X e t':=λwh xD s σ H Q I q=>h wh xD s σ H Q I (w σ H Q q)
variable{u t:DB}{rest:List jk}
theorem ZFq{K:PySem.W.Frag}{Q:Bool->Hp->Prop}(h:lB K E (K5 t u) σ H Q):tAnd (lB K E t) (lB K E u) σ H Q:=by
 obtain⟨a,S,G,hk,rfl,s,r,h⟩:=h;refine⟨a,S,G,hk,rfl,s,r,(Ws h).imp ?_⟩;rintro k _ ⟨b,G1,rfl,x,s1,_,h1⟩;cases k with
 |true=>exact⟨b,S,G1,x.k.trans hk,rfl,s1,r.mono x,h1⟩
 |false=>exact h1 b (Ext.refl b) s1
theorem ZJM{K:PySem.W.Frag}{Q:Bool->Hp->Prop}(h:lB K E (dOr t u) σ H Q):tOr (lB K E t) (lB K E u) σ H Q:=by
 obtain⟨a,S,G,hk,rfl,s,r,h⟩:=h;refine⟨a,S,G,hk,rfl,s,r,(Ws h).imp ?_⟩;rintro k _ ⟨b,G1,rfl,x,s1,_,h1⟩;cases k with
 |true=>exact h1 b (Ext.refl b) s1
 |false=>exact⟨b,S,G1,x.k.trans hk,rfl,s1,r.mono x,h1⟩
theorem Q9(ha:QT X E a t):QW X E (.BoolOp .And [a] pos) t:=pw_and1 ha
theorem G9(ha:QT X E a t):QW X E (.BoolOp .Or [a] pos) t:=pw_or1 ha
theorem R5(ha:QT X E a t)(hb:QW X E (.BoolOp .And (b::rest) pos) u):QW X E (.BoolOp .And (a::b::rest) pos) (K5 t u):=(pw_and ha hb).mono λ_ _ _ h=>ZFq h
theorem Et(ha:QT X E a t)(hb:QW X E (.BoolOp .Or (b::rest) pos) u):QW X E (.BoolOp .Or (a::b::rest) pos) (dOr t u):=(pw_or ha hb).mono λ_ _ _ h=>ZJM h
theorem Dv(h:QW X E a t):QT X E a t:=_L.PW.pt h
theorem Dl(ha:QT X E a t):QT X E (.UnaryOp .Not a pos) (Dc t):=(ZKM ha).mono λσ H Q h=>by obtain⟨a,S,G,hk,rfl,s,r,h⟩:=h;refine⟨a,S,G,hk,rfl,s,r,(Ws h).imp ?_⟩;rintro k _ ⟨b,G1,rfl,x,s1,_,h1⟩;exact h1 b (Ext.refl b) s1
theorem Lp{op}(h:QE X E a ta):QE X E (.BoolOp op [a] pos) ta:=ZEz h
theorem Kw(ha:QE X E a ta)(hb:QE X E (.BoolOp .And (b::rest) pos) tb):QE X E (.BoolOp .And (a::b::rest) pos) (J7 ta tb):=(ZH4 ha hb).mono λσ H Q h=>by
 obtain⟨a,S,G,hk,rfl,s,r,h⟩:=h;refine⟨a,S,G,hk,rfl,s,r,(Dz h).imp ?_⟩;rintro v _ ⟨b,d,G1,rfl,x,s1,q,_,h1⟩;cases d with
 |bl k=>
  refine⟨k,q,?_⟩;cases k with
  |true=>exact⟨b,S,G1,x.k.trans hk,rfl,s1,r.mono x,h1⟩
  |false=>exact h1 b _ (Ext.refl b) s1 rfl
 |_=>exact h1.elim
theorem ZG4(ha:QE X E a ta)(hb:QE X E (.BoolOp .Or (b::rest) pos) tb):QE X E (.BoolOp .Or (a::b::rest) pos) (Uw ta tb):=(ZFp ha hb).mono λσ H Q h=>by
 obtain⟨a,S,G,hk,rfl,s,r,h⟩:=h;refine⟨a,S,G,hk,rfl,s,r,(Dz h).imp ?_⟩;rintro v _ ⟨b,d,G1,rfl,x,s1,q,_,h1⟩;cases d with
 |bl k=>
  refine⟨k,q,?_⟩;cases k with
  |false=>exact⟨b,S,G1,x.k.trans hk,rfl,s1,r.mono x,h1⟩
  |true=>exact h1 b _ (Ext.refl b) s1 rfl
 |_=>exact h1.elim
theorem ZAf(ha:QE X E a ta):QE X E (.UnaryOp .Not a pos) (T7 ta):=(ZKG ha).mono λσ H Q h=>by
 obtain⟨a,S,G,hk,rfl,s,r,h⟩:=h;refine⟨a,S,G,hk,rfl,s,r,(Dz h).imp ?_⟩;rintro v _ ⟨b,d,G1,rfl,x,s1,q,_,h1⟩;cases d with
 |bl k=>exact⟨k,q,h1 b _ (Ext.refl b) s1 rfl⟩
 |_=>exact h1.elim
variable{es:List jk}{tr:DA}
theorem Ai:QA X E [] Ag:=Y8.mono λσ H Q h=>by obtain⟨a,S,G,hk,rfl,s,r,h⟩:=h;exact h a [] (Ext.refl a) s rfl
noncomputable def notStar:jk->Bool
 |.Starred _ _=>xH
 |_=>xG
theorem Hd(a:jk)(es:List jk)(env:Env)(h:notStar a=xG):xQ (a::es) env=(xH,eval a env)::xQ es env:=by
 cases a<;>first
  |exact absurd h zq
  |rfl
theorem Kv(pos:Pos)(env:Env):∀es:List jk,es.all notStar=xG->(j9 pos (xQ es env)).any (·.1)=xH
 |[],_=>rfl
 |a::es,h=>by
  rw[qN,zY]at h;rw[Hd a es env h.1];have ih:=Kv pos env es h.2;unfold j9 at ih⊢;rw[zj,List.any_cons,ih]
  rfl
theorem Ad(ha:QE X E a ta)(hr:QA X E es tr)(hs:notStar a=xG:=by rfl):QA X E (a::es) (Ab ta tr):=(Ml ha hr (Hd a es X.env hs)).mono λσ H Q h=>by obtain⟨a,S,G,hk,rfl,s,r,h⟩:=h;refine⟨a,S,G,hk,rfl,s,r,(ZEd h).imp ?_⟩;rintro v _ ⟨b,d,G1,rfl,x,s1,q,_,h1⟩;refine⟨b,S,G1,x.k.trans hk,rfl,s1,r.mono x,(ZJy h1).imp ?_⟩;rintro vs _ ⟨c,ds,G2,rfl,y,s2,q2,_,h2⟩;exact h2 c _ (Ext.refl c) s2 (Reps.cons (q.mono y) q2)
theorem Gm{x1}(h:QA X E es tr):QE X E (.Tuple es x1 pos) (dFn El tr):=(ZGh h).mono λσ H Q h=>by
 obtain⟨a,S,G,hk,rfl,s,r,h⟩:=h;refine⟨a,S,G,hk,rfl,s,r,(O5 h).imp ?_⟩;rintro vs _ ⟨b,ds,G1,rfl,x,s1,q,_,h1⟩;unfold El at h1;split at h1
 ·rename_i hl;refine⟨by rw[<-q.length];exact z0 hl size6,λp hp=>?_⟩;exact h1 (b.put p (.tup vs)) (.ref p) (Ext.put hp) (s1.put hp) ⟨p,vs,rfl,.of Fw,q.mono (Ext.put hp)⟩
 ·exact h1.elim
theorem Dh(h:QA X E es tr):QE X E (.List es pos) (dFn Ay tr):=(ZF3 h).mono λσ H Q h=>by
 obtain⟨a,S,G,hk,rfl,s,r,h⟩:=h;refine⟨a,S,G,hk,rfl,s,r,(O5 h).imp ?_⟩;rintro vs _ ⟨b,ds,G1,rfl,x,s1,q,_,h1⟩;unfold Ay at h1;split at h1
 ·rename_i hl;refine⟨by rw[<-q.length];exact z0 hl size6,λp hp=>?_⟩;refine h1 (b.push p (.lst vs)) (.ref p) (Ext.push hp) (s1.push hp ⟨vs,rfl,q.mono (Ext.push hp)⟩) ⟨?_,?_⟩
  ·rw[s1.len];exact zR _
  ·rw[s1.len];show V.ref p=.ref (if b.n=b.n then p else b.m b.n);rw[if_pos rfl]
 ·exact h1.elim
variable{e:jk}{x:Str}{p:Pos}
theorem Qm{K:PySem.W.Frag}{f:List D->DH->R D}(h:lE K E (dFn f tr) σ H Q):lA K E tr σ H (λvs H1=>lRn K E f vs H1 Q):=by obtain⟨a,S,G,hk,rfl,s,r,h⟩:=h;refine⟨a,S,G,hk,rfl,s,r,(O5 h).imp ?_⟩;rintro vs _ ⟨b,ds,G1,rfl,x,s1,q,_,h1⟩;exact⟨b,G1,ds,x.k.trans hk,rfl,s1,q,h1⟩
theorem Dk{id:String}{f:List D->DH->R D}(hc:CallR X (.builtin id) (lRn X.K E f))(hg:Gl X x)(hm:X.mg x=xF)(hv:jC x=xE (.builtin id))(ha:QA X E (e::es) tr)(hn:x≠"__name__":=by decide)(hdb:(x==("__debug__":Str))=xH:=by decide)
  (he:notStar e=xG:=by rfl) (hpl:es.all notStar=xG:=by rfl):QE X E (.Call (.Name x p) (e::es) [] pos) (dFn f tr):=
 (ZDT hc hg hm hv ha hn hdb (Hd e es X.env he) (Kv pos X.env es hpl)).mono λσ H Q h=>Qm h
theorem Mp{id:String}{f:List D->DH->R D}(hc:CallR X (.type id) (lRn X.K E f))(hg:Gl X x)(hm:X.mg x=xF)(hv:jC x=xE (.type id))(ha:QA X E (e::es) tr)(hn:x≠"__name__":=by decide)(hdb:(x==("__debug__":Str))=xH:=by decide)
  (he:notStar e=xG:=by rfl) (hpl:es.all notStar=xG:=by rfl):QE X E (.Call (.Name x p) (e::es) [] pos) (dFn f tr):=
 (ZJ0 hc hg hm hv ha hn hdb (Hd e es X.env he) (Kv pos X.env es hpl)).mono λσ H Q h=>Qm h
theorem ZEV{CX:CXT}{f:jx}{fd:jy}{ps:List Str}{F:List D->DH->R D}(FF:FnOk X.prog X.w X.K X.mg X.base CX k f fd ps (lF X.K F))(hr:Room k X.A)(hg:Gl X x)(hm:X.mg x=xE (.ref f))(hk:PySem.W.keepIn X.K (.ref f)=xG)(hb:Binds X.K fd ps [])
  (hx:Passes CX X E0) (ha:QA X E0 (e::es) tr) (hdb:(x==("__debug__":Str))=xH:=by decide) (he:notStar e=xG:=by rfl) (hpl:es.all notStar=xG:=by rfl):
  QE X E0 (.Call (.Name x p) (e::es) [] pos) (dFn F tr):=
 (ZBP FF hr hg hm hk hb .nil hx ha hdb (Hd e es X.env he) (Kv pos X.env es hpl)).mono λσ H Q h=>by obtain⟨a,S,G,hk,rfl,s,r,h⟩:=Qm h;refine⟨a,S,G,hk,rfl,s,r,h.imp ?_⟩;rintro vs _ ⟨b,G1,ds,hk,rfl,s1,q,h1⟩;exact⟨b,G1,ds,hk,rfl,s1,by rw[zU];exact q,h1⟩
theorem An(hr:IxR X (lR2 X.K E f))(ha:QE X E a ta)(hb:QE X E b tb)(hs:PlainIx b:=by intro _ _;rfl):QE X E (.Subscript a b pos) (dOp f ta tb):=
 (ZJh hr ha hb hs).mono λ_ _ _ h=>two h
end
noncomputable instance (i j:Int):Decidable (CMul i j):=by unfold CMul;infer_instance
noncomputable instance (i j:Int):Decidable (CPow i j):=by unfold CPow;infer_instance
def CDivL(j:Int):Prop:=0<j/\j.natAbs.log2<9000
noncomputable instance (j:Int):Decidable (CDivL j):=by unfold CDivL;infer_instance
def Ft:D->D->DH->R D
 |.int i,.int j,G=>.ok (.int (i-j)) G
 |_,_,_=>.bad
def Dy:D->D->DH->R D
 |.int i,.int j,G=>if CDivL j then .ok (.int (i/j)) G else .bad
 |_,_,_=>.bad
def Bd:D->D->DH->R D
 |.int i,.int j,G=>if 0<j then .ok (.int (i%j)) G else .bad
 |_,_,_=>.bad
def Hw:D->D->DH->R D
 |.int i,.int j,G=>if CPow i j then .ok (.int (i^j.toNat)) G else .bad
 |_,_,_=>.bad
def Gg:D->D->DH->R D
 |.int i,.int j,G=>.ok (.bl (decide (i<j))) G
 |.str i,.str j,G=>.ok (.bl (decide (i.cps.toList<j.cps.toList))) G
 |_,_,_=>.bad
def Fo:D->D->DH->R D
 |.int i,.int j,G=>.ok (.bl (decide (i<=j))) G
 |.str i,.str j,G=>.ok (.bl (!decide (j.cps.toList<i.cps.toList))) G
 |_,_,_=>.bad
def Hl:D->D->DH->R D
 |.int i,.int j,G=>.ok (.bl (decide (j<i))) G
 |.str i,.str j,G=>.ok (.bl (decide (j.cps.toList<i.cps.toList))) G
 |_,_,_=>.bad
def Y9:D->D->DH->R D
 |.int i,.int j,G=>.ok (.bl (decide (j<=i))) G
 |.str i,.str j,G=>.ok (.bl (!decide (i.cps.toList<j.cps.toList))) G
 |_,_,_=>.bad
noncomputable def Hh(d:D)(G:DH):Option (List D):=match d with
 |.fl xs=>xE xs
 |.ref i=>match G[i]? with
  |some (.lst xs)=>xE xs
  |_=>xF
 |_=>xF
def Aq:D->D->DH->R D
 |.int i,.int j,G=>.ok (.int (i+j)) G
 |.str i,.str j,G=>if i.length+j.length<=1000000 then .ok (.str (i++j)) G else .bad
 |.tup xs,.tup ys,G=>if xs≠[]/\xs.length+ys.length<=1000000 then .ok (.tup (xs++ys)) G else .bad
 |d,e,G=>match Hh d G,Hh e G with
  |some xs,xE ys=>if xs.length+ys.length<=1000000 then .ok (.ref G.length) (G++[.lst (xs++ys)])else .bad
  |_,_=>.bad
section
variable{X:Cx}{E:XK}
theorem Em{f:j5->j5->Sem j5}{r:R2}{F:D->D->DH->R D}(ho:OpR X f r)
  (h:∀(a:Wd)(G:DH)(d e:D)(x y:V)(Q:VK),a.K=X.K->Sim a G->Rep a d x->Rep a e y->out E a (F d e G) Q->r x y a.H Q):OpR X f (lR2 X.K E F):=
 ho.mono λx y H Q ⟨a,G,d,e,hk,hH,s,rd,re,q⟩=>by subst hH;exact h a G d e x y Q hk s rd re q
theorem Hb:OpR X (jB .Sub) (lR2 X.K E Ft):=Em ZFo λa G d e x y Q hk s rd re q=>by
 cases d<;>cases e<;>first
  |exact q.elim
  |exact⟨_,_,rd,re,q a _ (Ext.refl a) s rfl⟩
theorem ZJU:OpR X (jB .FloorDiv) (rI (λ_ j=>CDivL j) λi j=>.int (i/j)):=opI λi j _ _ _ _ _ hc q=>by have e:i.fdiv j=i/j:=Int.fdiv_eq_ediv_of_nonneg _ (Int.le_of_lt hc.1);refine floordiv_int (by have:=hc.1;lia) (by rw[e];exact q) (.inl (PyProof.noPylong_of_log2 hc.2))
theorem Fq:OpR X (jB .FloorDiv) (lR2 X.K E Dy):=Em ZJU λa G d e x y Q hk s rd re q=>by
 cases d<;>cases e<;>first
  |exact q.elim
  | (
    rename_i i j;unfold Dy at q;dsimp only at q;split at q
    ·exact⟨_,_,rd,re,by assumption,q a _ (Ext.refl a) s rfl⟩
    ·exact q.elim)
theorem Bh:OpR X (jB .Mod) (lR2 X.K E Bd):=Em ZFf λa G d e x y Q hk s rd re q=>by
 cases d<;>cases e<;>first
  |exact q.elim
  | (
    rename_i i j;unfold Bd at q;dsimp only at q;split at q
    ·exact⟨_,_,rd,re,by assumption,q a _ (Ext.refl a) s rfl⟩
    ·exact q.elim)
theorem M3:OpR X (jB .Pow) (lR2 X.K E Hw):=Em ZGW λa G d e x y Q hk s rd re q=>by
 cases d<;>cases e<;>first
  |exact q.elim
  | (
    rename_i i j;unfold Hw at q;dsimp only at q;split at q
    ·exact⟨_,_,rd,re,by assumption,q a _ (Ext.refl a) s rfl⟩
    ·exact q.elim)
theorem H9:OpR X (jF .Lt) (lR2 X.K E Gg):=Em (ZKI.or ZFl) λa G d e x y Q hk s rd re q=>by
 cases d<;>cases e<;>first
  |exact q.elim
  |exact .inl ⟨_,_,rd,re,q a _ (Ext.refl a) s rfl⟩
  |exact .inr ⟨_,_,rd,re,q a _ (Ext.refl a) s rfl⟩
theorem ZEW:OpR X (jF .LtE) (λx y H Q=>∃i j,x=.str i/\y=.str j/\Q (.bl (!decide (j.cps.toList<i.cps.toList))) H):=by intro xD s σ H x y v u Q I rx ry h;obtain⟨i,j,rfl,rfl,q⟩:=h;obtain⟨t,rfl⟩:=rx;obtain⟨t',rfl⟩:=ry;exact PySem.P.le_str ⟨.bl _,H,I,rfl,q⟩
theorem ZEB:OpR X (jF .Gt) (λx y H Q=>∃i j,x=.str i/\y=.str j/\Q (.bl (decide (j.cps.toList<i.cps.toList))) H):=by intro xD s σ H x y v u Q I rx ry h;obtain⟨i,j,rfl,rfl,q⟩:=h;obtain⟨t,rfl⟩:=rx;obtain⟨t',rfl⟩:=ry;exact PySem.P.gt_str ⟨.bl _,H,I,rfl,q⟩
theorem ZIY:OpR X (jF .GtE) (λx y H Q=>∃i j,x=.str i/\y=.str j/\Q (.bl (!decide (i.cps.toList<j.cps.toList))) H):=by intro xD s σ H x y v u Q I rx ry h;obtain⟨i,j,rfl,rfl,q⟩:=h;obtain⟨t,rfl⟩:=rx;obtain⟨t',rfl⟩:=ry;exact PySem.P.ge_str ⟨.bl _,H,I,rfl,q⟩
theorem Gj:OpR X (jF .LtE) (lR2 X.K E Fo):=Em (ZEp.or ZEW) λa G d e x y Q hk s rd re q=>by
 cases d<;>cases e<;>first
  |exact q.elim
  |exact .inl ⟨_,_,rd,re,q a _ (Ext.refl a) s rfl⟩
  |exact .inr ⟨_,_,rd,re,q a _ (Ext.refl a) s rfl⟩
theorem Jm:OpR X (jF .Gt) (lR2 X.K E Hl):=Em (ZFL.or ZEB) λa G d e x y Q hk s rd re q=>by
 cases d<;>cases e<;>first
  |exact q.elim
  |exact .inl ⟨_,_,rd,re,q a _ (Ext.refl a) s rfl⟩
  |exact .inr ⟨_,_,rd,re,q a _ (Ext.refl a) s rfl⟩
theorem o_ge:OpR X (jF .GtE) (lR2 X.K E Y9):=Em (ZES.or ZIY) λa G d e x y Q hk s rd re q=>by
 cases d<;>cases e<;>first
  |exact q.elim
  |exact .inl ⟨_,_,rd,re,q a _ (Ext.refl a) s rfl⟩
  |exact .inr ⟨_,_,rd,re,q a _ (Ext.refl a) s rfl⟩
theorem Sim.lst(s:Sim a G)(h:G[i]?=xE (.lst xs)):∃vs,a.H (a.m i)=xE (.lst vs)/\Reps a xs vs:=s.obj i _ h
theorem Yt(s:Sim a G)(r:Reps a ds vs)(h:out E a (.ok (.ref G.length) (G++[.lst ds])) Q)(p:jx)(hp:a.H p=xF):Q (.ref p) (upd a.H p (.lst vs)):=by
 refine h (a.push p (.lst vs)) (.ref p) (Ext.push hp) (s.push hp ⟨vs,rfl,r.mono (Ext.push hp)⟩) ⟨?_,?_⟩
 ·rw[s.len];exact zR _
 ·rw[s.len];show V.ref p=.ref (if a.n=a.n then p else a.m a.n);rw[if_pos rfl]
theorem Xe(s:Sim a G)(r:Reps a ds vs)(h:out E a (.ok (.tup ds) G) Q)(p:jx)(hp:a.H p=xF):Q (.ref p) (upd a.H p (.tup vs)):=
 h (a.put p (.tup vs)) (.ref p) (Ext.put hp) (s.put hp) ⟨p,vs,rfl,.of Fw,r.mono (Ext.put hp)⟩
theorem Xx{x:V}(s:Sim a G)(r:Rep a d x)(h:Hh d G=xE xs):∃p vs,x=.ref p/\SqL a.K a.H p vs/\Reps a xs vs:=by
 cases d with
 |fl ys=>
  have e:ys=xs:=Option.some.inj h;subst e;obtain⟨p,vs,e,q,rr⟩:=r;exact⟨p,vs,e,q.sq,rr⟩
 |ref i=>
  unfold Hh at h;dsimp only at h;split at h
  ·rename_i ys hi;have e:ys=xs:=Option.some.inj h;subst e;obtain⟨vs,e1,r1⟩:=s.lst hi;exact⟨a.m i,vs,r.2,.of e1,r1⟩
  ·cases h
 |_=>cases h
def ZBY(K:PySem.W.Frag):R2:=λx y H Q=>∃l b xs zs,x=.ref l/\y=.ref b/\SqL K H l xs/\SqL K H b zs/\xs.length+zs.length<=sizeLine/\∀p,H p=xF->Q (.ref p) (upd H p (.lst (xs++zs)))
theorem ZE7:OpR X (jB .Add) (ZBY X.K):=by
 intro xD s σ H x y v u Q I rx ry h;obtain⟨l,b,xs,zs,rfl,rfl,hH,hB,hz,q⟩:=h;cases rx;cases ry;obtain⟨its,r,p1,_⟩:=I.list hH;obtain⟨its2,r2,p2,_⟩:=I.list hB;obtain⟨⟨cls,dd,data,sl⟩,n,ho,hc,_,hd⟩:=p1;obtain⟨⟨cls2,dd2,data2,sl2⟩,n2,ho2,hc2,_,hd2⟩:=p2;cases hc;cases hd;cases hc2;cases hd2;have hl:=r.length;have hl2:=r2.length;refine concat_meets ⟨_,ho,rfl⟩ ⟨_,ho2,rfl⟩ noFill_list_add seq_list_add PySem.F.slot_list_add PySem.F.entry_list_add (PySem.F.args_list_add_2 _ _) (list_addW l b its.toArray its2.toArray n n2 dd dd2 sl sl2 (by rw[zW,zW];lia)) ⟨ho,ho2,?_⟩
 have ea:its.toArray++its2.toArray=(its++its2).toArray:=by simp
 rw[ea];exact⟨.ref _,_,I.lnew (t':=s.toks) (r.append r2) (by rw[qK];lia),rfl,q _ I.fresh⟩
theorem Ax:OpR X (jB .Add) (lR2 X.K E Aq):=Em (ZFh.or (ZI2.or (ZE7.or ZHw))) λa G d e x y Q hk s rd re q=>by
 have lst:out E a (match Hh d G,Hh e G with
  |some xs,xE ys=>if xs.length+ys.length<=1000000 then .ok (.ref G.length) (G++[.lst (xs++ys)])else .bad
  |_,_=>.bad) Q->ZBY X.K x y a.H Q:=λq=>by
  split at q
  ·rename_i xs ys h1 h2;split at q
   ·rename_i hl;obtain⟨p,vs,e1,q1,r1⟩:=Xx s rd h1;obtain⟨p',vs',e2,q2,r2⟩:=Xx s re h2;rw[hk]at q1 q2;exact⟨p,p',vs,vs',e1,e2,q1,q2,by rw[<-r1.length,<-r2.length];exact z0 hl size6,λp hp=>Yt s (r1.append r2) q p hp⟩
   ·exact q.elim
  ·exact q.elim
 have L:=λq=>Or.inr (a:=rI0 (λi j=>V.int (i+j)) x y a.H Q) (Or.inr (a:=∃i j,x=.str i/\y=.str j/\i.length+j.length<=sizeLine/\Q (.str (i++j)) a.H) (Or.inl (b:=ZCt X.K x y a.H Q) (lst q)))
 cases d<;>cases e<;>first
  |exact .inl ⟨_,_,rd,re,q a _ (Ext.refl a) s rfl⟩
  |exact L q
  |skip
 ·rename_i i j;unfold Aq at q;dsimp only at q;split at q
  ·rename_i hl;exact .inr (.inl ⟨_,_,rd,re,z0 hl size6,q a _ (Ext.refl a) s rfl⟩)
  ·exact q.elim
 ·rename_i xs ys;unfold Aq at q;dsimp only at q;split at q
  ·rename_i hl;obtain⟨p,vs,e1,h1,r1⟩:=rd;obtain⟨p',vs',e2,h2,r2⟩:=re;rw[hk]at h1 h2;refine .inr (.inr (.inr ⟨p,p',vs,vs',e1,e2,h1,h2,λz=>hl.1 (List.eq_nil_of_length_eq_zero (by rw[r1.length,z];rfl)),by rw[<-r1.length,<-r2.length];exact z0 hl.2 size6,λz=>?_,λ_ p0 hp=>?_⟩))
   ·refine q a (.ref p) (Ext.refl a) s ⟨p,vs,rfl,by rw[hk];exact h1,?_⟩;have e3:ys=[]:=List.eq_nil_of_length_eq_zero (by rw[r2.length,z];rfl);rw[e3,zU];exact r1
   ·exact Xe s (r1.append r2) q p0 hp
  ·exact q.elim
inductive VD where
 |flat (v:V)
 |lst (xs:List D)
 |tup (xs:List D)
 |bad
def view(G:DH):D->VD
 |.non=>.flat .non
 |.bl b=>.flat (.bl b)
 |.int i=>.flat (.int i)
 |.str x=>.flat (.str x)
 |.ty _=>.bad
 |.tup xs=>.tup xs
 |.fl xs=>.lst xs
 |.ref i=>match G[i]? with
  |some (.lst xs)=>.lst xs
  |_=>.bad
noncomputable def eqZ(f:D->D->Option Bool):List D->List D->Option Bool
 |x::xs,y::ys=>match f x y,eqZ f xs ys with
  |some a,xE b=>xE (a&&b)
  |_,_=>xF
 |_,_=>xE xG
def eqD:Nat->DH->D->D->Option Bool
 |0=>λ_ _ _=>xF
 | n+1=>λG d e=>match view G d,view G e with
  |.flat a,.flat b=>xE (eqV a b)
  |.lst xs,.lst ys=>if xs.length=ys.length then eqZ (eqD n G) xs ys else xE xH
  |.tup xs,.tup ys=>match eqZ (eqD n G) xs ys with
   |some b=>xE (b&&xs.length==ys.length)
   |none=>xF
  |.bad,_=>xF
  |_,.bad=>xF
  |_,_=>xE xH
theorem Pa{f:D->D->Option Bool}:∀{xs ys:List D}{k:Bool},eqZ f xs ys=xE k->∃e:Nat->Bool,(∀(j:Nat)(x y:D),xs[j]?=xE x->ys[j]?=xE y->f x y=xE (e j))/\k=(zx (min xs.length ys.length)).all e
 | [],ys,k,h=>⟨λ_=>xG,λj x y e1 _=>by simp at e1,by
   have h':xE xG=xE k:=by cases ys<;>exact h
   cases h';simp⟩
 |x::xs,[],k,h=>⟨λ_=>xG,λj x y _ e1=>by simp at e1,by have h':xE xG=xE k:=h;cases h';simp⟩
 | x::xs,y::ys,k,h=>by
  unfold eqZ at h;split at h
  ·rename_i a b h1 h2;obtain⟨e,he,hk⟩:=Pa h2;have h':(a&&b)=k:=Option.some.inj h
   refine⟨λj=>match j with |0=>a|j+1=>e j,λj x' y' e1 e2=>?_,?_⟩
   ·cases j with
    |zero=>simp at e1 e2;subst e1;subst e2;exact h1
    |succ j=>exact he j x' y' (by simpa using e1) (by simpa using e2)
   ·rw[<-h',hk];have:min (x::xs).length (y::ys).length=min xs.length ys.length+1:=by simp only[qw];lia
    rw[this,jZ,qN,List.all_map]
    rfl
  ·cases h
theorem Qt(s:Sim a G){x:V}(r:Rep a d x):match view G d with
  |.flat v=>x=v/\Cw v=xG
  |.lst xs=>∃p vs,x=.ref p/\SqL a.K a.H p vs/\Reps a xs vs
  |.tup xs=>∃p vs,x=.ref p/\SqT a.K a.H p vs/\Reps a xs vs
  |.bad=>True:=by
 cases d with
 |non=>exact⟨r,rfl⟩
 |bl b=>exact⟨r,rfl⟩
 |int b=>exact⟨r,rfl⟩
 |str b=>exact⟨r,rfl⟩
 |ty n=>trivial
 |tup xs=>
  obtain⟨p,vs,e,h,q⟩:=r;exact⟨p,vs,e,h,q⟩
 |fl xs=>
  obtain⟨p,vs,e,h,q⟩:=r;exact⟨p,vs,e,h.sq,q⟩
 | ref i=>
  unfold view;dsimp only;split
  ·rename_i v hv
   split at hv<;>cases hv
  ·rename_i xs hv;split at hv
   ·rename_i ys hi;cases hv;obtain⟨vs,e1,r1⟩:=s.lst hi;exact⟨a.m i,vs,r.2,.of e1,r1⟩
   ·cases hv
  ·rename_i xs hv
   split at hv<;>cases hv
  ·trivial
theorem ZDx{y x:V}{u v:j5}(ry:RelV y u)(rx:RelV x v)(fy:Cw y=xG)(fx:Cw x=xG):SeqAt.RcAt A s u v (eqV y x):=by
 cases y with
 |non=>
  cases ry;cases x with
  |non=>cases rx;exact SeqAt.RcAt.none_none
  |bl b=>cases rx;exact SeqAt.RcAt.none_bool b
  |int b=>obtain⟨t,rfl⟩:=rx;exact SeqAt.RcAt.none_int b t
  |str b=>obtain⟨t,rfl⟩:=rx;exact SeqAt.RcAt.none_str b t
  |_=>exact absurd (show xH=xG from fx) zq
 |bl a=>
  cases ry;cases x with
  |non=>cases rx;exact SeqAt.RcAt.bool_none a
  |bl b=>cases rx;exact SeqAt.RcAt.bool_bool a b
  |int b=>obtain⟨t,rfl⟩:=rx;exact SeqAt.RcAt.bool_int a b t
  |str b=>obtain⟨t,rfl⟩:=rx;exact SeqAt.RcAt.bool_str a b t
  |_=>exact absurd (show xH=xG from fx) zq
 |int a=>
  obtain⟨t',rfl⟩:=ry;cases x with
  |non=>cases rx;exact SeqAt.RcAt.int_none a t'
  |bl b=>cases rx;exact SeqAt.RcAt.int_bool a t' b
  |int b=>obtain⟨t,rfl⟩:=rx;exact SeqAt.RcAt.int_int a t' b t
  |str b=>obtain⟨t,rfl⟩:=rx;exact SeqAt.RcAt.int_str a t' b t
  |_=>exact absurd (show xH=xG from fx) zq
 |str a=>
  obtain⟨t',rfl⟩:=ry;cases x with
  |non=>cases rx;exact SeqAt.RcAt.str_none a t'
  |bl b=>cases rx;exact SeqAt.RcAt.str_bool a t' b
  |int b=>obtain⟨t,rfl⟩:=rx;exact SeqAt.RcAt.str_int a t' b t
  |str b=>obtain⟨t,rfl⟩:=rx;exact SeqAt.RcAt.str_str a t' b t
  |_=>exact absurd (show xH=xG from fx) zq
 |_=>exact absurd (show xH=xG from fy) zq
theorem ZGp{y x:V}{u v:j5}(ry:RelV y u)(rx:RelV x v)(fy:Cw y=xG)(fx:Cw x=xG):SeqAt.RcNeAt A s u v (!eqV y x):=by
 cases y with
 |non=>
  cases ry;cases x with
  |non=>cases rx;exact SeqAt.RcNeAt.none_none
  |bl b=>cases rx;exact SeqAt.RcNeAt.none_bool b
  |int b=>obtain⟨t,rfl⟩:=rx;exact SeqAt.RcNeAt.none_int b t
  |str b=>obtain⟨t,rfl⟩:=rx;exact SeqAt.RcNeAt.none_str b t
  |_=>exact absurd (show xH=xG from fx) zq
 |bl a=>
  cases ry;cases x with
  |non=>cases rx;exact SeqAt.RcNeAt.bool_none a
  |bl b=>cases rx;exact SeqAt.RcNeAt.bool_bool a b
  |int b=>obtain⟨t,rfl⟩:=rx;exact SeqAt.RcNeAt.bool_int a b t
  |str b=>obtain⟨t,rfl⟩:=rx;exact SeqAt.RcNeAt.bool_str a b t
  |_=>exact absurd (show xH=xG from fx) zq
 |int a=>
  obtain⟨t',rfl⟩:=ry;cases x with
  |non=>cases rx;exact SeqAt.RcNeAt.int_none a t'
  |bl b=>cases rx;exact SeqAt.RcNeAt.int_bool a t' b
  |int b=>obtain⟨t,rfl⟩:=rx;exact SeqAt.RcNeAt.int_int a t' b t
  |str b=>obtain⟨t,rfl⟩:=rx;exact SeqAt.RcNeAt.int_str a t' b t
  |_=>exact absurd (show xH=xG from fx) zq
 |str a=>
  obtain⟨t',rfl⟩:=ry;cases x with
  |non=>cases rx;exact SeqAt.RcNeAt.str_none a t'
  |bl b=>cases rx;exact SeqAt.RcNeAt.str_bool a t' b
  |int b=>obtain⟨t,rfl⟩:=rx;exact SeqAt.RcNeAt.str_int a t' b t
  |str b=>obtain⟨t,rfl⟩:=rx;exact SeqAt.RcNeAt.str_str a t' b t
  |_=>exact absurd (show xH=xG from fx) zq
 |_=>exact absurd (show xH=xG from fy) zq
end
section
variable{X:Cx}{E:XK}{xD:List (jx×Obj)}{σ:St}{s:j3}
theorem ZGB(v:V)(h:Cw v=xG):eqV v v=xG:=by cases v<;>first|rfl|exact absurd (show xH=xG from h) zq|(simp[eqV])
theorem ZBV(I:Inv X xD σ a.H s)(hk:a.K=X.K)(sm:Sim a G):∀(n:Nat){d e:D}{x:V}{k:Bool},Rep a d x->Rep a e x->eqD n G d e=xE k->k=xG
 |0,_,_,_,_,_,_,h=>by cases h
 | n+1,d,e,x,k,rd,re,h=>by
  have vd:=Qt sm rd;have ve:=Qt sm re;have items:∀{xs ys:List D}{vs:List V}{b:Bool},Reps a xs vs->Reps a ys vs->eqZ (eqD n G) xs ys=xE b->b=xG:=λ{xs ys vs b}r1 r2 hz=>by obtain⟨f,hf,hb⟩:=Pa hz;rw[hb,zS];intro j hj;have hj':j<min xs.length ys.length:=zO.mp hj;have h1:xs[j]?=xE (xs[j]'(by lia)):=zJ (by lia);have h2:ys[j]?=xE (ys[j]'(by lia)):=zJ (by lia);obtain⟨v1,e1,q1⟩:=r1.get h1;obtain⟨v2,e2,q2⟩:=r2.get h2;rw[e1]at e2;cases e2;exact ZBV I hk sm n q1 q2 (hf j _ _ h1 h2)
  unfold eqD at h
  try dsimp only at h
  revert h vd ve
  cases view G d<;>cases view G e<;>intro vd ve h<;>dsimp only at h vd ve<;>first
   |cases h
   |skip
  ·
   rename_i v w;obtain⟨rfl,f1⟩:=vd;obtain⟨rfl,f2⟩:=ve;exact ZGB _ f1
  ·obtain⟨rfl,f1⟩:=vd;obtain⟨p,vs,e1,_⟩:=ve;subst e1;cases f1
  ·obtain⟨rfl,f1⟩:=vd;obtain⟨p,vs,e1,_⟩:=ve;subst e1;cases f1
  ·obtain⟨rfl,f1⟩:=ve;obtain⟨p,vs,e1,_⟩:=vd;subst e1;cases f1
  ·obtain⟨p,vs,e1,h1,r1⟩:=vd;obtain⟨p',vs',e2,h2,r2⟩:=ve;rw[e1]at e2;cases e2;rw[hk]at h1 h2;cases I.Xf h1 h2;split at h
   ·exact items r1 r2 h
   ·rename_i hl;exact absurd (r1.length.trans r2.length.symm) hl
  ·obtain⟨p,vs,e1,h1,r1⟩:=vd;obtain⟨p',vs',e2,h2,r2⟩:=ve;rw[e1]at e2;cases e2;rw[hk]at h1 h2;obtain⟨_,_,pl,_⟩:=I.list h1;obtain⟨_,_,pt,_⟩:=I.tuple h2;exact absurd rfl (SeqAt.ne_of_list_tuple pl.isList pt)
  ·obtain⟨rfl,f1⟩:=ve;obtain⟨p,vs,e1,_⟩:=vd;subst e1;cases f1
  ·obtain⟨p,vs,e1,h1,r1⟩:=vd;obtain⟨p',vs',e2,h2,r2⟩:=ve;rw[e1]at e2;cases e2;rw[hk]at h1 h2;obtain⟨_,_,pl,_⟩:=I.list h2;obtain⟨_,_,pt,_⟩:=I.tuple h1;exact absurd rfl (SeqAt.ne_of_list_tuple pl.isList pt)
  ·obtain⟨p,vs,e1,h1,r1⟩:=vd;obtain⟨p',vs',e2,h2,r2⟩:=ve;rw[e1]at e2;cases e2;rw[hk]at h1 h2;cases I.Xi h1 h2;split at h
   ·rename_i b hz;have h':(b&&_)=k:=Option.some.inj h;rw[<-h',items r1 r2 hz,r1.length,r2.length];simp
   ·cases h
theorem Ro{its:List j5}(r:Reps a xs vs)(q:Vals vs its)(h:j<its.toArray.size):∃d v,xs[j]?=xE d/\Rep a d v/\RelV v its.toArray[j]:=by
 have hl:j<its.length:=by simpa using h
 have h2:j<vs.length:=by rw[q.length];exact hl
 obtain⟨v,e1⟩:∃v,vs[j]?=xE v:=⟨vs[j],zJ h2⟩;obtain⟨d,e2,rd⟩:=r.get' e1;obtain⟨u,e3,ru⟩:=q.get e1;have e4:u=its.toArray[j]:=by have:its[j]?=xE its[j]:=zJ hl;rw[this]at e3;simpa using(Option.some.inj e3).symm
 exact⟨d,v,e2,rd,by rw[<-e4];exact ru⟩
theorem Rx(I:Inv X xD σ a.H s)(hk:a.K=X.K)(sm:Sim a G):∀(n:Nat){A:jv}{d e:D}{x y:V}{u w:j5}{k:Bool},A.units+n<cLine->Rep a d x->Rep a e y->RelV x u->RelV y w->eqD n G d e=xE k->
  SeqAt.EqAt A s u w k/\SeqAt.RcAt A s u w k/\SeqAt.RcNeAt A s u w (!k)
 |0,_,_,_,_,_,_,_,_,_,_,_,_,_,h=>by cases h
 | n + 1,A,d,e,x,y,u,w,k,hu,rd,re,ru,rw',h=>by
  have vd:=Qt sm rd;have ve:=Qt sm re;have hu1:A.units<cLine:=by lia
  have hu2:A.in1.units+n<cLine:=by show A.units+1+n<cLine;lia
  have same:∀{z:V},Rep a d z->Rep a e z->eqD (n+1) G d e=xE k->k=xG:=λr1 r2 r3=>ZBV I hk sm (n+1) r1 r2 r3
  have h0:=h;unfold eqD at h
  try dsimp only at h
  have refs:∀{p q:jx}{k:Bool},(p=q->k=xG)->SeqAt.RcAt A s (.ref p) (.ref q) k->SeqAt.EqAt A s (.ref p) (.ref q) k:=λ{p q k}hs hr=>by
   by_cases e:p=q
   ·rw[hs e,e];exact SeqAt.EqAt.same _
   ·exact SeqAt.EqAt.of_refs e hr
  revert h vd ve
  cases hvd:view G d<;>cases hve:view G e<;>intro vd ve h<;>dsimp only at h vd ve<;>first
   |cases h
   |skip
  ·
   obtain⟨rfl,f1⟩:=vd;obtain⟨rfl,f2⟩:=ve;exact⟨ZB9 ru rw' f1 f2,ZDx ru rw' f1 f2,ZGp ru rw' f1 f2⟩
  ·
   obtain⟨rfl,f1⟩:=vd;obtain⟨q,vs,rfl,h2,r2⟩:=ve;cases rw';rw[hk]at h2;obtain⟨its,qv,pl,_⟩:=I.list h2;cases x with
   |non=>cases ru;exact⟨SeqAt.EqAt.none_list pl.isList hu1,SeqAt.RcAt.none_list pl.isList hu1,SeqAt.RcNeAt.none_list pl.isList hu1⟩
   |bl b=>cases ru;exact⟨SeqAt.EqAt.bool_list b pl.isList hu1,SeqAt.RcAt.bool_list b pl.isList hu1,SeqAt.RcNeAt.bool_list b pl.isList hu1⟩
   |int b=>obtain⟨t,rfl⟩:=ru;exact⟨SeqAt.EqAt.int_list b t pl.isList hu1,SeqAt.RcAt.int_list b t pl.isList hu1,SeqAt.RcNeAt.int_list b t pl.isList hu1⟩
   |str b=>obtain⟨t,rfl⟩:=ru;exact⟨SeqAt.EqAt.str_list b t pl.isList hu1,SeqAt.RcAt.str_list b t pl.isList hu1,SeqAt.RcNeAt.str_list b t pl.isList hu1⟩
   |_=>exact absurd (show xH=xG from f1) zq
  ·
   obtain⟨rfl,f1⟩:=vd;obtain⟨q,vs,rfl,h2,r2⟩:=ve;cases rw';rw[hk]at h2;obtain⟨its,qv,pl,_⟩:=I.tuple h2;cases x with
   |non=>cases ru;exact⟨SeqAt.EqAt.none_tuple pl hu1,SeqAt.RcAt.none_tuple pl hu1,SeqAt.RcNeAt.none_tuple pl hu1⟩
   |bl b=>cases ru;exact⟨SeqAt.EqAt.bool_tuple b pl hu1,SeqAt.RcAt.bool_tuple b pl hu1,SeqAt.RcNeAt.bool_tuple b pl hu1⟩
   |int b=>obtain⟨t,rfl⟩:=ru;exact⟨SeqAt.EqAt.int_tuple b t pl hu1,SeqAt.RcAt.int_tuple b t pl hu1,SeqAt.RcNeAt.int_tuple b t pl hu1⟩
   |str b=>obtain⟨t,rfl⟩:=ru;exact⟨SeqAt.EqAt.str_tuple b t pl hu1,SeqAt.RcAt.str_tuple b t pl hu1,SeqAt.RcNeAt.str_tuple b t pl hu1⟩
   |_=>exact absurd (show xH=xG from f1) zq
  ·
   obtain⟨rfl,f1⟩:=ve;obtain⟨q,vs,rfl,h2,r2⟩:=vd;cases ru;rw[hk]at h2;obtain⟨its,qv,pl,_⟩:=I.list h2;cases y with
   |non=>cases rw';exact⟨SeqAt.EqAt.list_none pl.isList hu1,SeqAt.RcAt.list_none pl.isList hu1,SeqAt.RcNeAt.list_none pl.isList hu1⟩
   |bl b=>cases rw';exact⟨SeqAt.EqAt.list_bool b pl.isList hu1,SeqAt.RcAt.list_bool b pl.isList hu1,SeqAt.RcNeAt.list_bool b pl.isList hu1⟩
   |int b=>obtain⟨t,rfl⟩:=rw';exact⟨SeqAt.EqAt.list_int b t pl.isList hu1,SeqAt.RcAt.list_int b t pl.isList hu1,SeqAt.RcNeAt.list_int b t pl.isList hu1⟩
   |str b=>obtain⟨t,rfl⟩:=rw';exact⟨SeqAt.EqAt.list_str b t pl.isList hu1,SeqAt.RcAt.list_str b t pl.isList hu1,SeqAt.RcNeAt.list_str b t pl.isList hu1⟩
   |_=>exact absurd (show xH=xG from f1) zq
  ·
   obtain⟨p,vs,rfl,h1,r1⟩:=vd;obtain⟨q,vs',rfl,h2,r2⟩:=ve;cases ru;cases rw';rw[hk]at h1 h2;obtain⟨its,q1,p1,_⟩:=I.list h1;obtain⟨its',q2,p2,_⟩:=I.list h2;have sz1:its.toArray.size=vs.length:=by rw[zW];exact q1.length.symm
   have sz2:its'.toArray.size=vs'.length:=by rw[zW];exact q2.length.symm
   split at h
   ·rename_i hl;obtain⟨f,hf,hb⟩:=Pa h;have hsz:its.toArray.size=its'.toArray.size:=by rw[sz1,sz2,<-r1.length,<-r2.length];exact hl
    have he:∀j(g1:j<its.toArray.size)(g2:j<its'.toArray.size),SeqAt.EqAt A.in1 s its.toArray[j] its'.toArray[j] (f j):=λj g1 g2=>by obtain⟨d1,v1,e1,rd1,rv1⟩:=Ro r1 q1 g1;obtain⟨d2,v2,e2,rd2,rv2⟩:=Ro r2 q2 g2;exact(Rx I hk sm n hu2 rd1 rd2 rv1 rv2 (hf j d1 d2 e1 e2)).1
    have hk':k=(zx its.toArray.size).all f:=by
     rw[hb]
     congr 2
     rw[sz1,<-r1.length,hl];lia
    have rc:SeqAt.RcAt A s (.ref p) (.ref q) k:=by rw[hk'];exact SeqAt.RcAt.lists p1.isList p2.isList hsz hu1 he
    refine⟨refs (λe=>?_) rc,rc,by rw[hk'];exact SeqAt.RcNeAt.lists p1.isList p2.isList hsz hu1 he⟩;subst e;exact same rd re h0
   ·rename_i hl;have h':xH=k:=Option.some.inj h;subst h';have hsz:(its.toArray.size != its'.toArray.size)=xG:=by rw[bne_iff_ne,sz1,sz2,<-r1.length,<-r2.length];exact hl
    refine⟨refs (λe=>?_) (SeqAt.RcAt.lists_lengths p1.isList p2.isList hsz hu1),SeqAt.RcAt.lists_lengths p1.isList p2.isList hsz hu1,SeqAt.RcNeAt.lists_lengths p1.isList p2.isList hsz hu1⟩;subst e;exact same rd re h0
  ·
   obtain⟨p,vs,rfl,h1,r1⟩:=vd;obtain⟨q,vs',rfl,h2,r2⟩:=ve;cases ru;cases rw';rw[hk]at h1 h2;obtain⟨its,q1,p1,_⟩:=I.list h1;obtain⟨its',q2,p2,_⟩:=I.tuple h2;exact⟨SeqAt.EqAt.list_tuple p1.isList p2 hu1,SeqAt.RcAt.list_tuple p1.isList p2 hu1,SeqAt.RcNeAt.list_tuple p1.isList p2 hu1⟩
  ·
   obtain⟨rfl,f1⟩:=ve;obtain⟨q,vs,rfl,h2,r2⟩:=vd;cases ru;rw[hk]at h2;obtain⟨its,qv,pl,_⟩:=I.tuple h2;cases y with
   |non=>cases rw';exact⟨SeqAt.EqAt.tuple_none pl hu1,SeqAt.RcAt.tuple_none pl hu1,SeqAt.RcNeAt.tuple_none pl hu1⟩
   |bl b=>cases rw';exact⟨SeqAt.EqAt.tuple_bool b pl hu1,SeqAt.RcAt.tuple_bool b pl hu1,SeqAt.RcNeAt.tuple_bool b pl hu1⟩
   |int b=>obtain⟨t,rfl⟩:=rw';exact⟨SeqAt.EqAt.tuple_int b t pl hu1,SeqAt.RcAt.tuple_int b t pl hu1,SeqAt.RcNeAt.tuple_int b t pl hu1⟩
   |str b=>obtain⟨t,rfl⟩:=rw';exact⟨SeqAt.EqAt.tuple_str b t pl hu1,SeqAt.RcAt.tuple_str b t pl hu1,SeqAt.RcNeAt.tuple_str b t pl hu1⟩
   |_=>exact absurd (show xH=xG from f1) zq
  ·
   obtain⟨p,vs,rfl,h1,r1⟩:=vd;obtain⟨q,vs',rfl,h2,r2⟩:=ve;cases ru;cases rw';rw[hk]at h1 h2;obtain⟨its,q1,p1,_⟩:=I.tuple h1;obtain⟨its',q2,p2,_⟩:=I.list h2;exact⟨SeqAt.EqAt.tuple_list p1 p2.isList hu1,SeqAt.RcAt.tuple_list p1 p2.isList hu1,SeqAt.RcNeAt.tuple_list p1 p2.isList hu1⟩
  ·
   rename_i xs ys;obtain⟨p,vs,rfl,h1,r1⟩:=vd;obtain⟨q,vs',rfl,h2,r2⟩:=ve;cases ru;cases rw';rw[hk]at h1 h2;obtain⟨its,q1,p1,_⟩:=I.tuple h1;obtain⟨its',q2,p2,_⟩:=I.tuple h2;have sz1:its.toArray.size=xs.length:=by rw[zW,r1.length];exact q1.length.symm
   have sz2:its'.toArray.size=ys.length:=by rw[zW,r2.length];exact q2.length.symm
   split at h
   ·rename_i b hz;have h':(b&&xs.length==ys.length)=k:=Option.some.inj h;obtain⟨f,hf,hb⟩:=Pa hz;have he:∀j(g1:j<its.toArray.size)(g2:j<its'.toArray.size),SeqAt.EqAt A.in1 s its.toArray[j] its'.toArray[j] (f j):=λj g1 g2=>by obtain⟨d1,v1,e1,rd1,rv1⟩:=Ro r1 q1 g1;obtain⟨d2,v2,e2,rd2,rv2⟩:=Ro r2 q2 g2;exact(Rx I hk sm n hu2 rd1 rd2 rv1 rv2 (hf j d1 d2 e1 e2)).1
    have hk':k=((zx (min its.toArray.size its'.toArray.size)).all f&&its.toArray.size==its'.toArray.size):=by rw[<-h',hb,sz1,sz2]
    have rc:SeqAt.RcAt A s (.ref p) (.ref q) k:=by rw[hk'];exact SeqAt.RcAt.tuples p1 p2 hu1 he
    refine⟨refs (λe=>?_) rc,rc,by rw[hk'];exact SeqAt.RcNeAt.tuples p1 p2 hu1 he⟩;subst e;exact same rd re h0
   ·cases h
def Cd(d e:D)(G:DH):R D:=match eqD 30 G d e with
 |some k=>.ok (.bl k) G
 |none=>.bad
def G7(d e:D)(G:DH):R D:=match eqD 30 G d e with
 |some k=>.ok (.bl (!k)) G
 |none=>.bad
theorem Cq(hu:X.A.units+64<cLine):OpR X (jF .Eq) (lR2 X.K E Cd):=by
 intro xD s σ H x y v u Q I rx ry ⟨a,G,d,e,hk,hH,sm,rd,re,q⟩;subst hH;unfold Cd at q;split at q
 ·rename_i k hd;exact(Rx I hk sm 30 (by lia) rd re rx ry hd).2.1 _ _ _ _ ⟨.bl k,a.H,I,rfl,q a _ (Ext.refl a) sm rfl⟩
 ·exact q.elim
theorem Oq(hu:X.A.units+64<cLine):OpR X (jF .NotEq) (lR2 X.K E G7):=by
 intro xD s σ H x y v u Q I rx ry ⟨a,G,d,e,hk,hH,sm,rd,re,q⟩;subst hH;unfold G7 at q;split at q
 ·rename_i k hd;exact(Rx I hk sm 30 (by lia) rd re rx ry hd).2.2 _ _ _ _ ⟨.bl (!k),a.H,I,rfl,q a _ (Ext.refl a) sm rfl⟩
 ·exact q.elim
end
noncomputable abbrev DG:=D->DSt->DH->R DSt
variable{g:DG}
def Ek(E:XK)(a:Wd)(r:R DSt)(Q:St->Hp->Prop):Prop:=match r with
 |.ok S G=>∀(b:Wd)(σ:St),Ext a b->Sim b G->RepS b S σ->Q σ b.H
 |.err x G=>XOk E a x G
 |.bad=>False
def lG(K:PySem.W.Frag)(E:XK)(t:DG):TG:=λv σ H Q=>∃(a:Wd)(S:DSt)(G:DH)(d:D),a.K=K/\a.H=H/\Sim a G/\RepS a S σ/\Rep a d v/\Ek E a (t d S G) Q
def QG(X:Cx)(E:XK)(tg:jk)(t:DG):Prop:=PG X tg (lG X.K E t)
noncomputable abbrev DGs:=List D->DSt->DH->R DSt
def lGs(K:PySem.W.Frag)(E:XK)(t:DGs):TGs:=λvs σ H Q=>∃(a:Wd)(S:DSt)(G:DH)(ds:List D),a.K=K/\a.H=H/\Sim a G/\RepS a S σ/\Reps a ds vs/\Ek E a (t ds S G) Q
def QGs(X:Cx)(E:XK)(tg:List jk)(t:DGs):Prop:=PGs X tg (lGs X.K E t)
noncomputable def gV(i:Nat):DG:=λd S G=>.ok (S.set i (xE d)) G
noncomputable def Df:DGs:=λds S G=>match ds with
 |[]=>.ok S G
 |_=>.bad
def Bk(t:DG)(u:DGs):DGs:=λds S G=>match ds with
 |d::r=>(t d S G).bind λS1 G1=>u r S1 G1
 |[]=>.bad
noncomputable def Cy(n:Nat)(t:DGs):DG:=λd S G=>match d with
 |.tup ds=>if ds.length=n then t ds S G else .bad
 |_=>.bad
theorem Ek.imp{r:R DSt}{Q Q':St->Hp->Prop}(h:Ek E a r Q)(w:∀v H,Q v H->Q' v H):Ek E a r Q':=by
 cases r with
 |ok d G=>exact λb v x s q=>w _ _ (h b v x s q)
 |err e G=>exact h
 |bad=>exact h
theorem Ek.mono(x:Ext a b){r:R DSt}{Q:St->Hp->Prop}(h:Ek E a r Q):Ek E b r Q:=by
 cases r with
 |ok d G=>exact λc v y s q=>h c v (x.trans y) s q
 |err e G=>exact XOk.mono (E:=E) (e:=e) (G:=G) x h
 |bad=>exact h
theorem ZKT{r:R DSt}{f:DSt->DH->R DSt}{Q:St->Hp->Prop}(h:Ek E a (r.bind f) Q):
  Ek E a r (λσ H=>∃(b:Wd)(S:DSt)(G:DH),b.H=H/\Ext a b/\Sim b G/\RepS b S σ/\r=.ok S G/\Ek E b (f S G) Q):=by
 cases r with
 |ok d G=>exact λb v x s q=>⟨b,d,G,rfl,x,s,q,rfl,Ek.mono x h⟩
 |err e G=>exact h
 |bad=>exact h
theorem ZFk{r:R DSt}{f:DSt->DH->SR}(h:Bx E a (r.toS f) W):
  Ek E a r (λσ H=>∃(b:Wd)(S:DSt)(G:DH),b.H=H/\Ext a b/\Sim b G/\RepS b S σ/\r=.ok S G/\Bx E b (f S G) W):=by
 cases r with
 |ok d G=>exact λb v x s q=>⟨b,d,G,rfl,x,s,q,rfl,Bx.mono x h⟩
 |err e G=>exact h
 |bad=>exact h
section
variable{X:Cx}{E:XK}
theorem _root_._L.PG.mono{t t':TG}(h:PG X e t)(w:∀v σ H Q,t' v σ H Q->t v σ H Q):PG X e t':=λxD s σ H v u Q I r q=>h xD s σ H v u Q I r (w v σ H Q q)
theorem _root_._L.PGs.mono{e:List jk}{t t':TGs}(h:PGs X e t)(w:∀v σ H Q,t' v σ H Q->t v σ H Q):PGs X e t':=λxD s σ H v u Q I r q=>h xD s σ H v u Q I r (w v σ H Q q)
theorem Bq(i:Nat){pos:Pos}(hN:X.N.Nodup)(hi:X.N[i]?=xE x:=by rfl)(hx:Loc X.env.scope x:=by first|exact Or.inl rfl|exact Or.inr rfl)
  (hf:X.fn x=xG∨X.env.scope.names.lookup x=xE .local:=by first|exact .inl rfl|exact .inr rfl|assumption):QG X E (.Name x pos) (gV i):=
 (ZFd hN hi hx hf).mono λv σ H Q h=>by obtain⟨a,S,G,d,hk,rfl,s,r,q,h⟩:=h;exact h a _ (Ext.refl a) s (r.set i q)
theorem Kf:QGs X E [] Df:=ZFt.mono λvs σ H Q h=>by
 obtain⟨a,S,G,ds,hk,rfl,s,r,q,h⟩:=h;cases ds with
 |nil=>exact⟨q,h a σ (Ext.refl a) s r⟩
 |cons d ds=>exact h.elim
theorem Dq{es:List jk}{t:DG}{u:DGs}(h1:QG X E e t)(h2:QGs X E es u)
  (hs:(j7 (e::es) X.env).map (·.2)=assign e X.env::(j7 es X.env).map (·.2):=by rfl):QGs X E (e::es) (Bk t u):=(ZEo h1 h2 hs).mono λvs σ H Q h=>by
 obtain⟨a,S,G,ds,hk,rfl,s,r,q,h⟩:=h;cases ds with
 |nil=>exact h.elim
 |cons d ds=>
  obtain⟨v,rest,e1,q1,q2⟩:=q;refine⟨v,rest,e1,a,S,G,d,hk,rfl,s,r,q1,(ZKT h).imp ?_⟩;rintro σ' _ ⟨b,S1,G1,rfl,x,s1,r1,_,h1⟩;exact⟨b,S1,G1,ds,x.k.trans hk,rfl,s1,r1,q2.mono x,h1⟩
theorem K1{es:List jk}{k:Nat}{t:DGs}{n:Nat}{pos:Pos}(hc:X.calm=xG)(h:QGs X E es t)
  (hn:(j7 es X.env).length=n:=by rfl) (hst:(j7 es X.env).findIdx? (·.1)=xF:=by rfl):QG X E (.Tuple es k pos) (Cy n t):=(ZDw hc h hn hst).mono λv σ H Q h=>by
 obtain⟨a,S,G,d,hk,rfl,s,r,q,h⟩:=h;cases d with
 |tup ds=>
  obtain⟨p,vs,e,h1,r1⟩:=q;unfold Cy at h;dsimp only at h;split at h
  ·rename_i hl;exact⟨p,vs,e,by rw[<-hk];exact h1,by rw[<-r1.length];exact hl,a,S,G,ds,hk,rfl,s,r,r1,h⟩
  ·exact h.elim
 |_=>exact h.elim
theorem ZEY{vs':List V}{ds':List D}(s:Sim a G)(hi:i<a.n)(h:a.H (a.m i)=xE (.lst vs))(r:Reps a ds' vs'):
  Ext a (a.put (a.m i) (.lst vs'))/\Sim (a.put (a.m i) (.lst vs')) (G.set i (.lst ds')):=⟨Ext.wr h,s.wr hi h (r.mono (Ext.wr h))⟩
variable{st:j4}{rest:List j4}{t u:DS}{e:jk}{te:DE}{pos:Pos}
noncomputable def sNx:DS:=λS G=>.nx S G
noncomputable def Ah(t u:DS):DS:=λS G=>match t S G with
 |.nx S1 G1=>u S1 G1
 |r=>r
def sEx(te:DE):DS:=λS G=>(te S G).toS λ_ G1=>.nx S G1
def sRt(te:DE):DS:=λS G=>(te S G).toS λd G1=>.rt d G1
def sIf(c:DB)(t u:DS):DS:=λS G=>(c S G).toS λk G1=>if k=xG then t S G1 else u S G1
def sAs(te:DE)(g:DG):DS:=λS G=>(te S G).toS λd G1=>(g d S G1).toS λS2 G2=>.nx S2 G2
theorem Bj:QSs X E [] sNx:=ZGc.mono λW σ H h=>by obtain⟨a,S,G,hk,rfl,s,r,h⟩:=h;exact h a σ (Ext.refl a) s r
theorem Bx.nxOf{t:DS}{K:PySem.W.Frag}(hk:a.K=K)(h:Bx E a (Ah t u S G) W):Bx E a (t S G) {W with nx:=lS K E u W}:=by
 unfold Ah at h
 revert h
 cases t S G<;>intro h
 ·exact λb σ x s r=>⟨b,_,_,x.k.trans hk,rfl,s,r,Bx.mono x h⟩
 all_goals exact h
theorem Aj(h1:QS X E st t)(h2:QSs X E rest u):QSs X E (st::rest) (Ah t u):=(ZAg h1 h2).mono λW σ H h=>by obtain⟨a,S,G,hk,rfl,s,r,h⟩:=h;exact⟨a,S,G,hk,rfl,s,r,h.nxOf hk⟩
theorem Ao(h1:QS X E st t):QSs X E [st] t:=ZDH h1
theorem M4(he:QE X E e te)(hs:swapsWith e xF pos.line X.env=pure xH:=by rfl):QS X E (.Expr e pos) (sEx te):=(ZDg he hs).mono λW σ H h=>by obtain⟨a,S,G,hk,rfl,s,r,h⟩:=h;refine⟨a,S,G,hk,rfl,s,r,(Tn h).imp ?_⟩;rintro v _ ⟨b,d,G1,rfl,x,s1,q,_,h1⟩;exact h1 b σ (Ext.refl b) s1 (r.mono x)
theorem Bb(he:QE X E e te):QS X E (.Return (xE e) pos) (sRt te):=(ZG8 he).mono λW σ H h=>by obtain⟨a,S,G,hk,rfl,s,r,h⟩:=h;refine⟨a,S,G,hk,rfl,s,r,(Tn h).imp ?_⟩;rintro v _ ⟨b,d,G1,rfl,x,s1,q,_,h1⟩;exact h1 b v (Ext.refl b) s1 q
theorem Bg{c:jk}{tc:DB}{a b:List j4}(hc:QT X E c tc)(ha:QSs X E a t)(hb:QSs X E b u):QS X E (.If c a b pos) (sIf tc t u):=(ZHC hc ha hb).mono λW σ H h=>by
 obtain⟨a,S,G,hk,rfl,s,r,h⟩:=h;refine⟨a,S,G,hk,rfl,s,r,(ZF5 h).imp ?_⟩;rintro k _ ⟨b,G1,rfl,x,s1,_,h1⟩;cases k with
 |true=>exact⟨b,S,G1,x.k.trans hk,rfl,s1,r.mono x,h1⟩
 |false=>exact⟨b,S,G1,x.k.trans hk,rfl,s1,r.mono x,h1⟩
theorem Ar(i:Nat){pos':Pos}(hN:X.N.Nodup)(he:QE X E e te)(hi:X.N[i]?=xE x:=by rfl)(hx:Loc X.env.scope x:=by first|exact Or.inl rfl|exact Or.inr rfl)(hs:swapsWith e (xE (.Name x pos')) pos.line X.env=pure xH:=by rfl)
  (hf:X.fn x=xG∨X.env.scope.names.lookup x=xE .local:=by first|exact .inl rfl|exact .inr rfl|assumption):QS X E (.Assign [.Name x pos'] e pos) (sAs te (gV i)):=
 (ZGr hN hi hx he hs hf).mono λW σ H h=>by obtain⟨a,S,G,hk,rfl,s,r,h⟩:=h;refine⟨a,S,G,hk,rfl,s,r,(Tn h).imp ?_⟩;rintro v _ ⟨b,d,G1,rfl,x,s1,q,_,h1⟩;exact h1 b _ (Ext.refl b) s1 ((r.mono x).set i q)
end
noncomputable def aft(r:SR)(k:DSt->DH->SR):SR:=match r with
 |.nx S G=>k S G
 |.ct S G=>k S G
 |.bk S G=>.nx S G
 |r=>r
def Bw(g:DG)(b:DS):List D->DS
 |[],S,G=>.nx S G
 |x::xs,S,G=>(g x S G).toS λS1 G1=>aft (b S1 G1) (Bw g b xs)
def forM(i:Nat)(g:DG)(b:DS):Nat->Nat->DS
 |0,j,S,G=>match G[i]? with
  |some (.lst xs)=>if xs.length<=j then .nx S G else .bad
  |_=>.bad
 | k+1,j,S,G=>match G[i]? with
  |some (.lst xs)=>match xs[j]? with
   |some x=>(g x S G).toS λS1 G1=>aft (b S1 G1) (forM i g b k (j+1))
   |none=>.nx S G
  |_=>.bad
def Dg(f:Nat->DH->Option (Option D))(g:DG)(b:DS):Nat->Nat->DS
 |0,j,S,G=>match f j G with
  |some xF=>.nx S G
  |_=>.bad
 |k+1,j,S,G=>match f j G with
  |some (xE x)=>(g x S G).toS λS1 G1=>aft (b S1 G1) (Dg f g b k (j+1))
  |some xF=>.nx S G
  |none=>.bad
inductive ItD where
 |pure (xs:List D)
 |mt (i:Nat)
 |fn (n:Nat) (f:Nat->DH->Option (Option D))
noncomputable abbrev DI:=DSt->DH->R ItD
def Ds(it:DI)(g:DG)(b:DS):DS:=λS G=>(it S G).toS λJ G1=>match J with
 |.pure xs=>Bw g b xs S G1
 |.mt i=>match G1[i]? with
  |some (.lst xs)=>forM i g b xs.length 0 S G1
  |_=>.bad
 |.fn n f=>Dg f g b n 0 S G1
def RepI(a:Wd):ItD->It->Prop
 |.pure xs,J=>∃vs:List V,Reps a xs vs/\∀b:Wd,Ext a b->∀i,(∀v,vs[i]?=xE v->J.go i b.H/\∀x H',J.yld i b.H x H'->x=v/\H'=b.H)/\(vs.length<=i->J.stop i b.H)
 |.mt k,J=>k<a.n/\∀b:Wd,Ext a b->∀vs,b.H (b.m k)=xE (.lst vs)->∀i,(∀v,vs[i]?=xE v->J.go i b.H/\∀x H',J.yld i b.H x H'->x=v/\H'=b.H)/\(vs.length<=i->J.stop i b.H)
 |.fn _ f,J=>∀b:Wd,Ext a b->∀G,Sim b G->∀i,(∀d,f i G=xE (xE d)->J.go i b.H/\∀x H',J.yld i b.H x H'->∃c:Wd,c.H=H'/\Ext b c/\Sim c G/\Rep c d x)/\(f i G=xE xF->J.stop i b.H)
def outI(E:XK)(a:Wd)(r:R ItD)(Q:It->Hp->Prop):Prop:=match r with
 |.ok J G=>∀(b:Wd)(JJ:It),Ext a b->Sim b G->RepI b J JJ->Q JJ b.H
 |.err x G=>XOk E a x G
 |.bad=>False
def lI(K:PySem.W.Frag)(E:XK)(t:DI):TI:=λσ H Q=>∃(a:Wd)(S:DSt)(G:DH),a.K=K/\a.H=H/\Sim a G/\RepS a S σ/\outI E a (t S G) Q
def QI(X:Cx)(E:XK)(tg iter:jk)(t:DI):Prop:=PI X tg iter (lI X.K E t)
theorem outI.imp{r:R ItD}{Q Q':It->Hp->Prop}(h:outI E a r Q)(w:∀v H,Q v H->Q' v H):outI E a r Q':=by
 cases r with
 |ok d G=>exact λb v x s q=>w _ _ (h b v x s q)
 |err e G=>exact h
 |bad=>exact h
theorem ZJ6{r:R ItD}{f:ItD->DH->SR}(h:Bx E a (r.toS f) W):
  outI E a r (λJ H=>∃(b:Wd)(d:ItD)(G:DH),b.H=H/\Ext a b/\Sim b G/\RepI b d J/\r=.ok d G/\Bx E b (f d G) W):=by
 cases r with
 |ok d G=>exact λb v x s q=>⟨b,d,G,rfl,x,s,q,rfl,Bx.mono x h⟩
 |err e G=>exact h
 |bad=>exact h
theorem ZFc {r:SR} {k:DSt->DH->SR} (h:Bx E a (aft r k) W):
  Bx E a r {W with
            nx:=λσ H=>∃(b:Wd)(S:DSt)(G:DH),b.H=H/\Ext a b/\Sim b G/\RepS b S σ/\Bx E b (k S G) W,
            ct:=λσ H=>∃(b:Wd)(S:DSt)(G:DH),b.H=H/\Ext a b/\Sim b G/\RepS b S σ/\Bx E b (k S G) W,bk:=W.nx}:=by
 cases r with
 |nx S G=>exact λb σ x s q=>⟨b,S,G,rfl,x,s,q,Bx.mono x h⟩
 |ct S G=>exact λb σ x s q=>⟨b,S,G,rfl,x,s,q,Bx.mono x h⟩
 |bk S G=>exact h
 |rt d G=>exact h
 |err x G=>exact h
 |bad=>exact h
noncomputable def mtF(i j:Nat)(G:DH):Option (Option D):=match G[i]? with
 |some (.lst xs)=>xE xs[j]?
 |_=>xF
theorem ZA4{J:It}{n:Nat}(r:RepI a (.pure xs) J):RepI a (.fn n λj _=>xE xs[j]?) J:=by
 obtain⟨vs,rv,h⟩:=r;refine λb x G sm i=>⟨λd e=>?_,λe=>?_⟩
 ·obtain⟨v,ev,q⟩:=rv.get (Option.some.inj e);obtain⟨h1,h2⟩:=(h b x i).1 v ev;refine⟨h1,λy H' hy=>?_⟩;obtain⟨rfl,rfl⟩:=h2 y H' hy;exact⟨b,rfl,Ext.refl b,sm,q.mono x⟩
 ·exact(h b x i).2 (by rw[<-rv.length];exact qO.mp (Option.some.inj e))
theorem ZAj{J:It}{n:Nat}(r:RepI a (.mt k) J):RepI a (.fn n (mtF k)) J:=by
 obtain⟨hk,h⟩:=r;refine λb x G sm i=>?_
 unfold mtF;cases hG:G[k]? with
 |none=>exact⟨λd e=>(by cases e),λe=>(by cases e)⟩
 | some o=>
  cases o with
  |lst xs=>
   obtain⟨vs,e1,rv⟩:=sm.lst hG;refine⟨λd e=>?_,λe=>?_⟩
   ·obtain⟨v,ev,q⟩:=rv.get (Option.some.inj e);obtain⟨h1,h2⟩:=(h b x vs e1 i).1 v ev;refine⟨h1,λy H' hy=>?_⟩;obtain⟨rfl,rfl⟩:=h2 y H' hy;exact⟨b,rfl,Ext.refl b,sm,q⟩
   ·exact(h b x vs e1 i).2 (by rw[<-rv.length];exact qO.mp (Option.some.inj e))
  |_=>exact⟨λd e=>(by cases e),λe=>(by cases e)⟩
theorem ZB8{b:DS}:∀(n j:Nat),j+n=xs.length->Bw g b (xs.drop j)=Dg (λj _=>xE xs[j]?) g b n j
 |0,j,h=>by
  funext S G;rw[qX (by lia)]
  show SR.nx S G=(match xE xs[j]? with |some xF=>SR.nx S G|_=>.bad)
  rw[zN (by lia)]
 |n+1,j,h=>by
  funext S G;have hj:j<xs.length:=by lia
  rw[zM hj]
  show(g xs[j] S G).toS (λS1 G1=>aft (b S1 G1) (Bw g b (xs.drop (j+1))))=(match xE xs[j]? with |some (xE x)=>(g x S G).toS (λS1 G1=>aft (b S1 G1) (Dg (λj _=>xE xs[j]?) g b n (j+1)))|some xF=>SR.nx S G|none=>.bad)
  rw[zJ hj,ZB8 n (j+1) (by lia)]
theorem ZDI{b:DS}:∀(n j:Nat),forM i g b n j=Dg (mtF i) g b n j
 | 0,j=>by
  funext S G;unfold forM Dg mtF;cases G[i]? with
  |none=>rfl
  | some o=>
   cases o with
   |lst xs=>
    dsimp only;by_cases hj:j<xs.length
    ·rw[if_neg (by lia),zJ hj]
    ·rw[if_pos (by lia),zN (by lia)]
   |_=>rfl
 | n+1,j=>by
  funext S G;unfold forM Dg;rw[ZDI n (j+1)];unfold mtF;cases G[i]? with
  |none=>rfl
  | some o=>
   cases o with
   |lst xs=>
    dsimp only
    cases xs[j]?<;>rfl
   |_=>rfl
section
variable{X:Cx}{E:XK}{tg iter:jk}{pos:Pos}
theorem ZJ1{K:PySem.W.Frag}{it:DI}{b:DS}(h:lS K E (Ds it g b) W σ H):tFor (lI K E it) (lG K E g) (lS K E b) W σ H:=by
 obtain⟨a,S,G,hk,rfl,s,r,h⟩:=h;refine⟨a,S,G,hk,rfl,s,r,(ZJ6 h).imp ?_⟩;rintro J _ ⟨a1,d,G1,rfl,x1,s1,q1,_,h1⟩;have k1:a1.K=K:=x1.k.trans hk
 suffices fnc:∃n f,RepI a1 (.fn n f) J/\Bx E a1 (Dg f g b n 0 S G1) W by
  obtain⟨n,f,q1,h1⟩:=fnc;have walk:∀b:Wd,Ext a1 b->∀G,Sim b G->∀i,(∀d,f i G=xE (xE d)->J.go i b.H/\∀x H',J.yld i b.H x H'->∃c:Wd,c.H=H'/\Ext b c/\Sim c G/\Rep c d x)/\(f i G=xE xF->J.stop i b.H):=q1;refine⟨λi m σ H=>∃(c:Wd)(S:DSt)(G:DH),c.H=H/\Ext a1 c/\Sim c G/\RepS c S σ/\Bx E c (Dg f g b m i S G) W,⟨_,a1,S,G1,rfl,Ext.refl _,s1,r.mono x1,h1⟩,?_⟩;rintro i m σ2 _ ⟨c,S2,G2,rfl,x2,s2,r2,h2⟩
  cases m with
  |zero=>
   unfold Dg at h2;split at h2
   ·rename_i hf;exact .inl ⟨(walk c x2 G2 s2 i).2 hf,h2 c σ2 (Ext.refl c) s2 r2⟩
   ·exact h2.elim
  | succ m=>
   unfold Dg at h2;split at h2
   ·rename_i d hf;obtain⟨go,yl⟩:=(walk c x2 G2 s2 i).1 d hf;refine .inr ⟨go,λσ' H'=>∃(c:Wd)(S:DSt)(G:DH),c.H=H'/\Ext a1 c/\Sim c G/\RepS c S σ'/\Bx E c (Dg f g b m (i+1) S G) W,λσ' H' z=>⟨m,zR _,z⟩,λw H' y=>?_⟩;obtain⟨cc,rfl,xx,ss,rd⟩:=yl w H' y;refine⟨cc,S2,G2,d,xx.k.trans (x2.k.trans k1),rfl,ss,r2.mono xx,rd,(ZFk (Bx.mono xx h2)).imp ?_⟩;rintro σ3 _ ⟨c3,S3,G3,rfl,x3,s3,r3,_,h3⟩
    have fin:=ZFc h3;refine⟨c3,S3,G3,x3.k.trans (xx.k.trans (x2.k.trans k1)),rfl,s3,r3,?_⟩
    revert fin
    cases b S3 G3 with
    | nx S4 G4=>
      intro fin c4 σ4 x4 s4 q4;obtain⟨c5,S5,G5,hh,x5,s5,r5,h5⟩:=fin c4 σ4 x4 s4 q4;exact⟨c5,S5,G5,hh,x2.trans (xx.trans (x3.trans x5)),s5,r5,h5⟩
    | ct S4 G4=>
      intro fin c4 σ4 x4 s4 q4;obtain⟨c5,S5,G5,hh,x5,s5,r5,h5⟩:=fin c4 σ4 x4 s4 q4;exact⟨c5,S5,G5,hh,x2.trans (xx.trans (x3.trans x5)),s5,r5,h5⟩
    |bk S4 G4=>exact λfin=>fin
    |rt S4 G4=>exact λfin=>fin
    |err S4 G4=>exact λfin=>fin
    |bad=>exact λfin=>fin
   ·rename_i hf;exact .inl ⟨(walk c x2 G2 s2 i).2 hf,h2 c σ2 (Ext.refl c) s2 r2⟩
   ·exact h2.elim
 cases d with
 |pure xs=>
  have h1':Bx E a1 (Bw g b (xs.drop 0) S G1) W:=h1;rw[ZB8 xs.length 0 (by lia)]at h1';exact⟨_,_,ZA4 q1,h1'⟩
 |mt k=>
  dsimp only at h1;split at h1
  ·rw[ZDI]at h1;exact⟨_,_,ZAj q1,h1⟩
  ·exact h1.elim
 |fn n f=>exact⟨n,f,q1,h1⟩
theorem Fb{body:List j4}{it:DI}{b:DS}(hp:PassesOwn (jS X.prog X.w) X.A X.env X.xe)(hc:X.calm=xG)(hi:QI X E tg iter it)(hg:QG X E tg g)(hb:QSs X E body b)
  (hs:∀x,foldedSetIterable iter X.env x=pure x:=by intro _;rfl):QS X E (.For tg iter body [] pos) (Ds it g b):=(ZGz hp hc hi hg hb hs).mono λ_ _ _ h=>ZJ1 h
theorem _root_._L.PI.mono{t t':TI}(h:PI X tg iter t)(w:∀σ H Q,t' σ H Q->t σ H Q):PI X tg iter t':=λxD s σ H Q I q=>h xD s σ H Q I (w σ H Q q)
noncomputable def sgn(c:Nat):D:=.str ⟨#[c]⟩
def signs(x:Str):List D:=x.cps.toList.map sgn
noncomputable def Its(x:Str):It:=⟨λi _=>i<x.cps.size,λi H v H'=>H'=H/\∃c,x.cps[i]?=xE c/\v=.str ⟨#[c]⟩,λi _=>x.cps.size<=i⟩
theorem ZGb{K:PySem.W.Frag}{tg:jk}(it:jx)(x:Str)(t:Tok):Turn P w K tg (Its x) [it] it (λi h=>h.IsStrIter it "str_ascii_iterator" x t i) where
 mem:=by simp
 obj:=λi h st b hb=>by
  have e:b=it:=by simpa using hb
  subst e;obtain⟨o,e,c,d⟩:=st;exact⟨o,e,λv z=>by rw[d]at z;cases z⟩
 keep:=λi h h' st k=>let⟨o,ho,r⟩:=st;⟨o,k it (by simp) o ho,r⟩
 item:=by
  intro X hP hw hK hc i xD s σ H E I hf st hg;subst hP hw hK;obtain⟨f0,f1,f2,f3,f4,f5⟩:=hf it (by simp);have hi:i<x.cps.size:=hg;refine wpAny_pyNext_ascii_item st (c:=x.cps[i]) (by simp[hi]) λh' st' sb=>?_
  have I1:Inv X xD σ H {s with heap:=h',toks:=s.toks+1}:=I.turned (λb o hb e=>(sb.2 b hb).trans e) f0 f1 f3 f4 f5;obtain⟨o,e,c,d⟩:=id st';exact⟨_,rfl,Mf (s:={s with heap:=h',toks:=s.toks+1}) e c d (by decide) ⟨.str ⟨#[x.cps[i]]⟩,H,I1,⟨_,rfl⟩,⟨rfl,_,by simp[hi],rfl⟩,st',λb hb=>(hf b hb).1⟩⟩
 done:=by intro X hP hw hK hc i xD s σ H E I hf st hg;subst hP hw hK;obtain⟨f0,f1,f2,f3,f4,f5⟩:=hf it (by simp);have hi:x.cps.size<=i:=hg;exact wpAny_pyNext_ascii_end (I.ok.hd hc) st (by simp[hi]) λh' eb=>⟨rfl,I.turned (t':=s.toks) (λb o hb e=>eb b o hb e) f0 f1 f3 f4 f5⟩
 self:=λ_ _ _ _ _ st h=>wpAny_pyIter_striter_ascii st h
theorem ZGf{K:PySem.W.Frag}{tg:jk}(it:jx)(x:Str)(t:Tok):Turn P w K tg (Its x) [it] it (λi h=>h.IsStrIter it "str_iterator" x t i) where
 mem:=by simp
 obj:=λi h st b hb=>by
  have e:b=it:=by simpa using hb
  subst e;obtain⟨o,e,c,d⟩:=st;exact⟨o,e,λv z=>by rw[d]at z;cases z⟩
 keep:=λi h h' st k=>let⟨o,ho,r⟩:=st;⟨o,k it (by simp) o ho,r⟩
 item:=by
  intro X hP hw hK hc i xD s σ H E I hf st hg;subst hP hw hK;obtain⟨f0,f1,f2,f3,f4,f5⟩:=hf it (by simp);have hi:i<x.cps.size:=hg;refine wpAny_pyNext_wide_item st (c:=x.cps[i]) (by simp[hi]) λh' st' sb=>?_
  have I1:Inv X xD σ H {s with heap:=h',toks:=s.toks+1}:=I.turned (λb o hb e=>(sb.2 b hb).trans e) f0 f1 f3 f4 f5;obtain⟨o,e,c,d⟩:=id st';exact⟨_,rfl,Mf (s:={s with heap:=h',toks:=s.toks+1}) e c d (by decide) ⟨.str ⟨#[x.cps[i]]⟩,H,I1,⟨_,rfl⟩,⟨rfl,_,by simp[hi],rfl⟩,st',λb hb=>(hf b hb).1⟩⟩
 done:=by intro X hP hw hK hc i xD s σ H E I hf st hg;subst hP hw hK;obtain⟨f0,f1,f2,f3,f4,f5⟩:=hf it (by simp);have hi:x.cps.size<=i:=hg;exact wpAny_pyNext_wide_end (I.ok.hd hc) st (by simp[hi]) λh' eb=>⟨rfl,I.turned (t':=s.toks) (λb o hb e=>eb b o hb e) f0 f1 f3 f4 f5⟩
 self:=λ_ _ _ _ _ st h=>wpAny_pyIter_striter_wide st h
def iStr(tl:TE):TI:=λσ H R=>tl σ H λx H1=>∃z,x=.str z/\R (Its z) H1
theorem ZEv{l:jk}{tl:TE}(hl:PE X l tl):PI X tg l (iStr tl):=by
 intro xD s σ H R I h;refine thn (hl xD s σ H _ I h) λv s1 ⟨x,H1,I1,r1,q1⟩=>?_
 obtain⟨z,e,q⟩:=q1;subst e;obtain⟨t,rfl⟩:=r1;have fp:∀b∈[s1.heap.objs.size],FpOk X xD H1 b:=λb hb=>by
  have e:b=s1.heap.objs.size:=by simpa using hb
  subst e;exact I1.Kh (zK _) (I1.hok.fresh (zK _))
 cases ha:z.cps.all (· < 128)
 ·refine wpAny_pyIter_wide ha ?_;exact⟨s1.heap.objs.size,[s1.heap.objs.size],_,_,H1,rfl,I1.kept (t':=s1.toks) λb o e=>zQ _ e,ZGf _ z t,⟨_,zy _ rfl,rfl,rfl⟩,fp,q⟩
 ·refine wpAny_pyIter_ascii ha ?_;exact⟨s1.heap.objs.size,[s1.heap.objs.size],_,_,H1,rfl,I1.kept (t':=s1.toks) λb o e=>zQ _ e,ZGb _ z t,⟨_,zy _ rfl,rfl,rfl⟩,fp,q⟩
theorem Reps.signs(x:Str):Reps a (signs x) (x.cps.toList.map λc=>V.str ⟨#[c]⟩):=by
 unfold _D.signs
 induction x.cps.toList with
 |nil=>exact rfl
 |cons c r ih=>exact⟨_,_,rfl,rfl,ih⟩
def Fd:D->DH->R ItD
 |.tup xs,G=>.ok (.pure xs) G
 |.str x,G=>.ok (.pure (signs x)) G
 |.fl xs,G=>.ok (.pure xs) G
 |.ref i,G=>match G[i]? with
  |some (.lst _)=>.ok (.mt i) G
  |_=>.bad
 |_,_=>.bad
def Dr(te:DE):DI:=λS G=>(te S G).bind Fd
theorem Eg(he:QE X E iter te):QI X E tg iter (Dr te):=by
 intro xD s σ H R I h;obtain⟨a,S,G,hk,rfl,sm,r,h⟩:=h;cases ht:te S G with
 |bad=>
  have h':outI E a ((te S G).bind Fd) R:=h;rw[ht]at h';exact h'.elim
 |err e G1=>
  have h':outI E a ((te S G).bind Fd) R:=h;rw[ht]at h';refine Z6 (tg:=tg) he xD s σ a.H R I ⟨a,S,G,hk,rfl,sm,r,?_⟩;rw[ht];exact h'
 | ok d G1=>
  have h':outI E a ((te S G).bind Fd) R:=h;rw[ht]at h';cases d with
  |tup xs=>
   refine ZE0 (tg:=tg) he xD s σ a.H R I ⟨a,S,G,hk,rfl,sm,r,?_⟩;rw[ht];rintro b v x sb ⟨p,vs,rfl,hq,rv⟩;have hq':SqT X.K b.H p vs:=by rw[<-hk,<-x.k];exact hq
   refine⟨p,rfl,⟨vs,hq'⟩,h' b _ x sb ⟨vs,rv,λc y i=>⟨λv hv=>⟨⟨vs,v,?_,hv⟩,λw H' z=>?_⟩,λhl=>⟨vs,?_,hl⟩⟩⟩⟩
   ·have:=y.sqT hq;rw[y.k,x.k,hk]at this;exact this
   ·have:=y.sqT hq;rw[y.k,x.k,hk]at this;exact⟨Option.some.inj ((z.2 vs this).symm.trans hv),z.1⟩
   ·have:=y.sqT hq;rw[y.k,x.k,hk]at this;exact this
  |fl xs=>
   refine Z6 (tg:=tg) he xD s σ a.H R I ⟨a,S,G,hk,rfl,sm,r,?_⟩;rw[ht];rintro b v x sb ⟨p,vs,rfl,hq,rv⟩;have hq':SqL X.K b.H p vs:=by rw[<-hk,<-x.k];exact hq.sq
   refine⟨p,rfl,⟨vs,hq'⟩,h' b _ x sb ⟨vs,rv,λc y i=>⟨λv hv=>⟨⟨vs,v,?_,hv⟩,λw H' z=>?_⟩,λhl=>⟨vs,?_,hl⟩⟩⟩⟩
   ·have:=(y.fzL hq).sq;rw[y.k,x.k,hk]at this;exact this
   ·have:=(y.fzL hq).sq;rw[y.k,x.k,hk]at this;exact⟨Option.some.inj ((z.2 vs this).symm.trans hv),z.1⟩
   ·have:=(y.fzL hq).sq;rw[y.k,x.k,hk]at this;exact this
  |ref k=>
   have h2:outI E a (Fd (.ref k) G1) R:=h';unfold Fd at h2;dsimp only at h2;split at h2
   ·rename_i xs hx;refine Z6 (tg:=tg) he xD s σ a.H R I ⟨a,S,G,hk,rfl,sm,r,?_⟩;rw[ht];rintro b v x sb ⟨hkn,rfl⟩;obtain⟨vs,hx,_⟩:=sb.lst hx;refine⟨b.m k,rfl,⟨vs,.of hx⟩,h2 b _ x sb ⟨hkn,λc y us hu i=>?_⟩⟩;rw[y.m k hkn]at hu;exact⟨λv hv=>⟨⟨us,v,.of hu,hv⟩,λw H' z=>⟨Option.some.inj ((z.2 us (.of hu)).symm.trans hv),z.1⟩⟩,λhl=>⟨us,.of hu,hl⟩⟩
   ·exact h2.elim
  | str z=>
   refine ZEv (tg:=tg) he xD s σ a.H R I ⟨a,S,G,hk,rfl,sm,r,?_⟩;rw[ht];intro b v x sb rv
   cases(show v=V.str z from rv)
   refine⟨z,rfl,h' b _ x sb ⟨_,Reps.signs z,λc y i=>⟨λv hv=>?_,λhl=>?_⟩⟩⟩
   ·rw[zF,z8]at hv;obtain⟨k,hk1,rfl⟩:=hv;have hk2:z.cps[i]?=xE k:=by rw[<-Array.getElem?_toList];exact hk1
    refine⟨(zG.mp hk2).1,λw H' q=>?_⟩;obtain⟨e1,k',e2,e3⟩:=q;rw[hk2]at e2;cases e2;exact⟨e3,e1⟩
   ·rw[zw,qM]at hl;exact hl
  |_=>exact h'.elim
end
noncomputable def Ck(lo:Int)(n:Nat):List D:=(zx n).map λ(k:Nat)=>D.int (lo+(k:Int))
def inR(j:Int):Prop:= -(2^62)<=j/\j<2^62
noncomputable instance (j:Int):Decidable (inR j):=by unfold inR;infer_instance
def rng1(ds:List D)(G:DH):R ItD:=match ds with
 |[.int j]=>if inR j then .ok (.pure (Ck 0 j.toNat)) G else .bad
 |_=>.bad
def Ef(f:List D->DH->R ItD)(ta:DA):DI:=λS G=>(ta S G).bind f
def Bu(np nl:Nat)(b:DS):List D->DH->R D:=λds G=>if ds.length=np then tidy G (match b (ds.map xE++zI nl xF) G with
 |.nx _ G'=>.ok .non G'
 |.rt d G'=>.ok d G'
 |.err x G'=>.err x G'
 |_=>.bad)else .bad
theorem outI.mono(x:Ext a b){r:R ItD}{Q:It->Hp->Prop}(h:outI E a r Q):outI E b r Q:=by
 cases r with
 |ok d G=>exact λc v y s q=>h c v (x.trans y) s q
 |err e G=>exact XOk.mono (E:=E) (e:=e) (G:=G) x h
 |bad=>exact h
theorem ZC6{r:R (List D)}{f:List D->DH->R ItD}{Q:It->Hp->Prop}(h:outI E a (r.bind f) Q):
  Eb E a r (λvs H=>∃(b:Wd)(ds:List D)(G:DH),b.H=H/\Ext a b/\Sim b G/\Reps b ds vs/\r=.ok ds G/\outI E b (f ds G) Q):=by
 cases r with
 |ok d G=>exact λb v x s q=>⟨b,d,G,rfl,x,s,q,rfl,outI.mono x h⟩
 |err e G=>exact h
 |bad=>exact h
section
variable{X:Cx}{E:XK}{tg iter:jk}{pos:Pos}
theorem ZDq(lo:Int)(n:Nat):RepI a (.pure (Ck lo n)) (Itr lo n):=by
 refine⟨(zx n).map λ(k:Nat)=>V.int (lo+(k:Int)),?_,λb x i=>⟨λv hv=>?_,λhl=>?_⟩⟩
 ·unfold Ck;generalize zx n=l
  induction l with
  |nil=>exact rfl
  |cons k l ih=>exact⟨_,_,rfl,rfl,ih⟩
 ·rw[zF]at hv;by_cases hi:i<n
  ·rw[List.getElem?_range hi]at hv;have hv':V.int (lo+(i:Int))=v:=by simpa using hv
   exact⟨hi,λw H' y=>⟨y.2.trans hv',y.1⟩⟩
  ·rw[zN (by simpa using hi)]at hv;cases hv
 ·show n<=i;simpa using hl
theorem Gr{ta:DA}{p pos:Pos}(hg:Gl X "range")(hm:X.mg "range"=xF)(ha:QA X E [e] ta)(hs:xQ [e] X.env=[(xH,eval e X.env)]:=by rfl):QI X E tg (.Call (.Name "range" p) [e] [] pos) (Ef rng1 ta):=
 (ZDt hg hm ha hs).mono λσ H Q h=>by
  obtain⟨a,S,G,hk,rfl,s,r,h⟩:=h;refine⟨a,S,G,hk,rfl,s,r,(ZC6 h).imp ?_⟩;rintro vs _ ⟨b,ds,G1,rfl,x,s1,q,-,h1⟩;unfold rng1 at h1;split at h1
  ·rename_i j;split at h1
   ·rename_i hj;obtain⟨v,r,e1,q1,q2⟩:=q
    cases(show v=V.int j from q1)
    cases(show r=[]from q2)
    exact⟨j,e1,hj.1,hj.2,h1 b _ (Ext.refl b) s1 (ZDq 0 j.toNat)⟩
   ·exact h1.elim
  ·exact h1.elim
end
theorem ZCZ(r:Reps a ds vs)(n m:Nat)(h:n=m):RepS a (ds.map xE++zI n xF) (vs.map xE++zI m xF):=by
 subst h;refine⟨by simp[r.length],λi d hd=>?_⟩;by_cases hi:i<ds.length
 ·rw[zL (by simpa using hi),zF]at hd;cases e:ds[i]? with
  |none=>rw[e]at hd;cases hd
  |some d'=>
   rw[e]at hd;have hd':d'=d:=by simpa using hd
   subst hd';obtain⟨v,ev,q⟩:=r.get e;exact⟨v,by rw[zL (by rw[zw,<-r.length];exact hi),zF,ev];rfl,q⟩
 ·rw[zA (by simpa using hi),qz]at hd
  split at hd<;>cases hd
theorem Cp{K:PySem.W.Frag}{mg:Str->Option j5}{base:Heap}{qual:Str}{st:j4}{f:jx}{fd:jy}{N ps:List Str}{b:DS}(F:Fun K x qual st f fd)(S:FnScope N ps (Aw st))
  (hbody:∀(cdv:j5)(A:jv)(outer:List Env)(s:j3)(H:Hp)(E:XK),Room k (A.deeper (envOfC qual (Aw st) s.heap.objs.size f cdv))->QSs (Fy CX0 P w K mg base N qual (Aw st) f cdv A outer s H E).nox E0 (Eh st) b):
  FnOk P w K mg base CX0 (k+1) f fd ps (lF K (Bu ps.length (N.length-ps.length) b)):=by
 have hlen:∀vs H Q E,lF K (Bu ps.length (N.length-ps.length) b) vs H Q E->vs.length=ps.length:=λvs H Q E h=>by
  obtain⟨a,G,ds,hk,rfl,sm,r,h⟩:=h;unfold Bu at h;split at h
  ·rename_i hl;rw[<-r.length];exact hl
  ·exact h.elim
 refine F.ok S hlen (λcdv A outer s H vs Q E hr h=>?_);refine⟨lS K E0 b,hbody cdv A outer s H E hr,?_⟩;have hl:=hlen vs H Q E h;obtain⟨a,G,ds,hk,rfl,sm,r,h⟩:=h;unfold Bu at h;split at h
 ·have h2:=Za sm h;refine⟨a,ds.map xE++zI (N.length-ps.length) xF,G,hk,rfl,sm,ZCZ r _ _ (by rw[hl]),?_⟩
  revert h2
  cases b (ds.map xE++zI (N.length-ps.length) xF) G with
  |nx S1 G1=>exact λh2 c σ x s1 _=>h2 c .non x s1 rfl
  |rt d G1=>exact λh2=>h2
  |err e G1=>exact λh2=>h2
  |bk S1 G1=>exact λh2=>h2.elim
  |ct S1 G1=>exact λh2=>h2.elim
  |bad=>exact λh2=>h2
 ·exact h.elim
theorem Hc{x:V}(s:Sim a G)(r:Rep a d x)(h:Bs d G=xE xs):∃p vs,x=.ref p/\(SqL a.K a.H p vs∨SqT a.K a.H p vs)/\Reps a xs vs:=by
 cases d with
 |tup ys=>
  have e:ys=xs:=Option.some.inj h;subst e;obtain⟨p,vs,e,q,rr⟩:=r;exact⟨p,vs,e,.inr q,rr⟩
 |fl ys=>
  have e:ys=xs:=Option.some.inj h;subst e;obtain⟨p,vs,e,q,rr⟩:=r;exact⟨p,vs,e,.inl q.sq,rr⟩
 |ref i=>
  unfold Bs at h;dsimp only at h;split at h
  ·rename_i ys hi;have e:ys=xs:=Option.some.inj h;subst e;obtain⟨vs,e1,r1⟩:=s.lst hi;exact⟨a.m i,vs,r.2,.inl (.of e1),r1⟩
  ·cases h
 |_=>cases h
def Ak (d e:D) (G:DH):R D:=match e with
 | .int i=>match d with
  | .str z=>if z.length<=1000000 then(match atI z.cps.toList i with
    |some c=>.ok (.str ⟨#[c]⟩) G
    |none=>.bad)else .bad
  | d=>match Bs d G with
   |some xs=>match atI xs i with
    |some v=>.ok v G
    |none=>.bad
   |none=>.bad
 |_=>.bad
theorem ZGq{i:Int}(r:Reps a xs vs)(h:atI xs i=xE d):∃v,atI vs i=xE v/\Rep a d v:=by
 unfold atI at h⊢;rw[<-r.length];cases e:ixN xs.length i with
 |none=>rw[e]at h;cases h
 |some j=>
  rw[e]at h
  obtain⟨v,ev,q⟩:=r.get (show xs[j]?=xE d from h)
  exact⟨v,ev,q⟩
section
variable{X:Cx}{E:XK}
theorem _root_._L.IxR.mono{r r':R2}(h:IxR X r)(w:∀x y H Q,r' x y H Q->r x y H Q):IxR X r':=λvalue slice xD s σ H x y v u Q I rx ry q hs=>h value slice xD s σ H x y v u Q I rx ry (w _ _ _ _ q) hs
theorem _root_._L.CallR.mono{f:j5}{r r':List V->Hp->VK->Prop}(h:CallR X f r)(w:∀xs H Q,r' xs H Q->r xs H Q):CallR X f r':=λxD s σ H xs us Q I rs q=>h xD s σ H xs us Q I rs (w _ _ _ q)
theorem _root_._L.MtM.mono{id:String}{r r':V->List V->Hp->VK->Prop}(h:MtM X id r)(w:∀x xs H Q,r' x xs H Q->r x xs H Q):MtM X id r':=λxD s σ H x xs v us Q I rx rs q=>h xD s σ H x xs v us Q I rx rs (w _ _ _ _ q)
theorem Am:IxR X (lR2 X.K E Ak):=ZG9.mono λx y H Q h=>by
 obtain⟨a,G,d,e,hk,rfl,s,rd,re,q⟩:=h;cases e with
 | int i=>
  have fin:∀{xs:List D},Bs d G=xE xs->out E a (match atI xs i with |some v=>.ok v G|none=>.bad) Q->rIx X.K x y a.H Q:=λ{xs}hs q=>by
   obtain⟨p,vs,e1,h1,r1⟩:=Hc s rd hs;rw[hk]at h1;split at q
   ·rename_i v hv;obtain⟨u,hu,ru⟩:=ZGq r1 hv;have z:=q a u (Ext.refl a) s ru;rcases h1 with h1|h1
    ·exact .inl ⟨p,vs,i,u,e1,re,h1,hu,z⟩
    ·exact .inr (.inl ⟨p,vs,i,u,e1,re,h1,hu,z⟩)
   ·exact q.elim
  have fin':out E a (match Bs d G with |some xs=>(match atI xs i with |some v=>.ok v G|none=>.bad)|none=>.bad) Q->rIx X.K x y a.H Q:=λq=>by
   cases hs:Bs d G with
   |none=>rw[hs]at q;exact q.elim
   |some xs=>rw[hs]at q;exact fin hs q
  cases d with
  | str z=>
   unfold Ak at q;dsimp only at q;split at q
   ·rename_i hl;split at q
    ·rename_i c hc;exact .inr (.inr ⟨z,i,c,rd,re,z0 hl size6,hc,q a _ (Ext.refl a) s rfl⟩)
    ·exact q.elim
   ·exact q.elim
  |tup ys=>exact fin' q
  |fl ys=>exact fin' q
  |ref j=>exact fin' q
  |_=>exact fin' q
 |_=>exact q.elim
def Fg(ds:List D)(G:DH):R D:=match ds with
 |[.str z]=>if z.length<=1000000 then .ok (.int z.length) G else .bad
 |[d]=>match Bs d G with
  |some xs=>.ok (.int xs.length) G
  |none=>.bad
 |_=>.bad
theorem reps1(r:Reps a [d] vs):∃v,vs=[v]/\Rep a d v:=by
 obtain⟨v,r',e,q,z⟩:=r
 cases(show r'=[]from z)
 exact⟨v,e,q⟩
theorem reps2{d':D}(r:Reps a [d,d'] vs):∃v v',vs=[v,v']/\Rep a d v/\Rep a d' v':=by obtain⟨v,r',e,q,z⟩:=r;obtain⟨v',e',q'⟩:=reps1 z;subst e';exact⟨v,v',e,q,q'⟩
theorem Jh:CallR X (.builtin "len") (lRn X.K E Fg):=(ZF9.or ZKS).mono λvs H Q h=>by
 obtain⟨a,G,ds,hk,rfl,s,r,q⟩:=h;unfold Fg at q;split at q
 ·rename_i z;split at q
  ·rename_i hl;obtain⟨v,rfl,rv⟩:=reps1 r
   cases(show v=V.str z from rv)
   exact .inr ⟨z,rfl,z0 hl size6,q a _ (Ext.refl a) s rfl⟩
  ·exact q.elim
 ·rename_i d _;split at q
  ·rename_i xs hs;obtain⟨v,rfl,rv⟩:=reps1 r;obtain⟨p,us,rfl,h1,r1⟩:=Hc s rv hs;rw[hk]at h1;exact .inl ⟨p,us,rfl,h1,q a _ (Ext.refl a) s (by rw[<-r1.length];exact rfl)⟩
  ·exact q.elim
 ·exact q.elim
def Jc(ds:List D)(G:DH):R D:=match ds with
 |[d]=>match Bs d G with
  |some xs=>.ok (.tup xs) G
  |none=>.bad
 |_=>.bad
theorem Vs:CallR X (.type "tuple") (lRn X.K E Jc):=ZKL.mono λvs H Q h=>by
 obtain⟨a,G,ds,hk,rfl,s,r,q⟩:=h;unfold Jc at q;split at q
 ·rename_i d;split at q
  ·rename_i xs hs;obtain⟨v,rfl,rv⟩:=reps1 r;obtain⟨p,us,rfl,h1,r1⟩:=Hc s rv hs;refine⟨p,us,rfl,?_⟩;rcases h1 with h1|h1
   ·exact .inl ⟨by rw[<-hk];exact h1,λl hl=>Xe s r1 q l hl⟩
   ·exact .inr ⟨by rw[<-hk];exact h1,q a _ (Ext.refl a) s ⟨p,us,rfl,h1,r1⟩⟩
  ·exact q.elim
 ·exact q.elim
noncomputable def U5(ds:List D)(G:DH):R D:=match ds with
 |[.int i,.int j]=>.ok (.int (if j>i then j else i)) G
 |_=>.bad
theorem ZHx(hc:X.calm=xG):CallR X (.builtin "max") (lRn X.K E U5):=(ZEk hc).mono λvs H Q h=>by
 obtain⟨a,G,ds,hk,rfl,s,r,q⟩:=h;unfold U5 at q;split at q
 ·obtain⟨v,v',rfl,h1,h2⟩:=reps2 r
  cases(show v=V.int _ from h1)
  cases(show v'=V.int _ from h2)
  exact⟨_,_,rfl,q a _ (Ext.refl a) s rfl⟩
 ·exact q.elim
noncomputable def Mr(ds:List D)(G:DH):R D:=match ds with
 |[.int i]=>.ok (.int i) G
 |[.bl k]=>.ok (.int (if k then 1 else 0)) G
 |_=>.bad
theorem ZAr:CallR X (.type "int") (lRn X.K E Mr):=ZI4.mono λvs H Q h=>by
 obtain⟨a,G,ds,hk,rfl,s,r,q⟩:=h;unfold Mr at q;split at q
 ·obtain⟨v,rfl,h1⟩:=reps1 r
  cases(show v=V.int _ from h1)
  exact .inl ⟨_,rfl,q a _ (Ext.refl a) s rfl⟩
 ·obtain⟨v,rfl,h1⟩:=reps1 r
  cases(show v=V.bl _ from h1)
  exact .inr ⟨_,rfl,q a _ (Ext.refl a) s rfl⟩
 ·exact q.elim
noncomputable def J6(o:D)(ds:List D)(G:DH):R D:=match o,ds with
 |.ref i,[d]=>match G[i]? with
  |some (.lst xs)=>if xs.length<1000000 then .ok .non (G.set i (.lst (xs++[d])))else .bad
  |_=>.bad
 |_,_=>.bad
def lRm(K:PySem.W.Frag)(E:XK)(f:D->List D->DH->R D):V->List V->Hp->VK->Prop:=λx xs H Q=>∃(a:Wd)(G:DH)(d:D)(ds:List D),a.K=K/\a.H=H/\Sim a G/\Rep a d x/\Reps a ds xs/\out E a (f d ds G) Q
theorem Sim.isList(s:Sim a G)(h:G[i]?=xE (.lst xs)):∃vs,SqL a.K a.H (a.m i) vs:=let⟨vs,e,_⟩:=s.lst h;⟨vs,.of e⟩
theorem Mv:MtM X "list.append" (lRm X.K E J6):=ZHN.mono λx xs H Q h=>by
 obtain⟨a,G,d,ds,hk,rfl,s,rd,r,q⟩:=h;unfold J6 at q;split at q
 ·rename_i i d;obtain⟨v,rfl,rv⟩:=reps1 r;split at q
  ·rename_i ys hy;split at q
   ·rename_i hl;obtain⟨vs,e1,r1⟩:=s.lst hy;obtain⟨x3,s3⟩:=ZEY s rd.1 e1 (r1.append (Reps.cons rv Reps.nil));refine⟨a.m i,vs,v,rd.2,rfl,e1,by rw[<-r1.length];exact zZ hl size6,?_⟩;exact q _ .non x3 s3 rfl
   ·exact q.elim
  ·exact q.elim
 ·exact q.elim
variable{o e:jk}{es:List jk}{to:DE}{t:DA}{name:Str}{apos cpos:Pos}{T id:String}{f:D->List D->DH->R D}
noncomputable def isL(d:D)(G:DH):Bool:=match d with
 |.ref i=>match G[i]? with
  |some (.lst _)=>xG
  |_=>xH
 |.fl _=>xG
 |_=>xH
def K8(f:D->List D->DH->R D)(o:DE)(t:DA):DE:=λS G=>(o S G).bind λx G1=>if isL x G1=xG then(t S G1).bind λxs G2=>f x xs G2 else .bad
theorem ZHb{x:V}(s:Sim a G)(r:Rep a d x)(h:isL d G=xG):tyV a.K "list" x a.H:=by
 cases d with
 |ref i=>
  unfold isL at h;dsimp only at h;split at h
  ·rename_i xs hx;cases r.2;exact .inl ⟨rfl,s.isList hx⟩
  ·cases h
 |fl xs=>
  obtain⟨p,vs,rfl,q,_⟩:=r;exact .inl ⟨rfl,vs,q.sq⟩
 |_=>cases h
theorem Oj(slot:Slot "list" name id)(hty:typeOf (.builtin id)=pure (.type "method_descriptor"))(hm:MtM X id (lRm X.K E f))(ho:QE X E o to)(ha:QA X E (e::es) t)
  (hbase:j8 o name X.env (eval o X.env)=eval o X.env:=by rfl)
  (hfew:((j9 cpos (xQ (e::es) X.env)).all (λx=> !x.1)&&(backToKw cpos (keywordEach [] X.env)).all (λx=>x.1.isSome)
   && decide ((e::es).length+([]:List Keyword).length+(if([]:List Keyword).isEmpty then 0 else 1)<30))=xG:=by rfl)
  (hline:(apos.endLine==cpos.line)=xG:=by rfl) (hs:xQ (e::es) X.env=(xH,eval e X.env)::xQ es X.env:=by rfl) (hplain:(j9 cpos (xQ es X.env)).any (·.1)=xH:=by rfl):
  QE X E (.Call (.Attribute o name apos) (e::es) [] cpos) (K8 f to t):=(ZAy PySem.F.plainAttrs_list slot hty hm ho ha hbase hfew hline hs hplain).mono λσ H Q h=>by
 obtain⟨a,S,G,hk,rfl,s,r,h⟩:=h;refine⟨a,S,G,hk,rfl,s,r,(Dz h).imp ?_⟩;rintro v _ ⟨b,d,G1,rfl,x,s1,q,-,h1⟩;split at h1
 ·rename_i hl;have ty:=ZHb s1 q hl;rw[x.k,hk]at ty;refine⟨ty,b,S,G1,x.k.trans hk,rfl,s1,r.mono x,(O5 h1).imp ?_⟩;rintro vs _ ⟨c,ds,G2,rfl,y,s2,q2,-,h2⟩;exact⟨c,G2,d,ds,y.k.trans (x.k.trans hk),rfl,s2,q.mono y,q2,h2⟩
 ·exact h1.elim
end
inductive Ty where|non|bl|int|str|tup|lst
def tyD(G:DH):D->Option Ty
 |.non=>xE .non
 |.bl _=>xE .bl
 |.int _=>xE .int
 |.str _=>xE .str
 |.tup _=>xE .tup
 |.fl _=>xE .lst
 |.ref i=>match G[i]? with
  |some (.lst _)=>xE .lst
  |_=>xF
 |.ty _=>xF
noncomputable def Ty.sub(t:Ty):String->Option Bool
 |"int"=>xE (match t with | .int=>xG | .bl=>xG|_=>xH)
 |"bool"=>xE (match t with | .bl=>xG|_=>xH)
 |"str"=>xE (match t with | .str=>xG|_=>xH)
 |"tuple"=>xE (match t with | .tup=>xG|_=>xH)
 |"list"=>xE (match t with | .lst=>xG|_=>xH)
 |_=>xF
def Ja(ds:List D)(G:DH):R D:=match ds with
 | [d,.ty T]=>match tyD G d with
  |some t=>match t.sub T with
   |some k=>.ok (.bl k) G
   |none=>.bad
  |none=>.bad
 |_=>.bad
section
variable{prog:j1}{w:j6}{A:jv}{E:j5->j3->Prop}{s:j3}
theorem Js{x:j5}{Tx T:String}{Q:j5->j3->Prop}(hx:s.TypeIs x Tx)(hty:typeOf (.type T)=pure (.type "type"))(hsub:jH (.type Tx) (.type T)=pure xG)(h:Q (.bool xG) s):
  xJ (jS prog w) A (call (.builtin "isinstance") [x,.type T]) Q E s:=jD (isinstance_true hty hsub) ⟨hx,h⟩
end
theorem ty_int:typeOf (.type "int")=pure (.type "type"):=by with_unfolding_all rfl
theorem ty_bool:typeOf (.type "bool")=pure (.type "type"):=by with_unfolding_all rfl
theorem ty_str:typeOf (.type "str")=pure (.type "type"):=by with_unfolding_all rfl
theorem ty_tuple:typeOf (.type "tuple")=pure (.type "type"):=by with_unfolding_all rfl
theorem ty_list:typeOf (.type "list")=pure (.type "type"):=by with_unfolding_all rfl
theorem ZD8:jH (.type "NoneType") (.type "int")=pure xH:=by with_unfolding_all rfl
theorem ZIw:jH (.type "NoneType") (.type "bool")=pure xH:=by with_unfolding_all rfl
theorem ZHy:jH (.type "NoneType") (.type "str")=pure xH:=by with_unfolding_all rfl
theorem ZJ7:jH (.type "NoneType") (.type "tuple")=pure xH:=by with_unfolding_all rfl
theorem ZJj:jH (.type "NoneType") (.type "list")=pure xH:=by with_unfolding_all rfl
theorem ZGV:jH (.type "bool") (.type "int")=pure xG:=by with_unfolding_all rfl
theorem ZId:jH (.type "bool") (.type "bool")=pure xG:=by with_unfolding_all rfl
theorem ZFE:jH (.type "bool") (.type "str")=pure xH:=by with_unfolding_all rfl
theorem ZEi:jH (.type "bool") (.type "tuple")=pure xH:=by with_unfolding_all rfl
theorem ZIM:jH (.type "bool") (.type "list")=pure xH:=by with_unfolding_all rfl
theorem ZFM:jH (.type "int") (.type "int")=pure xG:=by with_unfolding_all rfl
theorem ZIW:jH (.type "int") (.type "bool")=pure xH:=by with_unfolding_all rfl
theorem ZJJ:jH (.type "int") (.type "str")=pure xH:=by with_unfolding_all rfl
theorem ZKF:jH (.type "int") (.type "tuple")=pure xH:=by with_unfolding_all rfl
theorem ZGS:jH (.type "int") (.type "list")=pure xH:=by with_unfolding_all rfl
theorem ZH9:jH (.type "str") (.type "int")=pure xH:=by with_unfolding_all rfl
theorem ZFA:jH (.type "str") (.type "bool")=pure xH:=by with_unfolding_all rfl
theorem ZD2:jH (.type "str") (.type "str")=pure xG:=by with_unfolding_all rfl
theorem ZHT:jH (.type "str") (.type "tuple")=pure xH:=by with_unfolding_all rfl
theorem ZJB:jH (.type "str") (.type "list")=pure xH:=by with_unfolding_all rfl
theorem ZEc:jH (.type "tuple") (.type "int")=pure xH:=by with_unfolding_all rfl
theorem ZEH:jH (.type "tuple") (.type "bool")=pure xH:=by with_unfolding_all rfl
theorem ZE5:jH (.type "tuple") (.type "str")=pure xH:=by with_unfolding_all rfl
theorem ZE6:jH (.type "tuple") (.type "tuple")=pure xG:=by with_unfolding_all rfl
theorem ZGU:jH (.type "tuple") (.type "list")=pure xH:=by with_unfolding_all rfl
theorem ZAD:jH (.type "list") (.type "int")=pure xH:=by with_unfolding_all rfl
theorem ZCO:jH (.type "list") (.type "bool")=pure xH:=by with_unfolding_all rfl
theorem ZCz:jH (.type "list") (.type "str")=pure xH:=by with_unfolding_all rfl
theorem ZB2:jH (.type "list") (.type "tuple")=pure xH:=by with_unfolding_all rfl
theorem ZC7:jH (.type "list") (.type "list")=pure xG:=by with_unfolding_all rfl
section
variable{X:Cx}{E:XK}
theorem Vx:CallR X (.builtin "isinstance") (lRn X.K E Ja):=by
 intro xD s σ H vs us Q I rs h;obtain⟨a,G,ds,hk,rfl,sm,r,q⟩:=h;unfold Ja at q;split at q
 ·rename_i d T;obtain⟨v,v',rfl,h1,h2⟩:=reps2 r
  cases(show v'=V.ty T from h2)
  obtain⟨u,u',rfl,ru,ru'⟩:∃u u',us=[u,u']/\RelV v u/\RelV (.ty T) u':=by
   cases rs with
   |cons p q=>cases q with
    |cons p' q'=>cases q';exact⟨_,_,rfl,p,p'⟩
  cases(show u'=Value.type T from ru')
  split at q
  ·rename_i t ht;split at q
   ·rename_i k hk';have fin:∀{n:Nat},EP X xD σ Q (.bool k) {s with toks:=n}:=λ{n}=>⟨.bl k,a.H,I.tok _,rfl,q a _ (Ext.refl a) sm rfl⟩
    have fin0:EP X xD σ Q (.bool k) s:=⟨.bl k,a.H,I,rfl,q a _ (Ext.refl a) sm rfl⟩;unfold Ty.sub at hk';split at hk'
    ·cases d with
     |non=>
      cases ht;cases hk'
      cases(show v=_ from h1)
      cases ru;exact jD (jM (by decide) ty_int ZD8) fin
     |bl b=>
      cases ht;cases hk'
      cases(show v=_ from h1)
      cases ru;exact Js (Tx:="bool") rfl ty_int ZGV fin0
     |int b=>
      cases ht;cases hk'
      cases(show v=_ from h1)
      obtain⟨tk,rfl⟩:=ru;exact Js (Tx:="int") (typeIs_int s _ _) ty_int ZFM fin0
     |str b=>
      cases ht;cases hk'
      cases(show v=_ from h1)
      obtain⟨tk,rfl⟩:=ru;exact jD (jN (by decide) ty_int ZH9) fin
     |tup b=>
      cases ht;cases hk';obtain⟨p,ws,rfl,hq,_⟩:=h1;cases ru;rw[hk]at hq;obtain⟨its,_,pl,_⟩:=I.tuple hq;exact jD (jO (by decide) ty_int ZEc) ⟨(let⟨o,e,c,_⟩:=pl;⟨o,e,c⟩),fin⟩
     |fl b=>
      cases ht;cases hk';obtain⟨p,ws,rfl,hq,_⟩:=h1;cases ru;have hq:=hq.sq;rw[hk]at hq;obtain⟨its,_,pl,_⟩:=I.list hq;exact jD (jL (by decide) ty_int ZAD) ⟨(let⟨o,e,c,_⟩:=pl.isList;⟨o,e,c⟩),fin⟩
     |ref b=>
      unfold tyD at ht;dsimp only at ht;split at ht
      ·rename_i xs hx;cases ht;cases hk';obtain⟨ws,e1,_⟩:=sm.lst hx;cases h1.2;cases ru;obtain⟨its,_,pl,_⟩:=I.list (.of e1);exact jD (jL (by decide) ty_int ZAD) ⟨(let⟨o,e,c,_⟩:=pl.isList;⟨o,e,c⟩),fin⟩
      ·cases ht
     |ty n=>cases ht
    ·cases d with
     |non=>
      cases ht;cases hk'
      cases(show v=_ from h1)
      cases ru;exact jD (jM (by decide) ty_bool ZIw) fin
     |bl b=>
      cases ht;cases hk'
      cases(show v=_ from h1)
      cases ru;exact Js (Tx:="bool") rfl ty_bool ZId fin0
     |int b=>
      cases ht;cases hk'
      cases(show v=_ from h1)
      obtain⟨tk,rfl⟩:=ru;exact jD (jI (by decide) ty_bool ZIW) fin
     |str b=>
      cases ht;cases hk'
      cases(show v=_ from h1)
      obtain⟨tk,rfl⟩:=ru;exact jD (jN (by decide) ty_bool ZFA) fin
     |tup b=>
      cases ht;cases hk';obtain⟨p,ws,rfl,hq,_⟩:=h1;cases ru;rw[hk]at hq;obtain⟨its,_,pl,_⟩:=I.tuple hq;exact jD (jO (by decide) ty_bool ZEH) ⟨(let⟨o,e,c,_⟩:=pl;⟨o,e,c⟩),fin⟩
     |fl b=>
      cases ht;cases hk';obtain⟨p,ws,rfl,hq,_⟩:=h1;cases ru;have hq:=hq.sq;rw[hk]at hq;obtain⟨its,_,pl,_⟩:=I.list hq;exact jD (jL (by decide) ty_bool ZCO) ⟨(let⟨o,e,c,_⟩:=pl.isList;⟨o,e,c⟩),fin⟩
     |ref b=>
      unfold tyD at ht;dsimp only at ht;split at ht
      ·rename_i xs hx;cases ht;cases hk';obtain⟨ws,e1,_⟩:=sm.lst hx;cases h1.2;cases ru;obtain⟨its,_,pl,_⟩:=I.list (.of e1);exact jD (jL (by decide) ty_bool ZCO) ⟨(let⟨o,e,c,_⟩:=pl.isList;⟨o,e,c⟩),fin⟩
      ·cases ht
     |ty n=>cases ht
    ·cases d with
     |non=>
      cases ht;cases hk'
      cases(show v=_ from h1)
      cases ru;exact jD (jM (by decide) ty_str ZHy) fin
     |bl b=>
      cases ht;cases hk'
      cases(show v=_ from h1)
      cases ru;exact jD (isinstance_false_bool (by decide) ty_str ZFE) fin
     |int b=>
      cases ht;cases hk'
      cases(show v=_ from h1)
      obtain⟨tk,rfl⟩:=ru;exact jD (jI (by decide) ty_str ZJJ) fin
     |str b=>
      cases ht;cases hk'
      cases(show v=_ from h1)
      obtain⟨tk,rfl⟩:=ru;exact Js (Tx:="str") (typeIs_str s _ _) ty_str ZD2 fin0
     |tup b=>
      cases ht;cases hk';obtain⟨p,ws,rfl,hq,_⟩:=h1;cases ru;rw[hk]at hq;obtain⟨its,_,pl,_⟩:=I.tuple hq;exact jD (jO (by decide) ty_str ZE5) ⟨(let⟨o,e,c,_⟩:=pl;⟨o,e,c⟩),fin⟩
     |fl b=>
      cases ht;cases hk';obtain⟨p,ws,rfl,hq,_⟩:=h1;cases ru;have hq:=hq.sq;rw[hk]at hq;obtain⟨its,_,pl,_⟩:=I.list hq;exact jD (jL (by decide) ty_str ZCz) ⟨(let⟨o,e,c,_⟩:=pl.isList;⟨o,e,c⟩),fin⟩
     |ref b=>
      unfold tyD at ht;dsimp only at ht;split at ht
      ·rename_i xs hx;cases ht;cases hk';obtain⟨ws,e1,_⟩:=sm.lst hx;cases h1.2;cases ru;obtain⟨its,_,pl,_⟩:=I.list (.of e1);exact jD (jL (by decide) ty_str ZCz) ⟨(let⟨o,e,c,_⟩:=pl.isList;⟨o,e,c⟩),fin⟩
      ·cases ht
     |ty n=>cases ht
    ·cases d with
     |non=>
      cases ht;cases hk'
      cases(show v=_ from h1)
      cases ru;exact jD (jM (by decide) ty_tuple ZJ7) fin
     |bl b=>
      cases ht;cases hk'
      cases(show v=_ from h1)
      cases ru;exact jD (isinstance_false_bool (by decide) ty_tuple ZEi) fin
     |int b=>
      cases ht;cases hk'
      cases(show v=_ from h1)
      obtain⟨tk,rfl⟩:=ru;exact jD (jI (by decide) ty_tuple ZKF) fin
     |str b=>
      cases ht;cases hk'
      cases(show v=_ from h1)
      obtain⟨tk,rfl⟩:=ru;exact jD (jN (by decide) ty_tuple ZHT) fin
     |tup b=>
      cases ht;cases hk';obtain⟨p,ws,rfl,hq,_⟩:=h1;cases ru;rw[hk]at hq;obtain⟨its,_,pl,_⟩:=I.tuple hq;exact Js (Tx:="tuple") pl.typeIs ty_tuple ZE6 fin0
     |fl b=>
      cases ht;cases hk';obtain⟨p,ws,rfl,hq,_⟩:=h1;cases ru;have hq:=hq.sq;rw[hk]at hq;obtain⟨its,_,pl,_⟩:=I.list hq;exact jD (jL (by decide) ty_tuple ZB2) ⟨(let⟨o,e,c,_⟩:=pl.isList;⟨o,e,c⟩),fin⟩
     |ref b=>
      unfold tyD at ht;dsimp only at ht;split at ht
      ·rename_i xs hx;cases ht;cases hk';obtain⟨ws,e1,_⟩:=sm.lst hx;cases h1.2;cases ru;obtain⟨its,_,pl,_⟩:=I.list (.of e1);exact jD (jL (by decide) ty_tuple ZB2) ⟨(let⟨o,e,c,_⟩:=pl.isList;⟨o,e,c⟩),fin⟩
      ·cases ht
     |ty n=>cases ht
    ·cases d with
     |non=>
      cases ht;cases hk'
      cases(show v=_ from h1)
      cases ru;exact jD (jM (by decide) ty_list ZJj) fin
     |bl b=>
      cases ht;cases hk'
      cases(show v=_ from h1)
      cases ru;exact jD (isinstance_false_bool (by decide) ty_list ZIM) fin
     |int b=>
      cases ht;cases hk'
      cases(show v=_ from h1)
      obtain⟨tk,rfl⟩:=ru;exact jD (jI (by decide) ty_list ZGS) fin
     |str b=>
      cases ht;cases hk'
      cases(show v=_ from h1)
      obtain⟨tk,rfl⟩:=ru;exact jD (jN (by decide) ty_list ZJB) fin
     |tup b=>
      cases ht;cases hk';obtain⟨p,ws,rfl,hq,_⟩:=h1;cases ru;rw[hk]at hq;obtain⟨its,_,pl,_⟩:=I.tuple hq;exact jD (jO (by decide) ty_list ZGU) ⟨(let⟨o,e,c,_⟩:=pl;⟨o,e,c⟩),fin⟩
     |fl b=>
      cases ht;cases hk';obtain⟨p,ws,rfl,hq,_⟩:=h1;cases ru;have hq:=hq.sq;rw[hk]at hq;obtain⟨its,_,pl,_⟩:=I.list hq;exact Js (Tx:="list") pl.isList.typeIs ty_list ZC7 fin0
     |ref b=>
      unfold tyD at ht;dsimp only at ht;split at ht
      ·rename_i xs hx;cases ht;cases hk';obtain⟨ws,e1,_⟩:=sm.lst hx;cases h1.2;cases ru;obtain⟨its,_,pl,_⟩:=I.list (.of e1);exact Js (Tx:="list") pl.isList.typeIs ty_list ZC7 fin0
      ·cases ht
     |ty n=>cases ht
    ·cases hk'
   ·exact q.elim
  ·exact q.elim
 ·exact q.elim
end
noncomputable def Ed:List D->Option (List Int)
 |[]=>xE []
 |.int i::r=>(Ed r).map (i::·)
 |_=>xF
noncomputable def Er:List D->Option (List Bool)
 |[]=>xE []
 |.bl i::r=>(Er r).map (i::·)
 |_=>xF
@[simp]theorem ZAM(ns:List Int):Ed (ns.map D.int)=xE ns:=by
 induction ns with
 |nil=>rfl
 |cons n ns ih=>simp[Ed,ih]
@[simp]theorem ZLU(ns:List Bool):Er (ns.map D.bl)=xE ns:=by
 induction ns with
 |nil=>rfl
 |cons n ns ih=>simp[Er,ih]
theorem U8:∀{xs:List D}{ns:List Int},Ed xs=xE ns->xs=ns.map D.int
 |[],ns,h=>by cases h;rfl
 |.int i::r,ns,h=>by simp only[Ed,z8]at h;obtain⟨ms,h1,rfl⟩:=h;rw[zj,U8 h1]
 |.non::r,ns,h=>by simp[Ed]at h
 |.bl _::r,ns,h=>by simp[Ed]at h
 |.str _::r,ns,h=>by simp[Ed]at h
 |.ty _::r,ns,h=>by simp[Ed]at h
 |.tup _::r,ns,h=>by simp[Ed]at h
 |.fl _::r,ns,h=>by simp[Ed]at h
 |.ref _::r,ns,h=>by simp[Ed]at h
theorem Xb:∀{xs:List D}{ns:List Bool},Er xs=xE ns->xs=ns.map D.bl
 |[],ns,h=>by cases h;rfl
 |.bl i::r,ns,h=>by simp only[Er,z8]at h;obtain⟨ms,h1,rfl⟩:=h;rw[zj,Xb h1]
 |.non::r,ns,h=>by simp[Er]at h
 |.int _::r,ns,h=>by simp[Er]at h
 |.str _::r,ns,h=>by simp[Er]at h
 |.ty _::r,ns,h=>by simp[Er]at h
 |.tup _::r,ns,h=>by simp[Er]at h
 |.fl _::r,ns,h=>by simp[Er]at h
 |.ref _::r,ns,h=>by simp[Er]at h
def Ju(ds:List D)(G:DH):R D:=match ds with
 | [d]=>match Bs d G with
  |some xs=>match Ed xs with
   |some ns=>.ok (.int ns.sum) G
   |none=>.bad
  |none=>.bad
 |_=>.bad
def Nz(ds:List D)(G:DH):R D:=match ds with
 | [d]=>match Bs d G with
  |some xs=>match Er xs with
   |some ns=>.ok (.bl (ns.all id)) G
   |none=>.bad
  |none=>.bad
 |_=>.bad
def Lz(ds:List D)(G:DH):R D:=match ds with
 | [d]=>match Bs d G with
  |some xs=>match Er xs with
   |some ns=>.ok (.bl (ns.any id)) G
   |none=>.bad
  |none=>.bad
 |_=>.bad
section
variable{X:Cx}{E:XK}{xD:List (jx×Obj)}{σ:St}{s:j3}{H:Hp}
theorem Nb(I:Inv X xD σ H s)(hc:X.calm=xG)(h:SqL X.K H p vs∨SqT X.K H p vs){E':j5->j3->Prop}{Q:j5->j3->Prop}
  (hQ:∀(it:jx)(fp wr:List jx)(its:List j5)(St:Nat->Heap->Prop)(s₂:j3),Vals vs its->Walks X.prog X.w X.A.in1 it fp wr its.toArray.size (λi v=>its.toArray[i]?=xE v) St->St 0 s₂.heap->(∀b∈fp,b<s₂.heap.objs.size)->
   (∀h' tk,(∀b o,b∉wr->s₂.heap.get? b=xE o->h'.get? b=xE o)->Inv X xD σ H {s₂ with heap:=h',toks:=tk})->Q (.ref it) s₂):
  xJ (jS X.prog X.w) X.A.in1 (pyIter (.ref p)) Q E' s:=by
 have hh:X.A.in1.handled=xF:=I.ok.hd hc;rcases h with h|h
 ·obtain⟨its,r,pl,hz⟩:=I.list h;refine wpAny_pyIter_list pl.isList ?_;have hp:p<s.heap.objs.size:=by obtain⟨o,e,_⟩:=pl.isList;exact zV e
  refine hQ _ _ _ its _ _ r (Walks.list hh _ p (zC hp) its.toArray) ⟨⟨_,zy _ rfl,rfl,rfl⟩,?_⟩ (λb hb=>?_) λh' tk kk=>?_
  ·obtain⟨o,e,c⟩:=pl.isList;exact⟨o,zQ _ e,c⟩
  ·show b<(s.heap.push _).objs.size;rw[qE];rcases zz.mp hb with rfl|hb
   ·exact zR _
   ·have e:b=p:=by simpa using hb
    subst e;exact Nat.lt_succ_of_lt hp
  ·refine I.kept λb o e=>kk b o (λhb=>?_) (zQ _ e)
   have e2:b=s.heap.objs.size:=by simpa using hb
   subst e2;exact absurd (zV e) (zE _)
 ·obtain⟨its,r,pl,hz⟩:=I.tuple h
  refine wpAny_pyIter_tuple (show s.heap.IsTuple p its.toArray from pl) ?_
  have hp:p<s.heap.objs.size:=by obtain⟨o,e,_⟩:=pl;exact zV e
  refine hQ _ _ _ its _ _ r (Walks.tuple hh _ p (zC hp) its.toArray) ⟨⟨_,zy _ rfl,rfl,rfl⟩,?_⟩ (λb hb=>?_) λh' tk kk=>?_
  ·obtain⟨o,e,c⟩:=pl;exact⟨o,zQ _ e,c⟩
  ·show b<(s.heap.push _).objs.size;rw[qE];rcases zz.mp hb with rfl|hb
   ·exact zR _
   ·have e:b=p:=by simpa using hb
    subst e;exact Nat.lt_succ_of_lt hp
  ·refine I.kept λb o e=>kk b o (λhb=>?_) (zQ _ e)
   have e2:b=s.heap.objs.size:=by simpa using hb
   subst e2;exact absurd (zV e) (zE _)
theorem ZAo(ns:List Int):∀n,n<=ns.length->preSum (λi=>ns.getD i 0) n=(ns.take n).sum
 |0,_=>by simp[preSum]
 |n+1,h=>by have hn:n<ns.length:=h;rw[preSum,ZAo ns n (by lia),List.take_succ_eq_append_getElem hn,List.sum_append];simp[hn]
theorem Pz:∀{ns:List Int}{vs:List V},Reps a (ns.map D.int) vs->vs=ns.map V.int
 |[],vs,h=>h
 |n::ns,vs,h=>by
  obtain⟨v,r,e,h1,h2⟩:=h
  cases(show v=V.int n from h1)
  rw[e,Pz h2]
  rfl
theorem Yy:∀{ns:List Bool}{vs:List V},Reps a (ns.map D.bl) vs->vs=ns.map V.bl
 |[],vs,h=>h
 |n::ns,vs,h=>by
  obtain⟨v,r,e,h1,h2⟩:=h
  cases(show v=V.bl n from h1)
  rw[e,Yy h2]
  rfl
theorem ZCy(hc:X.calm=xG):CallR X (.builtin "sum") (lRn X.K E Ju):=by
 intro xD s σ H vs us Q I rs h;obtain⟨a,G,ds,hk,rfl,sm,r,q⟩:=h;unfold Ju at q;split at q
 ·rename_i d;obtain⟨v,rfl,rv⟩:=reps1 r;split at q
  ·rename_i xs hs;split at q
   ·rename_i ns hn;cases U8 hn;obtain⟨p,ws,rfl,h1,r1⟩:=Hc sm rv hs;cases Pz r1;rw[hk]at h1;obtain⟨u,rfl,ru⟩:=vals1 rs;cases ru;refine call_sum_walkG (Nb I hc h1 λit fp wr its St s₂ hv W st hfp fin=>⟨it,fp,wr,its.toArray.size,_,St,λi=>ns.getD i 0,rfl,W,st,hfp,λi w hw=>?_,λh' tk t' kk=>?_⟩)
    ·have hw':its[i]?=xE w:=by simpa using hw
     have hl:i<(ns.map V.int).length:=by rw[hv.length];exact(zv.mp hw').1
     have hl':i<ns.length:=by simpa using hl
     obtain⟨u,hu,ru⟩:=hv.get (i:=i) (x:=V.int ns[i]) (by simp[hl']);rw[hw']at hu;cases hu;obtain⟨t,rfl⟩:=ru;exact⟨t,by simp[hl']⟩
    ·refine⟨.int ns.sum,a.H,fin h' tk kk,⟨t',?_⟩,q a _ (Ext.refl a) sm rfl⟩;have hl:its.toArray.size=ns.length:=by rw[zW,<-hv.length];simp
     rw[hl,ZAo ns ns.length (zK _),qL]
   ·exact q.elim
  ·exact q.elim
 ·exact q.elim
theorem all_range(ns:List Bool):(zx ns.length).all (λi=>ns.getD i xG)=ns.all id:=by
 rw[Bool.eq_iff_iff,zS,zS];constructor
 ·intro h b hb;obtain⟨i,hi,rfl⟩:=qP hb;simpa[hi]using h i (zO.mpr hi)
 ·intro h i hi;have hi':i<ns.length:=zO.mp hi;simpa[hi']using h ns[i] (qW hi')
theorem any_range(ns:List Bool):(zx ns.length).any (λi=>ns.getD i xG)=ns.any id:=by
 rw[Bool.eq_iff_iff,List.any_eq_true,List.any_eq_true];constructor
 ·rintro⟨i,hi,h⟩;have hi':i<ns.length:=zO.mp hi;exact⟨ns[i],qW hi',by simpa[hi']using h⟩
 ·rintro⟨b,hb,h⟩;obtain⟨i,hi,rfl⟩:=qP hb;exact⟨i,zO.mpr hi,by simpa[hi]using h⟩
theorem ZEU(hc:X.calm=xG):CallR X (.builtin "all") (lRn X.K E Nz):=by
 intro xD s σ H vs us Q I rs h;obtain⟨a,G,ds,hk,rfl,sm,r,q⟩:=h;unfold Nz at q;split at q
 ·rename_i d;obtain⟨v,rfl,rv⟩:=reps1 r;split at q
  ·rename_i xs hs;split at q
   ·rename_i ns hn;cases Xb hn;obtain⟨p,ws,rfl,h1,r1⟩:=Hc sm rv hs;cases Yy r1;rw[hk]at h1;obtain⟨u,rfl,ru⟩:=vals1 rs;cases ru;refine call_all_walk (Nb I hc h1 λit fp wr its St s₂ hv W st hfp fin=>⟨it,fp,wr,its.toArray.size,_,St,λi=>ns.getD i xG,rfl,W,st,λi w s' Q' E' hw hQ'=>?_,λh' tk kk=>?_⟩)
    ·have hw':its[i]?=xE w:=by simpa using hw
     have hl:i<(ns.map V.bl).length:=by rw[hv.length];exact(zv.mp hw').1
     have hl':i<ns.length:=by simpa using hl
     obtain⟨u,hu,ru⟩:=hv.get (i:=i) (x:=V.bl ns[i]) (by simp[hl']);rw[hw']at hu;cases hu;cases ru;refine xA ?_;simpa[hl']using hQ'
    ·refine⟨.bl (ns.all id),a.H,fin h' tk kk,?_,q a _ (Ext.refl a) sm rfl⟩;have hl:its.toArray.size=ns.length:=by rw[zW,<-hv.length];simp
     rw[hl,all_range]
     rfl
   ·exact q.elim
  ·exact q.elim
 ·exact q.elim
theorem ZGv(hc:X.calm=xG):CallR X (.builtin "any") (lRn X.K E Lz):=by
 intro xD s σ H vs us Q I rs h;obtain⟨a,G,ds,hk,rfl,sm,r,q⟩:=h;unfold Lz at q;split at q
 ·rename_i d;obtain⟨v,rfl,rv⟩:=reps1 r;split at q
  ·rename_i xs hs;split at q
   ·rename_i ns hn;cases Xb hn;obtain⟨p,ws,rfl,h1,r1⟩:=Hc sm rv hs;cases Yy r1;rw[hk]at h1;obtain⟨u,rfl,ru⟩:=vals1 rs;cases ru;refine call_any_walk (Nb I hc h1 λit fp wr its St s₂ hv W st hfp fin=>⟨it,fp,wr,its.toArray.size,_,St,λi=>ns.getD i xG,rfl,W,st,λi w s' Q' E' hw hQ'=>?_,λh' tk kk=>?_⟩)
    ·have hw':its[i]?=xE w:=by simpa using hw
     have hl:i<(ns.map V.bl).length:=by rw[hv.length];exact(zv.mp hw').1
     have hl':i<ns.length:=by simpa using hl
     obtain⟨u,hu,ru⟩:=hv.get (i:=i) (x:=V.bl ns[i]) (by simp[hl']);rw[hw']at hu;cases hu;cases ru;refine xA ?_;simpa[hl']using hQ'
    ·refine⟨.bl (ns.any id),a.H,fin h' tk kk,?_,q a _ (Ext.refl a) sm rfl⟩;have hl:its.toArray.size=ns.length:=by rw[zW,<-hv.length];simp
     rw[hl,any_range]
     rfl
   ·exact q.elim
  ·exact q.elim
 ·exact q.elim
end
section
variable{X:Cx}{xD:List (jx×Obj)}{σ:St}{H:Hp}{s:j3}
theorem ZDG{a:jx}{o:HO}(I:Inv X xD σ H s)(hn:H a=xF)(hy:X.s₀.heap.objs.size<=a)(hL:a≠X.env.locals)(hc:∀x c,X.env.cells.lookup x=xE c->c≠a)(hp:∀p∈X.pn++xD,p.1≠a)
  (new:ObjOk X.prog X.w (upd H a o) s.heap a o):Inv X xD σ (upd H a o) s:=by
 have ne:∀b u,H b=xE u->b≠a:=λb u e z=>by rw[z,hn]at e;cases e
 refine⟨I.ok,I.os,I.bare,⟨I.base.keep,I.base.slot,λb ob q n hx=>?_,I.base.there,λb xs q=>?_,λb ob u q=>?_,λb ps q=>?_⟩,I.loc,I.cell,?_,λx c e=>?_,λp hp'=>?_,λb u e=>?_,I.len⟩
 ·rw[Az (zC (zZ (zV q) hy))];exact I.base.free b ob q n hx
 ·have:=I.base.tups b xs q;rw[Az (ne _ _ this)];exact this
 ·have:=I.base.frzs b ob u q;rw[Az (ne _ _ this)];exact this
 ·obtain⟨more,this⟩:=I.base.tbls b ps q;exact⟨more,by rw[Az (ne _ _ this)];exact this⟩
 ·rw[Az (Ne.symm hL)];exact I.free
 ·rw[Az (hc x c e)];exact I.Eo x c e
 ·obtain⟨e1,e2,e3⟩:=I.pin p hp';exact⟨e1,by rw[Az (hp p hp')];exact e2,e3⟩
 ·by_cases hb:b=a
  ·subst hb;rw[Fw]at e;cases e;exact new
  ·rw[Az hb]at e;exact(I.hok b u e).stay (λ_ _ _ q=>q) (λc q=>by rw[Az (ne _ _ q)];exact q) λc xs q=>by rw[Az (ne _ _ q)];exact q
end
noncomputable def Dm(env:Env):List (Str×j0)->List (Str×jx)->List (Str×jx)
 |[],cs=>cs
 |(n,k)::r,cs=>if(k==NameKind.free)=xG then Dm env r ((n,(env.cells.lookup n).getD 0)::cs)else Dm env r cs
theorem ZAd(h:∀y∈scope.names,y.2=.free->∃c,env.cells.lookup y.1=xE c):closureFor scope env=pure (Dm env scope.names []):=by
 unfold closureFor;obtain⟨kind,names,g1,g2⟩:=scope;have key:∀(names:List (Str×j0))(cs:List (Str×jx)),(∀y∈names,y.2=.free->∃c,env.cells.lookup y.1=xE c)->
   (forIn names cs (λx r=>match x with
    |(name,kind)=>if(kind==NameKind.free)=xG then(do let c<-cellOf env name;pure (ForInStep.yield ((name,c)::r)))else pure (ForInStep.yield r)):Sem (List (Str×jx)))=pure (Dm env names cs):=by
  intro names
  induction names with
  |nil=>intro cs _;rfl
  | cons y r ih=>
   intro cs hy;obtain⟨n,k⟩:=y;rw[List.forIn_cons];by_cases hk:(k==NameKind.free)=xG
   ·obtain⟨c,hc⟩:=hy (n,k) zk (by simpa using hk)
    have e1:cellOf env n=pure c:=by unfold cellOf;rw[show env.cells.lookup n=xE c from hc]
    have e2:Dm env ((n,k)::r) cs=Dm env r ((n,c)::cs):=by rw[Dm,if_pos hk,show env.cells.lookup n=xE c from hc];rfl
    rw[e2,<-ih ((n,c)::cs) λy' hy'=>hy y' (zX _ hy')];simp only[hk,if_true,e1]
    rfl
   ·have e2:Dm env ((n,k)::r) cs=Dm env r cs:=by rw[Dm,if_neg hk]
    rw[e2,<-ih cs λy' hy'=>hy y' (zX _ hy')];simp only[hk]
    rfl
 have:=key names [] h;exact congrArg (λm:Sem (List (Str×jx))=>m >>=λr=>pure r) this
theorem Ud:∀{names:List (Str×j0)}{cs:List (Str×jx)},(∀y∈names,y.2=.free->∃c,env.cells.lookup y.1=xE c)->(∀p∈cs,env.cells.lookup p.1=xE p.2)->∀p∈Dm env names cs,env.cells.lookup p.1=xE p.2
 |[],cs,_,hc,p,hp=>hc p hp
 | (n,k)::r,cs,hn,hc,p,hp=>by
  rw[Dm]at hp;split at hp
  ·rename_i hk;obtain⟨c,e⟩:=hn (n,k) zk (by simpa using hk);refine Ud (λy hy=>hn y (zX _ hy)) (λq hq=>?_) p hp;rcases zz.mp hq with rfl|hq
   ·rw[show env.cells.lookup n=xE c from e];rfl
   ·exact hc q hq
  ·exact Ud (λy hy=>hn y (zX _ hy)) hc p hp
theorem Qa:∀{names:List (Str×j0)}{cs:List (Str×jx)},((x,.free)∈names∨∃c,(x,c)∈cs)->∃c,(x,c)∈Dm env names cs
 |[],cs,h=>by
  rcases h with h|h
  ·cases h
  ·exact h
 | (n,k)::r,cs,h=>by
  rw[Dm];split
  ·refine Qa ?_;rcases h with h|⟨c,h⟩
   ·rcases zz.mp h with e|h
    ·cases e;exact .inr ⟨_,zk⟩
    ·exact .inl h
   ·exact .inr ⟨c,zX _ h⟩
  ·rename_i hk;refine Qa ?_;rcases h with h|h
   ·rcases zz.mp h with e|h
    ·cases e;exact absurd rfl hk
    ·exact .inl h
   ·exact .inr h
theorem Va{c:jx}:∀{l:List (Str×jx)},(x,c)∈l->∃d,l.lookup x=xE d
 |[],h=>by cases h
 | (y,d)::l,h=>by
  by_cases e:x=y
  ·subst e;exact⟨d,by simp⟩
  ·rcases zz.mp h with z|h
   ·cases z;exact absurd rfl e
   ·obtain⟨d',q⟩:=Va h;exact⟨d',by rw[qk,beq_eq_false_iff_ne.mpr e];exact q⟩
theorem ZAO(x:Str):(relabel scope env).names.lookup x=(scope.names.lookup x).map λk=>if(k==NameKind.free&&env.scope.kind == .function&&env.kindOf x==xE .cell)=xG then .cell else k:=by
 unfold relabel;generalize scope.names=l
 induction l with
 |nil=>rfl
 | cons y r ih=>
  obtain⟨n,k⟩:=y;by_cases e:x=n
  ·subst e;simp only[zj]
   cases hc:(k==NameKind.free&&env.scope.kind==ScopeKind.function&&env.kindOf x==xE NameKind.cell) <;>
    simp only[hc,if_true,qk,beq_self_eq_true,jz,Bool.false_eq_true,if_false]
  ·have hb:(x==n)=xH:=beq_eq_false_iff_ne.mpr e;simp only[zj];split
   ·rw[qk,qk,hb];exact ih
   ·rw[qk,qk,hb];exact ih
def blk(X:Cx)(N:List Str)(scope:j2)(C:jx)(s₀:j3)(H₀:Hp)(ex:List jx):Cx where
 prog:=X.prog
 w:=X.w
 K:=X.K
 mg:=X.mg
 base:=X.base
 A:=X.A
 N:=N
 s₀:=s₀
 H₀:=H₀
 env:=compEnvC scope (Dm X.env scope.names []) C X.env
 outer:=X.stack
 stack:=X.stack
 ex:=ex
 fn:=λ_=>xH
 calm:=X.calm
 pn:=[]
 xe:=λ_ _=>False
structure CompSc (X:Cx) (N:List Str) (scope:j2) (nt:Nat) (caps:List Nat):Prop where
 kind:scope.kind=.function
 names:∀y∈scope.names,y.2=.local->scope.names.lookup y.1=xE .local
 nocell:∀y∈scope.names,y.2≠ .cell
 free:∀y∈scope.names,y.2=.free->X.env.kindOf y.1=xE .cell∨X.env.kindOf y.1=xE .free
 nd:N.Nodup
 len:N.length=nt+caps.length
 cap:∀(k j:Nat),caps[k]?=xE j->∃x,X.N[j]?=xE x/\N[nt+k]?=xE x/\scope.names.lookup x=xE .free
section
variable{X:Cx}{xD:List (jx×Obj)}{σ:St}{H:Hp}{s:j3}{N:List Str}{scope:j2}{nt:Nat}{caps:List Nat}
theorem CompSc.cells(c:CompSc X N scope nt caps)(ok:X.Ok):∀y∈scope.names,y.2=.free->∃c,X.env.cells.lookup y.1=xE c:=λy hy hk=>ok.has y.1 (c.free y hy hk)
theorem CompSc.cl(c:CompSc X N scope nt caps)(ok:X.Ok){d:jx}(h:(Dm X.env scope.names []).lookup x=xE d):X.env.cells.lookup x=xE d:=
 Ud (c.cells ok) (λp hp=>by cases hp) (x,d) (PySem.mem_of_lookup h)
theorem ZFz(c:CompSc X N scope nt caps)(I:Inv X xD σ H s){fp:List jx}(hf:∀b∈fp,FpOk X xD H b){C:jx}(hC:s.heap.objs.size<=C)(hCf:C∉fp):(blk X N scope C s H fp).Ok where
 mod:=I.ok.mod
 kind:=c.kind
 glob:=I.ok.glob
 blt:=I.ok.blt
 above:=hC
 inj:=λx y d h1 h2=>I.ok.inj x y d (c.cl I.ok h1) (c.cl I.ok h2)
 has:=λx h=>by
  have h':(relabel scope X.env).names.lookup x=xE .cell∨(relabel scope X.env).names.lookup x=xE .free:=h;rw[ZAO]at h';have hfree:scope.names.lookup x=xE .free:=by
   cases e:scope.names.lookup x with
   |none=>rw[e]at h';rcases h' with h'|h'<;>cases h'
   |some k=>
    rw[e]at h';cases k with
    |free=>rfl
    |cell=>exact absurd rfl (c.nocell _ (PySem.mem_of_lookup e))
    |_=>rcases h' with h'|h'<;>(simp at h')
  obtain⟨d,hd⟩:=Qa (env:=X.env) (x:=x) (names:=scope.names) (cs:=[]) (.inl (PySem.mem_of_lookup hfree));exact Va hd
 cab:=λx d h=>by cases h
 hd:=I.ok.hd
 frames:=I.ok.frames
 stk:=.inl rfl
 exf:=λb hb=>⟨λz=>hCf (by rw[<-show b=C from z];exact hb),λx d h=>(hf b hb).2.2.2.2.1 x d (c.cl I.ok h)⟩
 bs:=I.bs
 bsz:=z0 I.ok.bsz I.sz
 noex:=λb o e hb=>by
  rcases(hf b hb).2.2.2.1 with h|h
  ·exact I.ok.noex b o e h
  ·exact absurd (zZ (zV (I.ok.bs b o e).1) h) (zE _)
 exfs:=λb hb hz=>by
  rcases zz.mp (I.Rt b hz)with z|z
  ·exact(hf b hb).2.1 z
  ·exact(hf b hb).2.2.1 z
 funs:=I.stack
 frf:=I.Q8
end
def Cj(g:DG)(c:DB)(te:DE)(S:DSt):List D->DH->R (List D)
 |[],G=>.ok [] G
 | x::xs,G=>(g x S G).bind λS1 G1=>(c S1 G1).bind λk G2=>
   if k=xG then(te S1 G2).bind λd G3=>(Cj g c te S xs G3).bind λds G4=>.ok (d::ds) G4 else Cj g c te S xs G2
def Ew(i:Nat)(g:DG)(c:DB)(te:DE)(S:DSt):Nat->Nat->DH->R (List D)
 |0,j,G=>match G[i]? with
  |some (.lst xs)=>if xs.length<=j then .ok [] G else .bad
  |_=>.bad
 | n + 1,j,G=>match G[i]? with
  |some (.lst xs)=>match xs[j]? with
   | some x=>(g x S G).bind λS1 G1=>(c S1 G1).bind λk G2=>
     if k=xG then(te S1 G2).bind λd G3=>(Ew i g c te S n (j+1) G3).bind λds G4=>.ok (d::ds) G4 else Ew i g c te S n (j+1) G2
   |none=>.ok [] G
  |_=>.bad
def Dp(f:Nat->DH->Option (Option D))(g:DG)(c:DB)(te:DE)(S:DSt):Nat->Nat->DH->R (List D)
 |0,j,G=>match f j G with
  |some xF=>.ok [] G
  |_=>.bad
 | n + 1,j,G=>match f j G with
  |some (xE x)=>(g x S G).bind λS1 G1=>(c S1 G1).bind λk G2=>
     if k=xG then(te S1 G2).bind λd G3=>(Dp f g c te S n (j+1) G3).bind λds G4=>.ok (d::ds) G4 else Dp f g c te S n (j+1) G2
  |some xF=>.ok [] G
  |none=>.bad
noncomputable def Bf(nt:Nat)(caps:List Nat)(S:DSt):DSt:=zI nt xF++caps.map λj=>(S[j]?).join
def Dw(it:DI)(nt:Nat)(caps:List Nat)(g:DG)(c:DB)(te:DE):DE:=λS G=>(it S G).bind λJ G1=>(match J with
 |.pure xs=>Cj g c te (Bf nt caps S) xs G1
 |.mt i=>match G1[i]? with
  |some (.lst xs)=>Ew i g c te (Bf nt caps S) xs.length 0 G1
  |_=>.bad
 |.fn n f=>Dp f g c te (Bf nt caps S) n 0 G1).bind Ay
noncomputable def Cm:DB:=λ_ G=>.ok xG G
def GK(nt:Nat)(g:DG):Prop:=∀d S G S1 G1,g d S G=.ok S1 G1->∀i e,nt<=i->S[i]?=xE (xE e)->S1[i]?=xE (xE e)
def GKs(nt:Nat)(g:DGs):Prop:=∀d S G S1 G1,g d S G=.ok S1 G1->∀i e,nt<=i->S[i]?=xE (xE e)->S1[i]?=xE (xE e)
theorem Dn(h:i<nt):GK nt (gV i):=λd S G S1 G1 e j x hj hx=>by cases e;rw[qH (by lia)];exact hx
theorem Xa:GKs nt Df:=λd S G S1 G1 e j x hj hx=>by
 cases d with
 |nil=>cases e;exact hx
 |cons _ _=>cases e
theorem J9{t:DG}{u:DGs}(h1:GK nt t)(h2:GKs nt u):GKs nt (Bk t u):=λd S G S1 G1 e j x hj hx=>by
 cases d with
 |nil=>cases e
 |cons a r=>
  have e':(t a S G).bind (λS1 G1=>u r S1 G1)=.ok S1 G1:=e;cases ht:t a S G with
  |ok S2 G2=>rw[ht]at e';exact h2 _ _ _ _ _ e' j x hj (h1 _ _ _ _ _ ht j x hj hx)
  |err _ _=>rw[ht]at e';cases e'
  |bad=>rw[ht]at e';cases e'
theorem Z1{n:Nat}{t:DGs}(h:GKs nt t):GK nt (Cy n t):=λd S G S1 G1 e j x hj hx=>by
 cases d with
 |tup ds=>
  unfold Cy at e;dsimp only at e;split at e
  ·exact h _ _ _ _ _ e j x hj hx
  ·cases e
 |_=>cases e
theorem ZGi{r:R DSt}{f:DSt->DH->R D}(h:out E a (r.bind f) Q):
  Ek E a r (λσ H=>∃(b:Wd)(S:DSt)(G:DH),b.H=H/\Ext a b/\Sim b G/\RepS b S σ/\r=.ok S G/\out E b (f S G) Q):=by
 cases r with
 |ok d G=>exact λb v x s q=>⟨b,d,G,rfl,x,s,q,rfl,out.mono x h⟩
 |err e G=>exact h
 |bad=>exact h
theorem R.bind_assoc{β γ:Type}(r:R α)(f:α->DH->R β)(g:β->DH->R γ):(r.bind f).bind g=r.bind λa G=>(f a G).bind g:=by cases r<;>rfl
theorem ZDe{r:R ItD}{f:ItD->DH->R D}(h:out E a (r.bind f) Q):
  outI E a r (λJ H=>∃(b:Wd)(d:ItD)(G:DH),b.H=H/\Ext a b/\Sim b G/\RepI b d J/\r=.ok d G/\out E b (f d G) Q):=by
 cases r with
 |ok d G=>exact λb v x s q=>⟨b,d,G,rfl,x,s,q,rfl,out.mono x h⟩
 |err e G=>exact h
 |bad=>exact h
section
variable{prog:j1}{w:j6}{A:jv}{R':Result->j3->Prop}{s:j3}
theorem ZGA{elt target iter:jk}{ifs:List jk}{scope:j2}{pos:Pos}{it acc:j5}{env:Env}(I:Nat->j3->Prop)
  (turn:∀n s,I n s->xJ (jS prog w) A (pyNext it) (λr s₁=>match r with
   |none=>R' (.ok .next) s₁
   | some v=>xJ (jS prog w) A (jP target it v) (λ_ s₁=>xJ (jS prog w) A (assign target env v) (λ_ s₂=>
     xJ (jS prog w) A (forIn ifs xG λc r=>if r=xG then do let ok<-isTrue c env (eval c env);pure (ForInStep.yield ok)else pure (ForInStep.yield r)) (λok s₃=>
      if ok=xG then xJ (jS prog w) A (eval elt env) (λx s₄=>
       xJ (jS prog w) A (call (.builtin "list.append") [acc,x]) (λ_ s₅=>∃m,m<n/\I m s₅) (λ_ _=>False) s₄) (λ_ _=>False) s₃
      else∃m,m<n/\I m s₃) (λ_ _=>False) s₂) (λ_ _=>False) s₁) (λ_ _=>False) s₁) (λ_ _=>False) s)
  (n:Nat) (h:I n s):
  codeAny (jS prog w) A (.compLoop (.ListComp elt [⟨target,iter,ifs,0⟩] scope pos) 0 it acc env) R' s:=by
 refine codeAny_loop rfl I (λn s hI=>?_) n h
 show xJ _ A ((compTurn (.ListComp elt [⟨target,iter,ifs,0⟩] scope pos) 0 it acc env).onRaise (λx=>do noteFrame x env;theTreesLotGoes x)) _ _ s
 refine wpAny_noted ?_;rw[compTurn_list];refine xz ?_ (λ_ _ q=>q) (λ_ _(f:False)=>f.elim);refine xV (wpAny_standAt (xV (xz (turn n s hI) (λr s₁ h₁=>?_) λ_ _ h'=>h')));cases r with
 |none=>exact xy h₁
 | some v=>
  refine xV (xz h₁ (λ_ s₂' h₁=>?_) λ_ _ h'=>h');refine xV (xz h₁ (λ_ s₂ h₂=>xV (xz h₂ (λok s₃ h₃=>?_) λ_ _ h'=>h')) λ_ _ h'=>h');cases ok with
  |false=>exact xy ⟨rfl,h₃⟩
  |true=>
   exact xV (xV (xz h₃ (λx s₄ h₄=>xV (xz h₄ (λ_ s₅ h₅=>xy (xy ⟨rfl,h₅⟩)) λ_ _ h'=>h')) λ_ _ h'=>h'))
end
def QTs(X:Cx)(E:XK)(ifs:List jk)(t:DB):Prop:=
 ∀(xD:List (jx×Obj))(s:j3)(σ:St)(H:Hp)(Q:Bool->Hp->Prop),Inv X xD σ H s->lB X.K E t σ H Q->
  xJ (jS X.prog X.w) X.A (forIn ifs xG λc r=>if r=xG then do let ok<-isTrue c X.env (eval c X.env);pure (ForInStep.yield ok)else pure (ForInStep.yield r)) (TP X xD σ Q) X.xe s
theorem Hj:QTs X E [] Cm:=λxD s σ H Q I h=>by obtain⟨a,S,G,hk,rfl,sm,r,h⟩:=h;exact wpAny_tests_nil ⟨a.H,I,h a (Ext.refl a) sm⟩
theorem V9{c:jk}{t:DB}(hc:QT X E c t):QTs X E [c] t:=λxD s σ H Q I h=>wpAny_tests_one (hc xD s σ H Q I h)
section
variable{X:Cx}{E:XK}{N:List Str}{scope:j2}{nt:Nat}{caps:List Nat}{tg elt iter:jk}{ifs:List jk}{pos:Pos}{it:DI}{g:DG}{c:DB}{te:DE}
theorem ZDj(r:RepS a S σ):RepS a (Bf nt caps S) (zI nt xF++caps.map λj=>(σ[j]?).join):=by
 refine⟨by simp[Bf],λi d h=>?_⟩;unfold Bf at h;by_cases hi:i<nt
 ·rw[zL (by simpa using hi),qz]at h
  split at h<;>cases h
 ·rw [zA (by simpa using hi),zF]at h;rw[zA (by simpa using hi),zF];rw[jJ]at h⊢;cases e:caps[i-nt]? with
  |none=>rw[e]at h;cases h
  | some j=>
   rw[e]at h;have h1:(S[j]?).join=xE d:=by simpa using h
   have h2:S[j]?=xE (xE d):=by
    cases q:S[j]? with
    |none=>rw[q]at h1;cases h1
    |some o=>
     rw[q]at h1;have h1':o=xE d:=h1;rw[h1']
   obtain⟨v,ev,rv⟩:=r.get j d h2;exact⟨v,by simp[ev],rv⟩
theorem ZET(h:(Bf nt caps S)[i]?=xE (xE d)):nt<=i:=by
 unfold Bf at h;by_cases hi:i<nt
 ·rw[zL (by simpa using hi),qz]at h
  split at h<;>cases h
 ·lia
theorem Ut (hc:X.calm=xG) (cs:CompSc X N scope nt caps)
  (hg:∀C s₀ H₀ ex,QG (blk X N scope C s₀ H₀ ex) E0 tg g) (gk:GK nt g) (hts:∀C s₀ H₀ ex,QTs (blk X N scope C s₀ H₀ ex) E0 ifs c) (he:∀C s₀ H₀ ex,QE (blk X N scope C s₀ H₀ ex) E0 elt te)
  {xD:List (jx×Obj)} {σ:St} {s:j3} {a:Wd} {S:DSt} {G:DH} {J:It} {n0:Nat} {f:Nat->DH->Option (Option D)} {i0:jx} {fp:List jx} {tn:Nat->Heap->Prop} (I:Inv X xD σ a.H s) (hk:a.K=X.K) (sm:Sim a G) (rS:RepS a S σ)
  (T:Turn X.prog X.w X.K tg J fp i0 tn) (t0:tn 0 s.heap) (hf:∀b∈fp,FpOk X xD a.H b) (rJ:RepI a (.fn n0 f) J) {Q:VK}
  (h:out E0 a ((Dp f g c te (Bf nt caps S) n0 0 G).bind Ay) Q)
  {RR:j5->jx->Result->j3->Prop} {E':j5->j3->Prop}
  (hRR:∀(D C:jx)(s':j3)(b:Wd)(vs:List V),Inv X xD σ (upd b.H D (.lst vs)) s'->b.H D=xF->s.heap.objs.size<=C->D≠C->(∃m,s'.heap.Ns C m)->b.H C=xF->Q (.ref D) (upd b.H D (.lst vs))->RR (.ref D) C (.ok .next) s'):
  xJ (jS X.prog X.w) X.A (newList []) (λacc s₃=>xJ (jS X.prog X.w) X.A (newFunctionEnv scope X.env.globals (Dm X.env scope.names []) [] X.env.qual xF .none (xE X.env)) (λcenv s₄=>
   codeAny (jS X.prog X.w) X.A (.compStart (.ListComp elt [⟨tg,iter,ifs,0⟩] scope pos) 0 (.ref i0) acc {cenv with scope:=relabel scope X.env}) (RR acc cenv.locals) s₄) E' s₃) E' s:=by
 refine xj (wpAny_newFunctionEnv cs.nocell (by intro y hy;simp at hy) (λh₁ hns₁ hsb₁=>?_) cs.kind);dsimp only at hns₁ hsb₁⊢;generalize hH2:s.heap.push {cls:=.type "list",dict:=xF,data:=.seq ([]:List j5).toArray}=H2 at hns₁ hsb₁⊢;have hC:H2.objs.size=s.heap.objs.size+1:=by rw[<-hH2,qE]
 have hDC:s.heap.objs.size≠H2.objs.size:=by rw[hC];exact zC (zR _)
 have hCle:s.heap.objs.size<=H2.objs.size:=by rw[hC];exact qC _
 have fpOld:∀b∈fp,b<s.heap.objs.size:=λb hb=>by obtain⟨o,e,_⟩:=T.obj 0 _ t0 b hb;exact zV e
 have hDf:s.heap.objs.size∉fp:=λhm=>zE _ (fpOld _ hm)
 have hCf:H2.objs.size∉fp:=λhm=>by have:=fpOld _ hm;rw[hC]at this;exact zE _ (Nat.lt_of_succ_lt this)
 have old:∀b o,s.heap.get? b=xE o->h₁.get? b=xE o:=λb o e=>
  hsb₁.extBut b o (by rw[hC];exact zC (Nat.lt_succ_of_lt (zV e))) (zQ _ (hH2▸zQ _ e))
 have hacc:h₁.PlainList s.heap.objs.size ([]:List j5).toArray:=⟨_,hsb₁.extBut _ _ hDC (zQ _ (hH2▸zy _ rfl))⟩;generalize hCe:H2.objs.size=C at*;generalize hDe:s.heap.objs.size=Dd at*;let B:=blk X N scope C s a.H fp;have okB:B.Ok:=ZFz cs I hf (by rw[hDe];exact hCle) hCf;let σ0:St:=zI nt xF++caps.map λj=>(σ[j]?).join
 have start:∀tk,Inv B [] σ0 a.H {s with heap:=h₁,toks:=tk}:=λtk=>by
  refine⟨okB,rfl,I.bare,Un.kept old,⟨_,hns₁,λi x v e1 e2 e3=>?_⟩,λx d' e=>?_,I.hok.fresh (by rw[hDe];exact hCle),λx d' e=>?_,λp hp=>?_,I.hok.kept old,?_⟩
  ·have hi:nt<=i:=by
    by_cases hi:i<nt
    ·have e2':σ0[i]?=xE (xE v):=e2;rw[zL (by simpa using hi),qz]at e2'
     split at e2'<;>cases e2'
    ·lia
   have e2':σ0[i]?=xE (xE v):=e2;rw[zA (by simpa using hi),zF,jJ]at e2';cases ej:caps[i-nt]? with
   |none=>rw[ej]at e2';cases e2'
   | some j=>
    rw[ej]at e2';have h1:(σ[j]?).join=xE v:=by simpa using e2'
    have h2:σ[j]?=xE (xE v):=by
     cases q:σ[j]? with
     |none=>rw[q]at h1;cases h1
     |some o=>
      rw[q]at h1;have h1':o=xE v:=h1;rw[h1']
    obtain⟨y,ey,en,ek⟩:=cs.cap (i-nt) j ej;have exy:x=y:=by
     have:nt+(i-nt)=i:=by lia
     rw[this]at en;have e1':N[i]?=xE x:=e1;rw[e1']at en;exact Option.some.inj en
    subst exy;have kx:=cs.free (x,.free) (PySem.mem_of_lookup ek) rfl;have vis:Vis X.env.scope x:=by
     rcases kx with kx|kx
     ·exact .inr (.inl kx)
     ·exact .inr (.inr kx)
    obtain⟨m,hn,hl⟩:=I.loc;obtain⟨u,ru,lk⟩:=hl j x v ey h2 vis;refine⟨u,ru,?_⟩;rcases lk with⟨k1,_⟩|⟨k1,c1,ec,hcell⟩
    ·rcases kx with kx|kx
     ·rw[k1]at kx;cases kx
     ·rw[k1]at kx;cases kx
    ·refine .inr ⟨?_,c1,?_,?_⟩
     ·show(relabel scope X.env).names.lookup x=xE .cell∨(relabel scope X.env).names.lookup x=xE .free;rw[ZAO,ek];simp only[jz];split
      ·exact .inl rfl
      ·exact .inr rfl
     ·obtain⟨d1,hd1⟩:=Qa (env:=X.env) (x:=x) (names:=scope.names) (cs:=[]) (.inl (PySem.mem_of_lookup ek));obtain⟨d2,hd2⟩:=Va hd1;have:=cs.cl I.ok hd2;rw[ec]at this;cases this;exact hd2
     ·obtain⟨o,e,dd⟩:=hcell;exact⟨o,old _ _ e,dd⟩
  ·obtain⟨v,o,e',dd⟩:=I.cell x d' (cs.cl I.ok e);exact⟨v,o,old _ _ e',dd⟩
  ·exact I.Eo x d' (cs.cl I.ok e)
  ·exact absurd hp (by simp[B,blk])
  ·show σ0.length=N.length;rw[cs.len];simp[σ0]
 have rS0:RepS a (Bf nt caps S) σ0:=ZDj rS;have aD:a.H Dd=xF:=I.hok.fresh (by rw[hDe];exact zK _);have young:∀b∈fp,b≠C:=λb hb z=>hCf (z▸hb)
 have fpB:∀{H':Hp}{ps:List (jx×Obj)},(∀b∈fp,H' b=xF)->(∀p∈ps,p.1∉fp)->∀b∈fp,FpOk B ps H' b:=λ{H' ps}hn hps b hb=>
  ⟨hn b hb,young b hb,okB.exfs b hb,.inl hb,λx d' e=>(hf b hb).2.2.2.2.1 x d' (cs.cl I.ok e),λp hp z=>by
   have hp':p∈ps:=by simpa[B,blk]using hp
   exact hps p hp' (z▸hb)⟩
 have nstk:Dd∉frs X.stack:=λz=>by
  rcases zz.mp (I.Rt Dd z)with z|z
  ·have:=I.lt;rw[hDe,<-z]at this;exact zE _ this
  ·exact I.nofs (by rw[hDe];exact zK _) z
 have pinD:∀{σ':St}{H':Hp}{s':j3}{its:List j5}{nD:Nat},Inv B [] σ' H' s'->s'.heap.get? Dd=xE {cls:=.type "list",data:=.seq its.toArray nD}->H' Dd=xF->Inv B [(Dd,{cls:=.type "list",data:=.seq its.toArray nD})] σ' H' s':=λ{σ' H' s' its nD}J e n=>
  J.Ip λp hp=>by
   have ep:p=(Dd,{cls:=.type "list",data:=.seq its.toArray nD}):=by simpa using hp
   subst ep;exact⟨e,n,hDC,nstk,λv' z=>by cases z⟩
 have fin:∀(s':j3)(b:Wd)(σ':St)(its:List j5)(ds:List D)(G':DH),Inv B [] σ' b.H s'->Ext a b->Sim b G'->s'.heap.PlainList Dd its.toArray->b.H Dd=xF->(∃vs,Vals vs its/\Reps b ds vs)->out E0 b (Ay ds G') Q->RR (.ref Dd) C (.ok .next) s':=by
  intro s' b σ' its ds G' IB x sb pl hD ⟨vs,hv,rv⟩ hq;have hz:ds.length<=1000000:=by
   unfold Ay at hq;split at hq
   ·assumption
   ·exact hq.elim
  have Ix:Inv X xD σ b.H s':=I.call' IB.os IB.base IB.hok IB.bare λb hb=>⟨(hf b hb).2.2.2.1,(hf b hb).2.1,(hf b hb).2.2.2.2.1,(hf b hb).2.2.2.2.2⟩
  obtain⟨n,eD⟩:=pl;have ylt:∀{q:jx}{o:Obj},s.heap.get? q=xE o->q≠Dd:=λe z=>by rw[z,<-hDe]at e;exact absurd (zV e) (zE _)
  have Ia:Inv X xD σ (upd b.H Dd (.lst vs)) s':=by
   refine ZDG Ix hD (by rw[<-hDe];exact I.sz) ?_ (λy c' ec=>?_) (λp hp=>?_) ⟨?_,its,n,hv,eD⟩
   ·rw[<-hDe];exact jQ I.lt
   ·obtain⟨v,o,e,_⟩:=I.cell y c' ec;exact ylt e
   ·exact ylt (I.pin p hp).1
   ·rw[<-rv.length];exact z0 hz size6
  refine hRR Dd C s' b vs Ia hD hCle hDC (let⟨m,hn,_⟩:=IB.loc;⟨m,hn⟩) IB.free ?_;unfold Ay at hq;rw[if_pos hz]at hq;exact Yt sb rv hq Dd hD
 have turnX:∀(n:Nat)(P:Nat->j3->Prop)(rest:DH->R (List D))(s1:j3)(b:Wd)(G1:DH)(σ1:St)(its:List j5)(acc:List D)(u:j5)(v:V)(x:D)(i:Nat),Inv B [] σ1 b.H s1->Ext a b->Sim b G1->RepS b (Bf nt caps S) σ1->tn i s1.heap->(∀q∈fp,b.H q=xF)->
   s1.heap.PlainList Dd its.toArray->b.H Dd=xF->(∃vs,Vals vs its/\Reps b acc vs)->RelV v u->Rep b x v->
   out E0 b (((g x (Bf nt caps S) G1).bind λS1 G1=>(c S1 G1).bind λk G2=>if k=xG then(te S1 G2).bind λd G3=>(rest G3).bind λds G4=>.ok (d::ds) G4 else rest G2).bind λds G=>Ay (acc++ds) G) Q->
   (∀(s2:j3)(b2:Wd)(G2:DH)(σ2:St)(its2:List j5)(acc2:List D),Inv B [] σ2 b2.H s2->Ext a b2->Sim b2 G2->RepS b2 (Bf nt caps S) σ2->tn i s2.heap->(∀q∈fp,b2.H q=xF)->
    s2.heap.PlainList Dd its2.toArray->b2.H Dd=xF->(∃vs,Vals vs its2/\Reps b2 acc2 vs)->out E0 b2 ((rest G2).bind λds G=>Ay (acc2++ds) G) Q->∃m,m<n/\P m s2)->
   xJ (jS X.prog X.w) X.A (assign tg B.env u) (λ_ s₂=>
     xJ (jS X.prog X.w) X.A (forIn ifs xG λc r=>if r=xG then do let ok<-isTrue c B.env (eval c B.env);pure (ForInStep.yield ok)else pure (ForInStep.yield r)) (λok s₃=>
      if ok=xG then xJ (jS X.prog X.w) X.A (eval elt B.env) (λx s₄=>
       xJ (jS X.prog X.w) X.A (call (.builtin "list.append") [.ref Dd,x]) (λ_ s₅=>∃m,m<n/\P m s₅) (λ_ _=>False) s₄) (λ_ _=>False) s₃
      else∃m,m<n/\P m s₃) (λ_ _=>False) s₂) (λ_ _=>False) s1:=by
  intro n P rest s1 b G1 σ1 its acc u v x i I1 x1 sb rSb t1 hfp pl hD hacc' ru rx hq next
  rw[R.bind_assoc]at hq;obtain⟨nD,eD⟩:=id pl;let pinD:List (jx×Obj):=[(Dd,{cls:=.type "list",data:=.seq its.toArray nD})];have pinOk:∀{σ':St}{H':Hp}{s':j3},Inv B (pinD++M8 fp s1.heap) σ' H' s'->s'.heap.PlainList Dd its.toArray/\H' Dd=xF/\tn i s'.heap/\∀q∈fp,H' q=xF:=λ{σ' H' s'}J=>by
   have p1:=J.pin (Dd,{cls:=.type "list",data:=.seq its.toArray nD}) (z9 _ (jY _ (by simp[pinD])));refine⟨⟨nD,p1.1⟩,p1.2.1,T.keep _ _ _ t1 λq hq' o e=>(J.pin (q,o) (z9 _ (z9 _ (Tu hq' e)))).1,λq hq'=>?_⟩;obtain⟨o,e,_⟩:=T.obj _ _ t1 q hq';exact(J.pin (q,o) (z9 _ (z9 _ (Tu hq' e)))).2.1
  have I2:Inv B (pinD++M8 fp s1.heap) σ1 b.H s1:=I1.Ip λp hp=>by
   rcases zP.mp hp with hp|hp
   ·have e:p=(Dd,{cls:=.type "list",data:=.seq its.toArray nD}):=by simpa[pinD]using hp
    subst e;refine⟨eD,hD,hDC,λz=>?_,λv' z=>by cases z⟩;exact nstk z
   ·obtain⟨hb,e⟩:=ZDO hp;obtain⟨f0,f1,f2,_⟩:=fpB (ps:=[]) hfp (λp hp=>by cases hp) p.1 hb;obtain⟨o,e',dd⟩:=T.obj _ _ t1 p.1 hb;rw[e]at e';cases e';exact⟨e,f0,f1,f2,dd⟩
  refine thn (hg C s a.H fp _ s1 σ1 b.H v u _ I2 ru ⟨b,Bf nt caps S,G1,x,x1.k.trans hk,rfl,sb,rSb,rx,(ZGi hq).imp λ_ _ z=>z⟩) ?_;rintro _ s2 ⟨σ2,H2',J2,b2,S2,G2,rfl,y2,sb2,rS2,eg,hq2⟩;rw[R.bind_assoc]at hq2;have rS2':RepS b2 (Bf nt caps S) σ2:=⟨by have h1:=J2.len;have h2:σ1.length=N.length:=I1.len;rw[rSb.len,h2];exact h1.symm,λj e' hj=>rS2.get j e' (gk _ _ _ _ _ eg j e' (ZET hj) hj)⟩
  refine thn (hts C s a.H fp _ s2 σ2 b2.H _ J2 ⟨b2,S2,G2,y2.k.trans (x1.k.trans hk),rfl,sb2,rS2,(ZGK hq2).imp λ_ _ z=>z⟩) ?_;rintro k s3 ⟨H3,J3,b3,G3,rfl,y3,sb3,_,hq3⟩;cases k with
  |false=>
   obtain⟨p1,p2,p3,p4⟩:=pinOk J3;have Jn:Inv B [] σ2 b3.H s3:=J3.Ip λp hp=>by cases hp
   obtain⟨vs,hv,rv⟩:=hacc'
   exact next s3 b3 G3 σ2 its acc Jn (x1.trans (y2.trans y3)) sb3 (rS2'.mono y3) p3 p4 p1 p2 ⟨vs,hv,(rv.mono y2).mono y3⟩ hq3
  | true=>
   have hq3':out E0 b3 (((te S2 G3).bind λd G3=>(rest G3).bind λds G4=>.ok (d::ds) G4).bind λds G=>Ay (acc++ds) G) Q:=hq3;rw[R.bind_assoc]at hq3';refine thn (he C s a.H fp _ s3 σ2 b3.H _ J3 ⟨b3,S2,G3,y3.k.trans (y2.k.trans (x1.k.trans hk)),rfl,sb3,rS2.mono y3,(Dz hq3').imp λ_ _ z=>z⟩) ?_;rintro w s4 ⟨vw,H4,J4,rw',b4,d4,G4,rfl,y4,sb4,q4,_,hq4⟩;obtain⟨p1,p2,p3,p4⟩:=pinOk J4;rw[R.bind_assoc]at hq4
   have hq4':out E0 b4 ((rest G4).bind λds G=>Ay ((acc++[d4])++ds) G) Q:=by
    have e:(λ(ds:List D)(G:DH)=>(R.ok (d4::ds) G).bind λds G=>Ay (acc++ds) G)=λds G=>Ay ((acc++[d4])++ds) G:=by funext ds G;simp
    rw[<-e];exact hq4
   obtain⟨vs,hv,rv⟩:=hacc';have hsz:its.toArray.size<=sizeLine:=by
    have:acc.length<=1000000:=by
     cases hr:rest G4 with
     |ok ds G5=>
      rw[hr]at hq4';have hq5:out E0 b4 (Ay ((acc++[d4])++ds) G5) Q:=hq4';unfold Ay at hq5;split at hq5
      ·rename_i hl;simp at hl;lia
      ·exact hq5.elim
     |err e' G5=>rw[hr]at hq4';exact(hq4'.1 rfl).elim
     |bad=>rw[hr]at hq4';exact hq4'.elim
    rw[zW,<-hv.length,<-rv.length];exact z0 this size6
   refine wpAny_list_append_plain p1 (λh' hpl hsb=>?_) hsz;have Jn:Inv B [] σ2 b4.H s4:=J4.Ip λp hp=>by cases hp
   have J5:Inv B [] σ2 b4.H {s4 with heap:=h'}:=by refine Jn.turned (it:=Dd) (t':=s4.toks) (λq o hq' e=>(hsb.2 q hq').trans e) p2 hDC (.inr (by show s.heap.objs.size<=Dd;rw[hDe];exact zK _)) (λy c' ec=>?_) (λp hp=>absurd hp (by simp[B,blk]));obtain⟨v',o,e,_⟩:=I.cell y c' (cs.cl I.ok ec);intro z;rw[z,<-hDe]at e;exact absurd (zV e) (zE _)
   refine next _ b4 G4 σ2 (its++[w]) (acc++[d4]) J5 (x1.trans (y2.trans (y3.trans y4))) sb4 ((rS2'.mono y3).mono y4) (T.keep _ _ _ p3 λq hq' o e=>(hsb.2 q (λz=>hDf (z▸hq'))).trans e) p4 (by simpa using hpl) p2 ⟨vs++[vw],hv.append (.cons rw' .nil),(((rv.mono y2).mono y3).mono y4).append (Reps.cons q4 Reps.nil)⟩ hq4'
 have loop:∀s₃:j3,s₃={s with heap:=h₁,toks:=s.toks+([]:List (Str×j5)).length}->
   codeAny (jS X.prog X.w) X.A (.compLoop (.ListComp elt [⟨tg,iter,ifs,0⟩] scope pos) 0 (.ref i0) (.ref Dd) B.env) (RR (.ref Dd) C) s₃:=by
  rintro s₃ rfl;have t1:tn 0 h₁:=T.keep _ _ _ t0 λq _ o e=>old q o e
  have fp0:∀q∈fp,a.H q=xF:=λq hq=>(hf q hq).1
  have walk:∀b:Wd,Ext a b->∀G,Sim b G->∀i,(∀d,f i G=xE (xE d)->J.go i b.H/\∀x H',J.yld i b.H x H'->∃c:Wd,c.H=H'/\Ext b c/\Sim c G/\Rep c d x)/\(f i G=xE xF->J.stop i b.H):=rJ;refine ZGA (λm s'=>∃(i:Nat)(b:Wd)(G':DH)(σ':St)(its:List j5)(acc:List D),Inv B [] σ' b.H s'/\Ext a b/\Sim b G'/\RepS b (Bf nt caps S) σ'/\tn i s'.heap/\(∀q∈fp,b.H q=xF)/\s'.heap.PlainList Dd its.toArray/\b.H Dd=xF/\(∃vs,Vals vs its/\Reps b acc vs)/\
   out E0 b ((Dp f g c te (Bf nt caps S) m i G').bind λds G=>Ay (acc++ds) G) Q) ?_ n0 ⟨0,a,G,σ0,[],[],start _,Ext.refl a,sm,rS0,t1,fp0,hacc,aD,⟨[],.nil,rfl⟩,by simpa using h⟩
  rintro m s' ⟨i,b,G',σ',its,acc,IB,x,sb,rSb,ti,hfp,pl,hD,hac,hq⟩;obtain⟨nD,eD⟩:=pl;have I0:=pinD IB eD hD;have f0:=fpB (ps:=[(Dd,{cls:=.type "list",data:=.seq its.toArray nD})]) hfp (λp hp=>by
   have ep:p=(Dd,{cls:=.type "list",data:=.seq its.toArray nD}):=by simpa using hp
   subst ep;exact hDf)
  have stop:J.stop i b.H->out E0 b (Ay acc G') Q->xJ (jS X.prog X.w) X.A (pyNext (.ref i0)) (λr s₁=>match r with
    |none=>RR (.ref Dd) C (.ok .next) s₁
    | some v=>xJ (jS X.prog X.w) X.A (jP tg (.ref i0) v) (λ_ s₁=>xJ (jS X.prog X.w) X.A (assign tg B.env v) (λ_ s₂=>
     xJ (jS X.prog X.w) X.A (forIn ifs xG λc r=>if r=xG then do let ok<-isTrue c B.env (eval c B.env);pure (ForInStep.yield ok)else pure (ForInStep.yield r)) (λok s₃=>
      if ok=xG then xJ (jS X.prog X.w) X.A (eval elt B.env) (λx s₄=>
       xJ (jS X.prog X.w) X.A (call (.builtin "list.append") [.ref Dd,x]) (λ_ s₅=>∃m',m'<m/\∃(i:Nat)(b:Wd)(G':DH)(σ':St)(its:List j5)(acc:List D),Inv B [] σ' b.H s₅/\Ext a b/\Sim b G'/\RepS b (Bf nt caps S) σ'/\tn i s₅.heap/\(∀q∈fp,b.H q=xF)/\s₅.heap.PlainList Dd its.toArray/\b.H Dd=xF/\(∃vs,Vals vs its/\Reps b acc vs)/\
        out E0 b ((Dp f g c te (Bf nt caps S) m' i G').bind λds G=>Ay (acc++ds) G) Q) (λ_ _=>False) s₄) (λ_ _=>False) s₃
      else∃m',m'<m/\∃(i:Nat)(b:Wd)(G':DH)(σ':St)(its:List j5)(acc:List D),Inv B [] σ' b.H s₃/\Ext a b/\Sim b G'/\RepS b (Bf nt caps S) σ'/\tn i s₃.heap/\(∀q∈fp,b.H q=xF)/\s₃.heap.PlainList Dd its.toArray/\b.H Dd=xF/\(∃vs,Vals vs its/\Reps b acc vs)/\
        out E0 b ((Dp f g c te (Bf nt caps S) m' i G').bind λds G=>Ay (acc++ds) G) Q) (λ_ _=>False) s₂) (λ_ _=>False) s₁) (λ_ _=>False) s₁) (λ_ _=>False) s':=by
   intro st hq';refine thn (T.done B rfl rfl rfl hc i _ s' σ' b.H _ I0 f0 ti st) ?_;rintro r s1 ⟨rfl,I2⟩;have pD:=(I2.pin (Dd,{cls:=.type "list",data:=.seq its.toArray nD}) (z9 _ (by simp))).1;exact fin s1 b σ' its acc G' (I2.Ip λp hp=>by cases hp) x sb ⟨nD,pD⟩ hD hac hq'
  cases m with
  |zero=>
   unfold Dp at hq;split at hq
   ·rename_i hf;exact stop ((walk b x G' sb i).2 hf) (by have hq':out E0 b (Ay (acc++[]) G') Q:=hq;rw[zU]at hq';exact hq')
   ·exact hq.elim
  | succ m=>
   unfold Dp at hq;split at hq
   ·rename_i d1 hf;obtain⟨go,yl⟩:=(walk b x G' sb i).1 d1 hf;refine thn (T.item B rfl rfl rfl hc i _ s' σ' b.H _ I0 f0 ti go) ?_;rintro r s1 ⟨u,rfl,hgo⟩;refine thn hgo ?_;rintro _ s2 ⟨v,H',I2,ru,y,t2,hfp2⟩;obtain⟨cc,rfl,xx,ss,rd⟩:=yl v H' y;have pD:=I2.pin (Dd,{cls:=.type "list",data:=.seq its.toArray nD}) (z9 _ (by simp));obtain⟨vs1,hv1,rv1⟩:=hac;refine turnX _ _ (λG3=>Dp f g c te (Bf nt caps S) m (i+1) G3) s2 cc G' σ' its acc u _ d1 (i+1) (I2.Ip λp hp=>by cases hp) (x.trans xx) ss (rSb.mono xx) t2 hfp2 ⟨nD,pD.1⟩ pD.2.1 ⟨vs1,hv1,rv1.mono xx⟩ ru rd (out.mono xx hq) ?_
    intro s3 b3 G3 σ3 its3 acc3 a1 a2 a3 a4 a5 a6 a7 a8 a9 a10;exact⟨m,zR _,i+1,b3,G3,σ3,its3,acc3,a1,a2,a3,a4,a5,a6,a7,a8,a9,a10⟩
   ·rename_i hf;exact stop ((walk b x G' sb i).2 hf) (by have hq':out E0 b (Ay (acc++[]) G') Q:=hq;rw[zU]at hq';exact hq')
   ·exact hq.elim
 exact codeAny_compStart_list (loop _ rfl) (T.self _ 0 _ _ _ (T.keep _ _ _ t0 λq _ o e=>old q o e) (loop _ rfl))
theorem Zc{c:DB}:∀(n j:Nat)(G:DH),j+n=xs.length->Cj g c te S (xs.drop j) G=Dp (λj _=>xE xs[j]?) g c te S n j G
 |0,j,G,h=>by
  rw[qX (by lia)]
  show _=(match xE xs[j]? with |some xF=>R.ok [] G|_=>.bad)
  rw[zN (by lia)]
  rfl
 |n+1,j,G,h=>by
  have hj:j<xs.length:=by lia
  rw[zM hj]
  show(g xs[j] S G).bind _=(match xE xs[j]? with |some (xE x)=>_|some xF=>R.ok [] G|none=>.bad)
  rw[zJ hj];dsimp only
  congr 1
  funext S1 G1
  congr 1
  funext k G2;rw[Zc n (j+1) G2 (by lia)]
  congr 1
  congr 1
  funext d G3;rw[Zc n (j+1) G3 (by lia)]
theorem ZDd{c:DB}:∀(n j:Nat)(G:DH),Ew i g c te S n j G=Dp (mtF i) g c te S n j G
 | 0,j,G=>by
  unfold Ew Dp mtF;cases G[i]? with
  |none=>rfl
  | some o=>
   cases o with
   |lst xs=>
    dsimp only;by_cases hj:j<xs.length
    ·rw[if_neg (by lia),zJ hj]
    ·rw[if_pos (by lia),zN (by lia)]
   |_=>rfl
 | n+1,j,G=>by
  have ih:(Ew i g c te S n (j+1))=Dp (mtF i) g c te S n (j+1):=funext λG=>ZDd n (j+1) G
  unfold Ew Dp;rw[ih];unfold mtF;cases G[i]? with
  |none=>rfl
  | some o=>
   cases o with
   |lst xs=>
    dsimp only
    cases xs[j]?<;>rfl
   |_=>rfl
theorem ZAU(hc:X.calm=xG)(cs:CompSc X N scope nt caps)
  (hg:∀C s₀ H₀ ex,QG (blk X N scope C s₀ H₀ ex) E0 tg g) (gk:GK nt g) (hts:∀C s₀ H₀ ex,QTs (blk X N scope C s₀ H₀ ex) E0 ifs c) (he:∀C s₀ H₀ ex,QE (blk X N scope C s₀ H₀ ex) E0 elt te)
  {xD:List (jx×Obj)} {σ:St} {s:j3} {a:Wd} {S:DSt} {G:DH} {J:It} {d:ItD} {i0:jx} {fp:List jx} {tn:Nat->Heap->Prop} (I:Inv X xD σ a.H s) (hk:a.K=X.K) (sm:Sim a G) (rS:RepS a S σ)
  (T:Turn X.prog X.w X.K tg J fp i0 tn) (t0:tn 0 s.heap) (hf:∀b∈fp,FpOk X xD a.H b) (rJ:RepI a d J) {Q:VK}
  (h:out E0 a ((match d with
   |.pure xs=>Cj g c te (Bf nt caps S) xs G
   |.mt i=>match G[i]? with
    |some (.lst xs)=>Ew i g c te (Bf nt caps S) xs.length 0 G
    |_=>.bad
   |.fn n f=>Dp f g c te (Bf nt caps S) n 0 G).bind Ay) Q)
  {RR:j5->jx->Result->j3->Prop} {E':j5->j3->Prop}
  (hRR:∀(D C:jx)(s':j3)(b:Wd)(vs:List V),Inv X xD σ (upd b.H D (.lst vs)) s'->b.H D=xF->s.heap.objs.size<=C->D≠C->(∃m,s'.heap.Ns C m)->b.H C=xF->Q (.ref D) (upd b.H D (.lst vs))->RR (.ref D) C (.ok .next) s'):
  xJ (jS X.prog X.w) X.A (newList []) (λacc s₃=>xJ (jS X.prog X.w) X.A (newFunctionEnv scope X.env.globals (Dm X.env scope.names []) [] X.env.qual xF .none (xE X.env)) (λcenv s₄=>
   codeAny (jS X.prog X.w) X.A (.compStart (.ListComp elt [⟨tg,iter,ifs,0⟩] scope pos) 0 (.ref i0) acc {cenv with scope:=relabel scope X.env}) (RR acc cenv.locals) s₄) E' s₃) E' s:=by
 cases d with
 |pure xs=>
  have h':out E0 a ((Cj g c te (Bf nt caps S) (xs.drop 0) G).bind Ay) Q:=h;rw[Zc xs.length 0 G (by lia)]at h';exact Ut hc cs hg gk hts he I hk sm rS T t0 hf (ZA4 rJ) h' hRR
 |mt k=>
  dsimp only at h;split at h
  ·rename_i xs hx;rw[ZDd]at h;exact Ut hc cs hg gk hts he I hk sm rS T t0 hf (ZAj rJ) h hRR
  ·exact h.elim
 |fn n0 f=>exact Ut hc cs hg gk hts he I hk sm rS T t0 hf rJ h hRR
end
section
variable{X:Cx}{N:List Str}{scope:j2}{nt:Nat}{caps:List Nat}{tg elt iter:jk}{ifs:List jk}{pos:Pos}{it:DI}{g:DG}{c:DB}{te:DE}
theorem letGo{xD:List (jx×Obj)}{s2 s':j3}{h':Heap}{C:jx}{t':Nat}{σ2:St}{H2:Hp}(I2:Inv X xD σ2 H2 s2)(Ia:Inv X xD σ H s')(hC:s2.heap.objs.size<=C)(hn:H C=xF)(hsb:qF C s'.heap h'):Inv X xD σ H {s' with heap:=h',toks:=t'}:=by
 have young:∀{b:jx}{o:Obj},s2.heap.get? b=xE o->b≠C:=λe z=>by rw[z]at e;exact absurd (zZ (zV e) hC) (zE _)
 refine Ia.turned (it:=C) (λb o hb e=>(hsb.2 b hb).trans e) hn (jQ (zZ I2.lt hC)) (.inr (z0 I2.sz hC)) (λx c' e=>?_) λp hp=>?_
 ·obtain⟨v,o,e',_⟩:=I2.cell x c' e;exact young e'
 ·exact young (I2.pin p hp).1
theorem K4(hc:X.calm=xG)(cs:CompSc X N scope nt caps)(hi:QI X E0 tg iter it)
  (hg:∀C s₀ H₀ ex,QG (blk X N scope C s₀ H₀ ex) E0 tg g) (gk:GK nt g) (hts:∀C s₀ H₀ ex,QTs (blk X N scope C s₀ H₀ ex) E0 ifs c) (he:∀C s₀ H₀ ex,QE (blk X N scope C s₀ H₀ ex) E0 elt te)
  (hs:∀x,foldedSetIterable iter X.env x=pure x:=by intro _;rfl):QE X E0 (.ListComp elt [⟨tg,iter,ifs,0⟩] scope pos) (Dw it nt caps g c te):=by
 intro xD s σ H Q I h;obtain⟨a,S,G,hk,rfl,sm,r,h⟩:=h;rw[eval_ListComp];refine wpAny_comprehension_free (use:=xF) rfl hs (ZAd (cs.cells I.ok)) cs.kind cs.names (thn (hi xD s σ a.H _ I ⟨a,S,G,hk,rfl,sm,r,(ZDe h).imp λ_ _ z=>z⟩) λxv s1 h1=>thn h1 λitv s2 h2=>?_);obtain⟨i0,fp,tn,J,H2,rfl,I2,T,t0,f2,b,d,G1,rfl,x,sb,rJ,_,h1⟩:=h2;refine ZAU hc cs hg gk hts he I2 (x.k.trans hk) sb (r.mono x) T t0 f2 rJ h1 (RR:=λacc C=>compPost (jS X.prog X.w) X.A X.xe xF (EP X xD σ Q) acc C) ?_
 intro D C s' b vs Ia hD hCle hDC ⟨m,hn⟩ hCn hq;refine⟨m,hn,λh' hsb=>⟨.ref D,_,letGo I2 Ia hCle ?_ hsb,rfl,hq⟩⟩;rw[Az (Ne.symm hDC)];exact hCn
theorem Li(i:Nat){y:Str}{py spos:Pos}(hc:X.calm=xG)(hN:X.N.Nodup)(cs:CompSc X N scope nt caps)(hi:QI X E0 tg iter it)
  (hg:∀C s₀ H₀ ex,QG (blk X N scope C s₀ H₀ ex) E0 tg g) (gk:GK nt g) (hts:∀C s₀ H₀ ex,QTs (blk X N scope C s₀ H₀ ex) E0 ifs c) (he:∀C s₀ H₀ ex,QE (blk X N scope C s₀ H₀ ex) E0 elt te)
  (hy:X.N[i]?=xE y:=by rfl) (hx:Loc X.env.scope y:=by first|exact Or.inl rfl|exact Or.inr rfl) (hf:X.fn y=xG∨X.env.scope.names.lookup y=xE .local:=by first|exact .inl rfl|exact .inr rfl|assumption)
  (hsw:swapsWith (.ListComp elt [⟨tg,iter,ifs,0⟩] scope pos) (xE (.Name y py)) spos.line X.env=pure xG:=by rfl)
  (hs:∀x,foldedSetIterable iter X.env x=pure x:=by intro _;rfl):QS X E0 (.Assign [.Name y py] (.ListComp elt [⟨tg,iter,ifs,0⟩] scope pos) spos) (sAs (Dw it nt caps g c te) (gV i)):=by
 intro xD s σ H W I h;obtain⟨a,S,G,hk,rfl,sm,r,h⟩:=h;have h0:=Tn h;rw[exec_Assign_Name_used _ _ _ _ hsw];refine xV (wpAny_standAt (xV ?_))
 show xJ _ X.A (do let _<-comprehension (.ListComp elt [⟨tg,iter,ifs,0⟩] scope pos) scope X.env _ (newList []) xH (eval iter X.env) (xE (assign (.Name y py) X.env))) _ _ s
 refine xV (xz (wpAny_comprehension_free (use:=xE (assign (.Name y py) X.env)) (Q:=λ_ s'=>SP X xD W .next s') rfl hs (ZAd (cs.cells I.ok)) cs.kind cs.names
  (thn (hi xD s σ a.H _ I ⟨a,S,G,hk,rfl,sm,r,(ZDe h0).imp λ_ _ z=>z⟩) λxv s1 h1=>thn h1 λitv s2 h2=>?_)) (λ_ s' hq=>xy (xy hq)) λ_ _ e=>e)
 obtain⟨i0,fp,tn,J,H2,rfl,I2,T,t0,f2,b,d,G1,rfl,x,sb,rJ,_,h1⟩:=h2
 refine ZAU hc cs hg gk hts he I2 (x.k.trans hk) sb (r.mono x) T t0 f2 rJ h1 (RR:=λacc C=>compPost (jS X.prog X.w) X.A X.xe (xE (assign (.Name y py) X.env)) (λ_ s'=>SP X xD W .next s') acc C) ?_
 intro D C s' b' vs Ia hD hCle hDC ⟨m,hn⟩ hCn hq;show xJ _ X.A (assign (.Name y py) X.env (.ref D)) _ _ _;refine wpAny_assign_Name (Zr Ia hN hy hx (v:=.ref D) rfl (λs'' I'' hch=>?_) hf);obtain⟨a',hsb',ha'⟩:=hch;have hCa:C≠a':=by
  rintro rfl;rcases ha' with rfl|ha'
  ·exact absurd (zZ I2.lt hCle) (zE _)
  ·obtain⟨v,o,e',_⟩:=I2.cell _ _ ha';exact absurd (zZ (zV e') hCle) (zE _)
 refine⟨m,hn.sameBut hsb' hCa,λh' hsb=>⟨_,_,letGo I2 I'' hCle ?_ hsb,?_⟩⟩
 ·rw[Az (Ne.symm hDC)];exact hCn
 ·obtain⟨b3,d3,G3,e3,x3,s3,q3,_,h3⟩:=hq;rw[<-e3];exact h3 b3 _ (Ext.refl b3) s3 ((r.mono x3).set i q3)
end
def Ui:D->DH->R D
 |.int i,G=>.ok (.int (-i)) G
 |_,_=>.bad
noncomputable def Es:D->Bool
 |.non=>xG
 |_=>xH
def Lx:D->D->DH->R D
 |d,.non,G=>.ok (.bl (Es d)) G
 |_,_,_=>.bad
def Wa:D->D->DH->R D
 |d,.non,G=>.ok (.bl (!Es d)) G
 |_,_,_=>.bad
noncomputable def Jt:D->Option V
 |.non=>xE .non
 |.bl b=>xE (.bl b)
 |.int i=>xE (.int i)
 |.str x=>xE (.str x)
 |_=>xF
def Hx:List D->Option (List V)
 |[]=>xE []
 |d::r=>match Jt d,Hx r with
  |some v,xE vs=>xE (v::vs)
  |_,_=>xF
def inD(d e:D)(G:DH):Option Bool:=match e with
 |.str j=>match d with
  |.str i=>xE (!(Builtin.Str.occurrences j i 0 j.length 1).isEmpty)
  |_=>xF
 |e=>match Bs e G,Jt d with
  |some xs,xE v=>(Hx xs).map λvs=>inV v vs
  |_,_=>xF
def Fx(d e:D)(G:DH):R D:=match inD d e G with
 |some k=>.ok (.bl k) G
 |none=>.bad
def Nk(d e:D)(G:DH):R D:=match inD d e G with
 |some k=>.ok (.bl (!k)) G
 |none=>.bad
section
variable{X:Cx}{E:XK}{a b:jk}{ta tb:DE}{pos:Pos}
theorem ZJp:UnR X (unaryOp .USub) (lR1 X.K E Ui):=λxD s σ H x v Q I rx h=>by
 obtain⟨a,G,d,hk,rfl,sm,rd,q⟩:=h;cases d with
 |int i=>exact ZGs xD s σ a.H x v Q I rx ⟨i,rd,q a _ (Ext.refl a) sm rfl⟩
 |_=>exact q.elim
theorem ZKB{op:UnaryOp}{f:D->DH->R D}(ho:UnR X (unaryOp op) (lR1 X.K E f))(ha:QE X E a ta):QE X E (.UnaryOp op a pos) (dUn f ta):=(ZEO ho ha).mono λσ H Q h=>by obtain⟨a,S,G,hk,rfl,s,r,h⟩:=h;refine⟨a,S,G,hk,rfl,s,r,(Dz h).imp ?_⟩;rintro v _ ⟨b,d,G1,rfl,x,s1,q,-,h1⟩;exact⟨b,G1,d,x.k.trans hk,rfl,s1,q,h1⟩
theorem Z3{n:String}(hg:Gl X x)(hm:X.mg x=xF)(hv:jC x=xE (.type n))(hn:x≠"__name__":=by decide)(hd:(x==("__debug__":Str))=xH:=by decide):QE X E (.Name x pos) (dC (.ty n)):=
 (ZBb (v:=.ty n) hg hm hv rfl hn hd).mono λσ H Q h=>Ls h λ_ _=>rfl
theorem ZBq{a:Wd}{x:V}(rd:Rep a d x):decide (x=V.non)=Es d:=by
 cases d with
 |non=>rw[show x=V.non from rd];rfl
 |bl _=>rw[show x=V.bl _ from rd];rfl
 |int _=>rw[show x=V.int _ from rd];rfl
 |str _=>rw[show x=V.str _ from rd];rfl
 |ty _=>rw[show x=V.ty _ from rd];rfl
 |tup _=>obtain⟨p,vs,rfl,_⟩:=rd;rfl
 |fl _=>obtain⟨p,vs,rfl,_⟩:=rd;rfl
 |ref _=>rw[rd.2];rfl
theorem Rn:OpR X (jF .Is) (lR2 X.K E Lx):=Em ZIJ λa G d e x y Q hk s rd re q=>by
 cases e with
 |non=>exact⟨re,by rw[ZBq rd];cases d<;>exact q a _ (Ext.refl a) s rfl⟩
 |_=>cases d<;>exact q.elim
theorem ZFD:OpR X (jF .IsNot) (lR2 X.K E Wa):=Em ZJ5 λa G d e x y Q hk s rd re q=>by
 cases e with
 |non=>exact⟨re,by rw[ZBq rd];cases d<;>exact q a _ (Ext.refl a) s rfl⟩
 |_=>cases d<;>exact q.elim
theorem ZAZ{a:Wd}{x:V}(r:Rep a d x)(h:Jt d=xE v):x=v/\Cw v=xG:=by
 cases d<;>first
  |(cases h;exact⟨r,rfl⟩)
  |cases h
theorem ZCA{a:Wd}:∀{ds:List D}{xs vs:List V},Reps a ds xs->Hx ds=xE vs->xs=vs/\vs.all Cw=xG
 |[],xs,vs,r,h=>by cases h;exact⟨r,rfl⟩
 |d::ds,xs,vs,r,h=>by
  obtain⟨x,r',rfl,r1,r2⟩:=r;unfold Hx at h;split at h
  ·rename_i v ws h1 h2;cases h;obtain⟨e1,f1⟩:=ZAZ r1 h1;obtain⟨e2,f2⟩:=ZCA r2 h2;subst e1;subst e2;exact⟨rfl,by rw[qN,f1,f2];rfl⟩
  ·cases h
theorem ZBQ{a:Wd}{e:D}{x y:V}{k:Bool}(s:Sim a G)(rd:Rep a d x)(re:Rep a e y)(h:inD d e G=xE k):
  (∃i j,x=.str i/\y=.str j/\k= !(Builtin.Str.occurrences j i 0 j.length 1).isEmpty)∨(∃p xs,y=.ref p/\(SqL a.K a.H p xs∨SqT a.K a.H p xs)/\Cw x=xG/\xs.all Cw=xG/\k=inV x xs):=by
 have seq:(match Bs e G,Jt d with |some xs,xE v=>(Hx xs).map λvs=>inV v vs|_,_=>xF)=xE k->(∃p xs,y=.ref p/\(SqL a.K a.H p xs∨SqT a.K a.H p xs)/\Cw x=xG/\xs.all Cw=xG/\k=inV x xs):=λh=>by
  split at h
  ·rename_i xs v h1 h2;obtain⟨p,ws,e1,q,r1⟩:=Hc s re h1;obtain⟨e2,f2⟩:=ZAZ rd h2;subst e2;rw[z8]at h;obtain⟨us,h3,h4⟩:=h;obtain⟨e3,f3⟩:=ZCA r1 h3;subst e3;exact⟨p,ws,e1,q,f2,f3,h4.symm⟩
  ·cases h
 cases e with
 |str j=>
  cases d with
  |str i=>exact .inl ⟨i,j,rd,re,(Option.some.inj h).symm⟩
  |_=>cases h
 |tup xs=>exact .inr (seq h)
 |fl xs=>exact .inr (seq h)
 |ref i=>exact .inr (seq h)
 |_=>exact .inr (seq h)
theorem U4:OpR X (jF .In) (lR2 X.K E Fx):=Em (ZIo.or ZG6) λa G d e x y Q hk s rd re q=>by
 unfold Fx at q;split at q
 ·rename_i k h;have z:=q a _ (Ext.refl a) s rfl;rcases ZBQ s rd re h with⟨i,j,e1,e2,rfl⟩|⟨p,xs,e1,hq,f1,f2,rfl⟩
  ·exact .inl ⟨i,j,e1,e2,z⟩
  ·exact .inr ⟨p,xs,e1,by rw[<-hk];exact hq,f1,f2,z⟩
 ·exact q.elim
theorem ZIf:OpR X (jF .NotIn) (lR2 X.K E Nk):=Em (ZIV.or ZEK) λa G d e x y Q hk s rd re q=>by
 unfold Nk at q;split at q
 ·rename_i k h;have z:=q a _ (Ext.refl a) s rfl;rcases ZBQ s rd re h with⟨i,j,e1,e2,rfl⟩|⟨p,xs,e1,hq,f1,f2,rfl⟩
  ·exact .inl ⟨i,j,e1,e2,z⟩
  ·exact .inr ⟨p,xs,e1,by rw[<-hk];exact hq,f1,f2,z⟩
 ·exact q.elim
end
theorem Tz:jC "isinstance"=xE (.builtin "isinstance"):=by decide +kernel
theorem ZFn:jC "all"=xE (.builtin "all"):=by decide +kernel
theorem ZJ9:jC "any"=xE (.builtin "any"):=by decide +kernel
theorem ZCm:jC "sum"=xE (.builtin "sum"):=by decide +kernel
theorem ZC4:jC "max"=xE (.builtin "max"):=by decide +kernel
theorem ZIt:jC "min"=xE (.builtin "min"):=by decide +kernel
theorem Iu:jC "len"=xE (.builtin "len"):=by decide +kernel
theorem V2:jC "int"=xE (.type "int"):=by decide +kernel
theorem ZEA:jC "bool"=xE (.type "bool"):=by decide +kernel
theorem Tg:jC "tuple"=xE (.type "tuple"):=by decide +kernel
noncomputable def Fl:j0->Bool | .local=>xG|_=>xH
noncomputable def Hy:j0->Bool | .cell=>xG|_=>xH
noncomputable def Hg:j0->Bool | .free=>xG|_=>xH
noncomputable def isK(p:j0->Bool):Option j0->Bool|some k=>p k|none=>xH
theorem ZAp{k:j0}(h:Fl k=xG):k=.local:=by cases k<;>first|rfl|cases h
theorem ZHn{k:j0}(h:Hy k=xG):k=.cell:=by cases k<;>first|rfl|cases h
theorem ZB0{k:j0}(h:Hg k=xG):k=.free:=by cases k<;>first|rfl|cases h
theorem Ot{p:j0->Bool}{k:j0}(hp:∀k',p k'=xG->k'=k){o:Option j0}(h:isK p o=xG):o=xE k:=by
 cases o with
 |none=>cases h
 |some k'=>rw[hp _ h]
def ZCR(dn:List (Str×j0))(N0 N:List Str)(names:List (Str×j0))(nt:Nat)(caps:List Nat):Bool:=
 names.all (λy=>(!Fl y.2||isK Fl (names.lookup y.1)) && !Hy y.2&&(!Hg y.2||isK Hy (dn.lookup y.1)||isK Hg (dn.lookup y.1)))&&decide N.Nodup&&decide (N.length=nt+caps.length) &&
 (zx caps.length).all λk=>match caps[k]? with
  |some j=>match N0[j]? with
   |some x=>decide (N[nt+k]?=xE x)&&isK Hg (names.lookup x)
   |none=>xH
  |none=>xG
theorem Ga{X:Cx}{N0 N:List Str}{nt:Nat}{caps:List Nat}{dn:List (Str×j0)}(hk:scope.kind=.function:=by rfl)(hdn:∀x,X.env.kindOf x=dn.lookup x:=by intro _;rfl)(hN:X.N=N0:=by rfl)
  (h:ZCR dn N0 N scope.names nt caps=xG:=by decide +kernel):CompSc X N scope nt caps:=by
 unfold ZCR at h;rw[zY,zY,zY]at h;obtain⟨⟨⟨h1,h2⟩,h3⟩,h4⟩:=h;rw[zS]at h1 h4;have key:=λ(y:Str×j0)(hy:y∈scope.names)=>(by have:=h1 y hy;rw[zY,zY]at this;exact this:((!Fl y.2||isK Fl (scope.names.lookup y.1))=xG/\(!Hy y.2)=xG)/\(!Hg y.2||isK Hy (dn.lookup y.1)||isK Hg (dn.lookup y.1))=xG)
 refine⟨hk,λy hy hl=>?_,λy hy hl=>?_,λy hy hl=>?_,of_decide_eq_true h2,of_decide_eq_true h3,λk j hj=>?_⟩
 ·have:=(key y hy).1.1;rw[hl]at this;exact Ot (p:=Fl) (λ_ h=>ZAp h) (by have t:(xH||isK Fl (scope.names.lookup y.1))=xG:=this;simpa using t)
 ·have:=(key y hy).1.2;rw[hl]at this;exact absurd this (by decide)
 ·have:=(key y hy).2;rw[hl,Bool.or_eq_true]at this;rw[hdn];rcases this with h|h
  ·exact .inl (Ot (p:=Hy) (λ_ h=>ZHn h) (by have t:(xH||isK Hy (dn.lookup y.1))=xG:=h;simpa using t))
  ·exact .inr (Ot (p:=Hg) (λ_ h=>ZB0 h) h)
 ·have hk':k<caps.length:=(zv.mp hj).1;have:=h4 k (zO.mpr hk');rw[hj]at this;dsimp only at this;cases e:N0[j]? with
  |none=>rw[e]at this;cases this
  |some x=>
   rw[e]at this;dsimp only at this;rw[zY]at this;exact⟨x,by rw[hN];exact e,of_decide_eq_true this.1,Ot (p:=Hg) (λ_ h=>ZB0 h) this.2⟩
section
section
variable{X:Cx}{xD:List (jx×Obj)}{σ:St}{H:Hp}{s:j3}
theorem ZFr{xs:List V}(I:Inv X xD σ H s)(h:H p=xE (.lst xs)):∃o,Inv X xD σ (upd H p (.frz o (.lst xs))) s:=by
 obtain⟨hl,its,n,r,e⟩:=I.hok p _ h;have nt:∀b(u:HO),H b=xE u->u≠ .lst xs->b≠p:=λb u q d z=>by subst z;rw[h]at q;exact d (Option.some.inj q).symm
 refine⟨_,I.un (t':=s.toks) (H':=upd H p (.frz {cls:=.type "list",data:=.seq its.toArray n} (.lst xs))) ⟨λb o q _ _ _=>q,λb o q _ _ _=>⟨o.slots,q⟩,λb o q z _=>?_,λb o q _=>⟨o,q⟩,λb ys q=>?_,λb o u q=>?_,λb ps q=>⟨#[],?_⟩⟩ ?_⟩
 ·rw[Az (λz'=>by subst z';rw[h]at z;cases z)];exact z
 ·rw[Az (nt b _ q (by intro z;cases z))];exact q
 ·rw[Az (nt b _ q (by intro z;cases z))];exact q
 ·rw[Az (nt b _ q (by intro z;cases z)),Array.append_empty];exact q
 ·intro b u q;by_cases hb:b=p
  ·subst hb;rw[Fw]at q;cases q;exact⟨e,hl,its,n,r,e⟩
  ·rw[Az hb]at q;exact(I.hok b u q).stay (λc v _ z=>z) (λc z=>by rw[Az (nt c _ z (by intro z;cases z))];exact z) λc ys z=>by rw[Az (nt c _ z (by intro z;cases z))];exact z
def Fz(P:jx->Prop)(H H':Hp):Prop:=∀p,(H' p=H p/\(∀vs,H p=xE (.lst vs)->¬P p))∨∃o vs,P p/\H p=xE (.lst vs)/\H' p=xE (.frz o (.lst vs))
theorem ZCC(I:Inv X xD σ H s)(m:Nat->jx)(n:Nat):∀k:Nat,∃H',Inv X xD σ H' s/\Fz (λp=>∃i,n<=i/\i<n+k/\p=m i) H H'
 |0=>⟨H,I,λp=>.inl ⟨rfl,λ_ _ ⟨i,h1,h2,_⟩=>by lia⟩⟩
 | k + 1=>by
  obtain⟨H',I',F⟩:=ZCC I m n k;have keep:(∀vs,H' (m (n+k))≠xE (.lst vs))->Fz (λp=>∃i,n<=i/\i<n+(k+1)/\p=m i) H H':=λno p=>by
   rcases F p with⟨e,z⟩|⟨o,vs,⟨i,h1,h2,h3⟩,e1,e2⟩
   ·refine .inl ⟨e,λvs e1 ⟨i,h1,h2,h3⟩=>?_⟩;by_cases hi:i<n+k
    ·exact z vs e1 ⟨i,h1,hi,h3⟩
    ·have:i=n+k:=by lia
     subst this;subst h3;exact no vs (e.trans e1)
   ·exact .inr ⟨o,vs,⟨i,h1,by lia,h3⟩,e1,e2⟩
  cases hH:H' (m (n+k))with
  |none=>exact⟨H',I',keep λvs z=>by rw[hH]at z;cases z⟩
  | some u=>
   cases u with
   | lst vs=>
    obtain⟨o,I2⟩:=ZFr I' hH;refine⟨_,I2,λp=>?_⟩;by_cases hp:p=m (n+k)
    ·subst hp;rcases F (m (n+k))with⟨e,z⟩|⟨o',vs',_,e1,e2⟩
     ·exact .inr ⟨o,vs,⟨n+k,by lia,by lia,rfl⟩,e.symm.trans hH,Fw⟩
     ·rw[hH]at e2;cases e2
    ·rcases F p with⟨e,z⟩|⟨o',vs',⟨i,h1,h2,h3⟩,e1,e2⟩
     ·refine .inl ⟨by rw[Az hp];exact e,λvs' e1 ⟨i,h1,h2,h3⟩=>?_⟩;by_cases hi:i<n+k
      ·exact z vs' e1 ⟨i,h1,hi,h3⟩
      ·have:i=n+k:=by lia
       subst this;exact hp h3
     ·exact .inr ⟨o',vs',⟨i,h1,by lia,h3⟩,e1,by rw[Az hp];exact e2⟩
   |_=>exact⟨H',I',keep λvs z=>by rw[hH]at z;cases z⟩
end
noncomputable def Jb(f:D->Option D):List D->Option (List D)
 |[]=>xE []
 |d::r=>match f d,Jb f r with
  |some d',xE r'=>xE (d'::r')
  |_,_=>xF
def Gf(G:DH)(n:Nat):Nat->D->Option D
 |0,_=>xF
 | k+1,d=>if bel n d=xG then xE d else match d with
  |.ref i=>match G[i]? with
   |some (.lst xs)=>(Jb (Gf G n k) xs).map .fl
   |_=>xF
  |.tup xs=>(Jb (Gf G n k) xs).map .tup
  |.fl xs=>(Jb (Gf G n k) xs).map .fl
  |_=>xF
open Classical in
def freeze(G:DH)(r:R D):R D:=match r with
 | .ok d G'=>if G'.take G.length=G then(match Gf G' G.length 9 d with
   |some d'=>.ok d' G
   |none=>.ok d G')else .ok d G'
 |r=>r
def Ba(t:DE):DE:=λS G=>freeze G (t S G)
structure CutF (b c:Wd) (n:Nat):Prop where
 k:c.K=b.K
 n:c.n=n
 m:c.m=b.m
 tup:∀p xs,b.H p=xE (.tup xs)->c.H p=xE (.tup xs)
 frz:∀p o u,b.H p=xE (.frz o u)->c.H p=xE (.frz o u)
theorem CutF.sqT{n:Nat}(x:CutF b c n){xs:List V}(h:SqT b.K b.H p xs):SqT c.K c.H p xs:=by
 rcases h with(h|⟨o,h⟩)|h
 ·exact .inl (.inl (x.tup _ _ h))
 ·exact .inl (.inr ⟨o,x.frz _ _ _ h⟩)
 ·exact .inr (by rw[x.k];exact h)
theorem CutF.fzL{n:Nat}(x:CutF b c n){xs:List V}(h:FzL b.K b.H p xs):FzL c.K c.H p xs:=by
 rcases h with⟨o,h⟩|h
 ·exact .inl ⟨o,x.frz _ _ _ h⟩
 ·exact .inr (by rw[x.k];exact h)
mutual
theorem Rep.Gh{n:Nat}(x:CutF b c n):∀{d:D}{v:V},Rep b d v->bel n d=xG->Rep c d v
 |.non,_,h,_=>h
 |.bl _,_,h,_=>h
 |.int _,_,h,_=>h
 |.str _,_,h,_=>h
 |.ty _,_,h,_=>h
 |.tup ds,v,h,q=>by obtain⟨p,vs,e,t,r⟩:=h;simp only[_D.bel]at q;exact⟨p,vs,e,x.sqT t,Reps.Gh x r q⟩
 |.fl ds,v,h,q=>by obtain⟨p,vs,e,t,r⟩:=h;simp only[_D.bel]at q;exact⟨p,vs,e,x.fzL t,Reps.Gh x r q⟩
 |.ref i,v,h,q=>by obtain⟨l,e⟩:=h;simp only[_D.bel]at q;have q':=of_decide_eq_true q;exact⟨by rw[x.n];exact q',by rw[x.m];exact e⟩
theorem Reps.Gh{n:Nat}(x:CutF b c n):∀{ds:List D}{vs:List V},Reps b ds vs->bels n ds=xG->Reps c ds vs
 |[],_,h,_=>h
 |d::ds,vs,h,q=>by obtain⟨v,r,e,h1,h2⟩:=h;simp only[_D.bels,zY]at q;exact⟨v,r,e,Rep.Gh x h1 q.1,Reps.Gh x h2 q.2⟩
end
theorem Tf{f:D->Option D}(hf:∀d d' v,f d=xE d'->Rep b d v->Rep c d' v):∀{ds ds':List D}{vs:List V},Jb f ds=xE ds'->Reps b ds vs->Reps c ds' vs
 |[],ds',vs,e,h=>by cases e;exact h
 |d::ds,ds',vs,e,h=>by
  obtain⟨v,r,rfl,h1,h2⟩:=h;unfold Jb at e;split at e
  ·rename_i d' r' e1 e2;cases e;exact⟨v,r,rfl,hf _ _ _ e1 h1,Tf hf e2 h2⟩
  ·cases e
theorem ZCs{n:Nat}(s:Sim b G')(x:CutF b c n)(hz:∀i,n<=i->i<b.n->∀vs,b.H (b.m i)=xE (.lst vs)->∃o,c.H (b.m i)=xE (.frz o (.lst vs))):∀(k:Nat)(d d':D)(v:V),Gf G' n k d=xE d'->Rep b d v->Rep c d' v
 |0,d,d',v,e,h=>by cases e
 | k + 1,d,d',v,e,h=>by
  have ih:=ZCs s x hz k;unfold Gf at e;split at e
  ·rename_i hb;cases e;exact h.Gh x hb
  ·rename_i hb;cases d with
   | ref i=>
    dsimp only at e;split at e
    ·rename_i xs hx;rw[z8]at e;obtain⟨ys,e1,rfl⟩:=e;obtain⟨vs,e2,r2⟩:=s.obj i _ hx;obtain⟨il,rfl⟩:=h;have hi:n<=i:=by simp only[_D.bel,decide_eq_true_eq]at hb;lia
     obtain⟨o,e3⟩:=hz i hi il vs e2;exact⟨_,vs,rfl,.inl ⟨o,e3⟩,Tf ih e1 r2⟩
    ·cases e
   |tup xs=>
    dsimp only at e;rw[z8]at e;obtain⟨ys,e1,rfl⟩:=e;obtain⟨p,vs,rfl,t,r⟩:=h;exact⟨p,vs,rfl,x.sqT t,Tf ih e1 r⟩
   |fl xs=>
    dsimp only at e;rw[z8]at e;obtain⟨ys,e1,rfl⟩:=e;obtain⟨p,vs,rfl,t,r⟩:=h;exact⟨p,vs,rfl,x.fzL t,Tf ih e1 r⟩
   |_=>cases e
theorem ZBv{xD:List (jx×Obj)}{sh:j3}(s:Sim a G)(hG:G'.take G.length=G)(x:Ext a b)(sb:Sim b G')(I:Inv X xD σ b.H sh):
  ∃c:Wd,Inv X xD σ c.H sh/\Ext a c/\Sim c G/\CutF b c a.n/\∀(k:Nat)(d d':D)(v:V),Gf G' G.length k d=xE d'->Rep b d v->Rep c d' v:=by
 have hlen:∀i o,G[i]?=xE o->G'[i]?=xE o:=λi o e=>by have hi:i<G.length:=(zv.mp e).1;rw[<-hG,qU hi]at e;exact e
 obtain⟨H',I',F⟩:=ZCC I b.m a.n (b.n-a.n);have hbn:a.n+(b.n-a.n)=b.n:=by have:=x.n;lia
 rw[hbn]at F;have ct:∀p(u:HO),(∀vs,u≠ .lst vs)->b.H p=xE u->H' p=xE u:=λp u nu e=>by
  rcases F p with⟨e1,_⟩|⟨o,vs,_,e1,_⟩
  ·exact e1.trans e
  ·rw[e]at e1;exact absurd (Option.some.inj e1) (nu vs)
 have tabs:∀p,TabOk b.H p->TabOk H' p:=λp t=>t.mono (λp ps e=>ct p _ (by intro _ z;cases z) e) λp o u e=>ct p _ (by intro _ z;cases z) e
 have cc:CutF b ⟨b.K,a.n,b.m,H'⟩ a.n:=⟨rfl,rfl,rfl,λp xs e=>ct p _ (by intro _ z;cases z) e,λp o u e=>ct p _ (by intro _ z;cases z) e⟩;have old:∀i,i<a.n->H' (b.m i)=b.H (b.m i):=λi hi=>by
  rcases F (b.m i)with⟨e1,_⟩|⟨o,vs,⟨j,h1,h2,h3⟩,e1,e2⟩
  ·exact e1
  ·have:=sb.inj i j (zZ hi x.n) h2 h3;lia
 refine⟨⟨b.K,a.n,b.m,H'⟩,I',⟨x.k,zK _,x.m,λp xs e=>cc.tup p xs (x.tup p xs e),λp o u e=>cc.frz p o u (x.frz p o u e),λp t=>tabs p (x.tab p t)⟩,⟨s.len,λi j hi hj=>sb.inj i j (zZ hi x.n) (zZ hj x.n),λi o e=>?_,λi hi=>?_⟩,cc,λk d d' v hd rb=>?_⟩
 ·show ORep ⟨b.K,a.n,b.m,H'⟩ o (H' (b.m i));rw[old i (s.lt e)];have q:=sb.obj i o (hlen i o e);have lb:=(s.obj i o e).K7;cases o with
  |lst ds=>obtain⟨vs,e1,r1⟩:=q;exact⟨vs,e1,r1.Gh cc lb⟩
  |dct kvs=>obtain⟨us,e1,k1,r1⟩:=q;exact⟨us,e1,k1,r1.Gh cc lb⟩
  |ins c fs=>obtain⟨C,dx,us,n1,e1,k1,r1⟩:=q;exact⟨C,dx,us,n1,e1,k1,r1.Gh cc lb⟩
  |tab C m=>obtain⟨c1,P1,e1,t1⟩:=q;exact⟨c1,P1,e1,tabs _ t1⟩
  |exc c fs=>
   obtain⟨C,oe,u,vs,n1,e1,k1,k2,z⟩:=q;refine⟨C,oe,u,vs,n1,e1,k1,k2,?_⟩;rcases z with z|⟨dx,o,us,e2,f2,k3,r1⟩
   ·exact .inl z
   ·exact .inr ⟨dx,o,us,e2,cc.frz _ _ _ f2,k3,r1.Gh cc lb⟩
  |gone=>trivial
 ·show H' (b.m i)≠xF;rw[old i hi];exact sb.tr i (zZ hi x.n)
 ·rw[s.len]at hd;refine ZCs sb cc (λi h1 h2 vs e=>?_) k d d' v hd rb;rcases F (b.m i)with⟨e1,z⟩|⟨o,vs',_,e1,e2⟩
  ·exact absurd ⟨i,h1,h2,rfl⟩ (z vs e)
  ·rw[e]at e1;cases e1;exact⟨o,e2⟩
theorem ZFQ(s:Sim a G)(h:out E a (freeze G r) Q):
  out E a r λv H=>∀(xD:List (jx×Obj))(σ:St)(sh:j3),Inv X xD σ H sh->∃H',Inv X xD σ H' sh/\Q v H':=by
 cases r with
 |err e G'=>exact h
 |bad=>exact h
 | ok d G'=>
  intro b v x sb rb xD σ sh I;unfold freeze at h;dsimp only at h;split at h
  ·rename_i hG;split at h
   ·rename_i d' hd;obtain⟨c,Ic,xc,sc,cc,hr⟩:=ZBv s hG x sb I;exact⟨c.H,Ic,h c v xc sc (hr _ _ _ _ hd rb)⟩
   ·exact⟨_,I,h b v x sb rb⟩
  ·exact⟨_,I,h b v x sb rb⟩
theorem Bc(ha:QE X E e t):QE X E e (Ba t):=λxD s σ H Q I h=>by
 obtain⟨a,S,G,hk,rfl,sm,r,h⟩:=h;refine thn (ha xD s σ a.H _ I ⟨a,S,G,hk,rfl,sm,r,ZFQ (X:=X) sm h⟩) λu s' ⟨v,H',I',rv,q⟩=>?_
 obtain⟨H2,I2,q2⟩:=q xD σ s' I';exact⟨v,H2,I2,rv,q2⟩
theorem U7 {st:j4} (ha:QS X E st (sAs t (gV i))):QS X E st (sAs (Ba t) (gV i)):=λxD s σ H W I h=>by
 obtain ⟨a,S,G,hk,rfl,sm,r,h⟩:=h;have h2:Bx E a (sAs t (gV i) S G) {W with nx:=λσ H=>∀(xD:List (jx×Obj))(sh:j3),Inv X xD σ H sh->∃H',Inv X xD σ H' sh/\W.nx σ H'}:=by
  unfold sAs Ba at h;unfold sAs;cases ht:t S G with
  |err e G'=>rw[ht]at h;exact h
  |bad=>rw[ht]at h;exact h
  | ok d G'=>
   rw[ht]at h;intro b σ' x sb rb xD sh I;unfold freeze at h;dsimp only at h;split at h
   ·rename_i hG;split at h
    ·rename_i d' hd;obtain⟨c,Ic,xc,sc,cc,hr⟩:=ZBv sm hG x sb I;refine⟨c.H,Ic,h c σ' xc sc ⟨?_,λj e he=>?_⟩⟩
     ·rw[jq,<-rb.len,jq]
     ·rw[qq]at he;by_cases hij:i=j
      ·subst hij;rw[if_pos rfl]at he;by_cases hl:i<S.length
       ·rw[if_pos hl]at he;have e1:d'=e:=by simpa using he
        subst e1;obtain⟨v,e2,rv⟩:=rb.get i d (by rw[qq,if_pos rfl,if_pos hl]);exact⟨v,e2,hr _ _ _ _ hd rv⟩
       ·rw[if_neg hl]at he;cases he
      ·rw[if_neg hij]at he;obtain⟨v,e2,rv⟩:=rb.get j e (by rw[qq,if_neg hij];exact he);obtain⟨v',_,rv'⟩:=r.get j e he;exact⟨v,e2,rv.Gh cc rv'.bel⟩
    ·exact⟨_,I,h b σ' x sb rb⟩
   ·exact⟨_,I,h b σ' x sb rb⟩
 refine thn (ha xD s σ a.H _ I ⟨a,S,G,hk,rfl,sm,r,h2⟩) λf s' hf=>?_
 cases f with
 |next=>
  obtain⟨σ',H',I',q⟩:=hf;obtain⟨H2,I2,q2⟩:=q xD s' I';exact⟨σ',H2,I2,q2⟩
 |brk=>exact hf
 |cont=>exact hf
 |ret u=>exact hf
end
section
variable{S:DSt}{G:DH}
@[simp]theorem ev_V:dV i S G=(match S[i]? with |some (xE d)=>.ok d G|_=>.bad):=id rfl
@[simp]theorem ev_C:dC d S G=.ok d G:=id rfl
@[simp]theorem ev_Op{a b:DE}:dOp f a b S G=(a S G).bind λx G1=>(b S G1).bind λy G2=>f x y G2:=id rfl
@[simp]theorem ev_Un{f:D->DH->R D}{a:DE}:dUn f a S G=(a S G).bind f:=id rfl
@[simp]theorem ev_Nil:Ag S G=.ok [] G:=id rfl
@[simp]theorem ZLN{a:DE}{r:DA}:Ab a r S G=(a S G).bind λx G1=>(r S G1).bind λxs G2=>.ok (x::xs) G2:=id rfl
@[simp]theorem ev_Fn{f:List D->DH->R D}{t:DA}:dFn f t S G=(t S G).bind f:=id rfl
@[simp]theorem ZLR:Ir t S G=tidy G (t S G):=id rfl
@[simp]theorem ev_Frz:Ba t S G=freeze G (t S G):=id rfl
@[simp]theorem ev_asB{k:Bool}:asB (.bl k) G=.ok k G:=id rfl
@[simp]theorem ev_Tst:Av t S G=(t S G).bind asB:=id rfl
@[simp]theorem ev_And{t u:DB}:K5 t u S G=(t S G).bind λk G1=>if k=xG then u S G1 else .ok xH G1:=id rfl
@[simp]theorem ev_Or{t u:DB}:dOr t u S G=(t S G).bind λk G1=>if k=xG then .ok xG G1 else u S G1:=id rfl
@[simp]theorem ev_Not{t:DB}:Dc t S G=(t S G).bind λk G1=>.ok (!k) G1:=id rfl
@[simp]theorem ZKl{u:DE}:J7 t u S G=(t S G).bind λx G1=>(asB x G1).bind λk G2=>if k=xG then u S G2 else .ok (.bl xH) G2:=id rfl
@[simp]theorem ev_OrV{u:DE}:Uw t u S G=(t S G).bind λx G1=>(asB x G1).bind λk G2=>if k=xG then .ok (.bl xG) G2 else u S G2:=id rfl
@[simp]theorem ZLS:T7 t S G=(t S G).bind λx G1=>(asB x G1).bind λk G2=>.ok (.bl (!k)) G2:=id rfl
@[simp]theorem ZK9{g:D->D->DH->R D}{a b c:DE}:Gq f g a b c S G=(a S G).bind λx G1=>(b S G1).bind λy G2=>(f x y G2).bind λz G3=>(asB z G3).bind λk G4=>
 if k=xG then(c S G4).bind λw G5=>g y w G5 else .ok (.bl xH) G4:=id rfl
@[simp]theorem ev_sNx:sNx S G=.nx S G:=id rfl
noncomputable def SR.then(r:SR)(u:DS):SR:=match r with
 |.nx S1 G1=>u S1 G1
 |r=>r
@[simp]theorem ZK4{t:DS}:Ah t u S G=(t S G).then u:=id rfl
@[simp]theorem ZLO:(SR.nx S G).then u=u S G:=id rfl
@[simp]theorem ZKv:(SR.rt d G).then u=.rt d G:=id rfl
@[simp]theorem ev_sEx:sEx t S G=(t S G).toS λ_ G1=>.nx S G1:=id rfl
@[simp]theorem ev_sRt:sRt t S G=(t S G).toS λd G1=>.rt d G1:=id rfl
@[simp]theorem ev_sIf{c:DB}{t:DS}:sIf c t u S G=(c S G).toS λk G1=>if k=xG then t S G1 else u S G1:=id rfl
@[simp]theorem ev_sAs:sAs t g S G=(t S G).toS λd G1=>(g d S G1).toS λS2 G2=>.nx S2 G2:=id rfl
@[simp]theorem ZLL{it:DI}{b:DS}:Ds it g b S G=(it S G).toS λJ G1=>(match J with
 |.pure xs=>Bw g b xs S G1
 |.mt i=>match G1[i]? with
  |some (.lst xs)=>forM i g b xs.length 0 S G1
  |_=>.bad
 |.fn n f=>Dg f g b n 0 S G1):=id rfl
@[simp]theorem ZKw:Dr t S G=(t S G).bind Fd:=id rfl
@[simp]theorem ZK5{f:List D->DH->R ItD}{t:DA}:Ef f t S G=(t S G).bind f:=id rfl
@[simp]theorem Gi:gV i d S G=.ok (S.set i (xE d)) G:=id rfl
@[simp]theorem ZLB:Df [] S G=.ok S G:=id rfl
@[simp]theorem ZLV{t:DG}{u:DGs}{r:List D}:Bk t u (d::r) S G=(t d S G).bind λS1 G1=>u r S1 G1:=id rfl
@[simp]theorem ZKy{n:Nat}{t:DGs}:Cy n t (.tup ds) S G=if ds.length=n then t ds S G else .bad:=id rfl
@[simp]theorem ev_MtL{f:D->List D->DH->R D}{o:DE}{t:DA}:K8 f o t S G=(o S G).bind λx G1=>if isL x G1=xG then(t S G1).bind λxs G2=>f x xs G2 else .bad:=id rfl
@[simp]theorem ZKo{it:DI}{caps:List Nat}{c:DB}:Dw it nt caps g c te S G=(it S G).bind λJ G1=>(match J with
 |.pure xs=>Cj g c te (Bf nt caps S) xs G1
 |.mt i=>match G1[i]? with
  |some (.lst xs)=>Ew i g c te (Bf nt caps S) xs.length 0 G1
  |_=>.bad
 |.fn n f=>Dp f g c te (Bf nt caps S) n 0 G1).bind Ay:=id rfl
@[simp]theorem ZLK:Cm S G=.ok xG G:=id rfl
@[simp]theorem Gx{k:DSt->DH->SR}:aft (.nx S G) k=k S G:=id rfl
@[simp]theorem aft_rt{k:DSt->DH->SR}:aft (.rt d G) k=.rt d G:=id rfl
theorem Ej{b:DS}:Bw g b [] S G=.nx S G:=id rfl
theorem Dj{b:DS}{x:D}:Bw g b (x::xs) S G=(g x S G).toS λS1 G1=>aft (b S1 G1) (Bw g b xs):=id rfl
theorem ZAN{c:DB}:Cj g c te S [] G=.ok [] G:=id rfl
theorem Ji{c:DB}{x:D}:Cj g c te S (x::xs) G=(g x S G).bind λS1 G1=>(c S1 G1).bind λk G2=>
   if k=xG then(te S1 G2).bind λd G3=>(Cj g c te S xs G3).bind λds G4=>.ok (d::ds) G4 else Cj g c te S xs G2:=id rfl
noncomputable def SR.ret(r:SR):R D:=match r with
 |.nx _ G'=>.ok .non G'
 |.rt d G'=>.ok d G'
 |.err x G'=>.err x G'
 |_=>.bad
@[simp]theorem ret_nx:(SR.nx S G).ret=.ok .non G:=id rfl
@[simp]theorem ret_rt:(SR.rt d G).ret=.ok d G:=id rfl
@[simp]theorem ZK6{x:Xn}:(SR.err x G).ret=.err x G:=id rfl
theorem Bp{np nl:Nat}{b:DS}:Bu np nl b ds G=if ds.length=np then tidy G (b (ds.map xE++zI nl xF) G).ret else .bad:=id rfl
end
section
variable{n:Nat}{G:DH}
@[simp]theorem ZK7:bel n .non=xG:=by simp[_D.bel]
@[simp]theorem ZIs{b:Bool}:bel n (.bl b)=xG:=by simp[_D.bel]
@[simp]theorem ZDy{b:Int}:bel n (.int b)=xG:=by simp[_D.bel]
@[simp]theorem ZGl{b:Str}:bel n (.str b)=xG:=by simp[_D.bel]
@[simp]theorem ZCG{b:List D}:bel n (.tup b)=bels n b:=by simp[_D.bel]
@[simp]theorem ZK0{b:Nat}:bel n (.ref b)=decide (b<n):=by simp[_D.bel]
@[simp]theorem ZLD:bels n []=xG:=by simp[_D.bels]
@[simp]theorem ZJW:bels n (d::ds)=(bel n d&&bels n ds):=by simp[_D.bels]
theorem ZFP:bels n ds=xG↔∀d∈ds,bel n d=xG:=by
 induction ds with
 |nil=>simp
 |cons d ds ih=>simp[ih]
theorem Gk{f:α->D}{xs:List α}(h:∀x∈xs,bel n (f x)=xG):bels n (xs.map f)=xG:=by rw[ZFP];intro d hd;obtain⟨x,hx,rfl⟩:=zD.mp hd;exact h x hx
@[simp]theorem Hf{xs:List Int}:bels n (xs.map D.int)=xG:=Gk λ_ _=>ZDy
@[simp]theorem ZDz{xs:List Bool}:bels n (xs.map D.bl)=xG:=Gk λ_ _=>ZIs
@[simp]theorem Eu{xs:List Str}:bels n (xs.map D.str)=xG:=Gk λ_ _=>ZGl
theorem Bo(h:bel G.length d=xG):tidy G (.ok d G)=.ok d G:=by unfold tidy;simp[h]
theorem Qf(h:bel G.length d=xG):tidy G (.ok d (G++L))=.ok d G:=by unfold tidy;simp[h]
theorem Zt(L:DH)(hk:L[k]?=xE (.lst ds))(h:bels G.length ds=xG):tidy G (.ok (.ref (G.length+k)) (G++L))=.ok (.ref G.length) (G++[.lst ds]):=by
 unfold tidy;have e:(G++L)[G.length+k]?=xE (.lst ds):=by rw[zA (by lia)];simpa using hk
 simp[e,K7,h]
theorem G6(h:bels G.length ds=xG):tidy G (.ok (.ref G.length) (G++ .lst ds::L))=.ok (.ref G.length) (G++[.lst ds]):=Zt (.lst ds::L) (k:=0) rfl h
@[simp]theorem ZLF{x:Xn}:tidy G (.err x G')=.err x G':=id rfl
theorem Yx(h:bel G.length d=xG):freeze G (.ok d G)=.ok d G:=by unfold freeze;simp[h,Gf]
theorem ZAc{n:Nat}:∀{ds:List D},bels n ds=xG->Jb (Gf G' n (k+1)) ds=xE ds
 |[],_=>rfl
 |d::ds,h=>by simp only[ZJW,zY]at h;unfold Jb;rw[ZAc h.2];simp[Gf,h.1]
theorem ZEf(L:DH)(hk:L[k]?=xE (.lst ds))(h:bels G.length ds=xG):freeze G (.ok (.ref (G.length+k)) (G++L))=.ok (.fl ds) G:=by
 unfold freeze;have e:(G++L)[G.length+k]?=xE (.lst ds):=by rw[zA (by lia)];simpa using hk
 have m:Gf (G++L) G.length 9 (.ref (G.length+k))=xE (.fl ds):=by unfold Gf;simp[e,ZAc h]
 simp[m]
theorem Ce(h:bels G.length ds=xG):freeze G (.ok (.ref G.length) (G++ .lst ds::L))=.ok (.fl ds) G:=ZEf (.lst ds::L) (k:=0) rfl h
theorem ZIh(L:DH)(k:Nat):(G++L)[G.length+k]?=L[k]? :=by rw[zA (by lia)];simp
theorem Fe(L:DH):(G++L)[G.length]?=L[0]? :=ZIh L 0
theorem ZJ4(L:DH)(k:Nat)(o:DO):(G++L).set (G.length+k) o=G++L.set k o:=by rw[List.set_append_right _ _ (by lia)];simp
theorem Hz(L:DH)(o:DO):(G++L).set G.length o=G++L.set 0 o:=ZJ4 L 0 o
theorem Jl{lo:Int}:Ck lo 0=[]:=id rfl
theorem Ib{lo:Int}{n:Nat}:Ck lo (n+1)=.int lo::Ck (lo+1) n:=by
 unfold Ck;rw[jZ,zj,q8]
 congr 1
 ·simp
 ·apply List.map_congr_left;intro k _;simp only[Function.comp]
  congr 1
  lia
end
section
variable{G:DH}{i j:Int}{x y:Str}{k l:Bool}
@[simp]theorem ev_add:Aq (.int i) (.int j) G=.ok (.int (i+j)) G:=id rfl
@[simp]theorem Hn:Aq (.str x) (.str y) G=if x.length+y.length<=1000000 then .ok (.str (x++y)) G else .bad:=id rfl
@[simp]theorem Lb{ys:List D}:Aq (.tup xs) (.tup ys) G=if xs≠[]/\xs.length+ys.length<=1000000 then .ok (.tup (xs++ys)) G else .bad:=id rfl
@[simp]theorem ev_sub:Ft (.int i) (.int j) G=.ok (.int (i-j)) G:=id rfl
theorem log2_small{n:Nat}(h:n<10^100):n.log2<9000:=by
 by_cases hn:n=0
 ·subst hn;decide
 ·rw[Nat.log2_lt hn];exact Nat.lt_trans h (by decide)
@[simp]theorem ZLG{n:Nat}[NeZero n](h:n<10^100):Dy (.int i) (.int (no_index (OfNat.ofNat n))) G=.ok (.int (i/OfNat.ofNat n)) G:=
 if_pos ⟨Int.ofNat_lt.mpr (Nat.pos_of_ne_zero (NeZero.ne n)),log2_small h⟩
@[simp]theorem ev_mod:Bd (.int i) (.int j) G=if 0<j then .ok (.int (i%j)) G else .bad:=id rfl
@[simp]theorem ev_pow:Hw (.int i) (.int j) G=if 0<=j/\j<=1000000/\i.natAbs<18446744073709551616 then .ok (.int (i^j.toNat)) G else .bad:=id rfl
@[simp]theorem ev_lt:Gg (.int i) (.int j) G=.ok (.bl (decide (i<j))) G:=id rfl
@[simp]theorem ev_le:Fo (.int i) (.int j) G=.ok (.bl (decide (i<=j))) G:=id rfl
@[simp]theorem ev_gt:Hl (.int i) (.int j) G=.ok (.bl (decide (j<i))) G:=id rfl
@[simp]theorem ev_ge:Y9 (.int i) (.int j) G=.ok (.bl (decide (j<=i))) G:=id rfl
@[simp]theorem ev_eq:Cd (.int i) (.int j) G=.ok (.bl (decide (i=j))) G:=id rfl
@[simp]theorem ev_ne:G7 (.int i) (.int j) G=.ok (.bl (!decide (i=j))) G:=id rfl
@[simp]theorem ev_eqS:Cd (.str x) (.str y) G=.ok (.bl (decide (x=y))) G:=id rfl
@[simp]theorem ev_neS:G7 (.str x) (.str y) G=.ok (.bl (!decide (x=y))) G:=id rfl
@[simp]theorem ev_neg:Ui (.int i) G=.ok (.int (-i)) G:=id rfl
@[simp]theorem ev_is:Lx d .non G=.ok (.bl (Es d)) G:=by cases d<;>exact id rfl
@[simp]theorem ZLE:Wa d .non G=.ok (.bl (!Es d)) G:=by cases d<;>exact id rfl
@[simp]theorem ZK3:Es (.int i)=xH:=id rfl
@[simp]theorem ev_max:U5 [.int i,.int j] G=.ok (.int (max i j)) G:=by
 show R.ok (D.int (if j>i then j else i)) G=_
 congr 2
 split <;> lia
@[simp]theorem ZLJ:Mr [.bl k] G=.ok (.int (if k then 1 else 0)) G:=id rfl
@[simp]theorem ZKr:Bs (.fl ds) G=xE ds:=id rfl
@[simp]theorem ZDh{n:Nat}:Bs (.ref n) G=(match G[n]? with |some (.lst xs)=>xE xs|_=>xF):=id rfl
@[simp]theorem ZLH:Fg [.str x] G=if x.length<=1000000 then .ok (.int x.length) G else .bad:=id rfl
@[simp]theorem ZLQ:Fg [.tup ds] G=.ok (.int ds.length) G:=id rfl
@[simp]theorem ZKx:Fg [.fl ds] G=.ok (.int ds.length) G:=id rfl
@[simp]theorem ev_ixT:Ak (.tup ds) (.int i) G=(match atI ds i with |some v=>.ok v G|none=>.bad):=id rfl
@[simp]theorem ev_ixF:Ak (.fl ds) (.int i) G=(match atI ds i with |some v=>.ok v G|none=>.bad):=id rfl
theorem ZFS{n k:Nat}(h:k<n):ixN n (k:Int)=xE k:=by unfold ixN;rw[if_pos (by lia),if_pos (by lia)];simp
theorem ZJZ{xs:List α}{k:Nat}{d:α}(h:xs[k]?=xE d):atI xs (k:Int)=xE d:=by unfold atI;rw[ZFS (zv.mp h).1];exact h
theorem Ez{xs:List α}{j:Int}{k:Nat}{d:α}(e:j=k)(h:xs[k]?=xE d):atI xs j=xE d:=by subst e;exact ZJZ h
@[simp]theorem atI_0{a:α}{xs:List α}:atI (a::xs) 0=xE a:=Ez (k:=0) rfl rfl
@[simp]theorem atI_1{a b:α}{xs:List α}:atI (a::b::xs) 1=xE b:=Ez (k:=1) rfl rfl
@[simp]theorem atI_2{a b c:α}{xs:List α}:atI (a::b::c::xs) 2=xE c:=Ez (k:=2) rfl rfl
@[simp]theorem atI_3{a b c d:α}{xs:List α}:atI (a::b::c::d::xs) 3=xE d:=Ez (k:=3) rfl rfl
@[simp]theorem atI_4{a b c d e:α}{xs:List α}:atI (a::b::c::d::e::xs) 4=xE e:=Ez (k:=4) rfl rfl
@[simp]theorem atI_5{a b c d e f:α}{xs:List α}:atI (a::b::c::d::e::f::xs) 5=xE f:=Ez (k:=5) rfl rfl
@[simp]theorem atI_6{a b c d e f g:α}{xs:List α}:atI (a::b::c::d::e::f::g::xs) 6=xE g:=Ez (k:=6) rfl rfl
@[simp]theorem ZLC:El ds G=if ds.length<=1000000 then .ok (.tup ds) G else .bad:=id rfl
@[simp]theorem ZKp:Ay ds G=if ds.length<=1000000 then .ok (.ref G.length) (G++[.lst ds])else .bad:=id rfl
@[simp]theorem ZKk:Jc [.fl ds] G=.ok (.tup ds) G:=id rfl
@[simp]theorem ZK2{n:Nat}:Jc [.ref n] G=(match G[n]? with |some (.lst xs)=>.ok (.tup xs) G|_=>.bad):=by
 unfold Jc;simp only[ZDh];cases G[n]? with
 |none=>rfl
 |some o=>cases o<;>rfl
@[simp]theorem ev_itT:Fd (.tup ds) G=.ok (.pure ds) G:=id rfl
@[simp]theorem ev_itF:Fd (.fl ds) G=.ok (.pure ds) G:=id rfl
@[simp]theorem ZKt:rng1 [.int j] G=if inR j then .ok (.pure (Ck 0 j.toNat)) G else .bad:=id rfl
theorem Gz(h0: -1000000000<=i)(h:i<=1000000000):inR i:=⟨by lia,by lia⟩
@[simp]theorem ZKz{n:Nat}:isL (.ref n) G=(match G[n]? with |some (.lst _)=>xG|_=>xH):=id rfl
@[simp]theorem ev_app{n:Nat}:J6 (.ref n) [d] G=(match G[n]? with |some (.lst xs)=>if xs.length<1000000 then .ok .non (G.set n (.lst (xs++[d])))else .bad|_=>.bad):=id rfl
@[simp]theorem ZHk{ks:List Bool}:Nz [.fl (ks.map D.bl)] G=.ok (.bl (ks.all id)) G:=by simp[Nz]
@[simp]theorem ZJR{ks:List Bool}:Lz [.fl (ks.map D.bl)] G=.ok (.bl (ks.any id)) G:=by simp[Lz]
@[simp]theorem ZDi{ks:List Int}:Ju [.fl (ks.map D.int)] G=.ok (.int ks.sum) G:=by simp[Ju]
end
section
variable{c:Prop}[Decidable c]
@[simp]theorem ite_ok{a b:α}:(if c then R.ok a G else R.ok b G)=R.ok (if c then a else b) G:=by split <;> rfl
theorem ZFF{S':DSt}:(if c then SR.nx S G else SR.nx S' G')=SR.nx (if c then S else S') (if c then G else G'):=by split <;> rfl
theorem ZGO{a b:α}{l m:List α}:(if c then a::l else b::m)=(if c then a else b)::(if c then l else m):=by split <;> rfl
theorem ZEw{a b:α}:(if c then xE a else xE b)=xE (if c then a else b):=by split <;> rfl
theorem ite_int{a b:Int}:(if c then D.int a else D.int b)=D.int (if c then a else b):=by split <;> rfl
end
section
variable{X:Cx}{E:XK}
end
section
variable{S:DSt}{G:DH}{n:Nat}{kvs:List (Key×D)}
end
section
noncomputable def okD:Nat->D->Bool
 |0,_=>xH
 |_+1,.non=>xG
 |_+1,.int _=>xG
 |_+1,.str _=>xG
 |n+1,.tup ds=>ds.all (okD n)
 |n+1,.fl ds=>ds.all (okD n)
 |_+1,_=>xH
theorem Rq:∀{n m:Nat}{d:D},okD n d=xG->n<=m->okD m d=xG
 |0,_,_,h,_=>by cases h
 |n+1,0,_,_,h=>by lia
 | n+1,m+1,d,h,hm=>by
  cases d with
  |tup ds=>
   simp only[okD,zS]at h⊢;exact λx hx=>Rq (h x hx) (by lia)
  |fl ds=>
   simp only[okD,zS]at h⊢;exact λx hx=>Rq (h x hx) (by lia)
  |_=>first|rfl|(simp[okD]at h)
theorem Vb{f:D->D->Option Bool}{P:D->Prop}(hf:∀x y,P x->P y->∃b,f x y=xE b/\(b=xG↔x=y)):∀{xs ys:List D},(∀x∈xs,P x)->(∀y∈ys,P y)->
  ∃b,eqZ f xs ys=xE b/\(b=xG↔xs.take ys.length=ys.take xs.length)
 |[],ys,_,_=>⟨xG,by cases ys<;>rfl,by simp⟩
 |x::xs,[],_,_=>⟨xG,rfl,by simp⟩
 |x::xs,y::ys,hx,hy=>by obtain⟨b,e1,h1⟩:=hf x y (hx x (by simp)) (hy y (by simp));obtain⟨c,e2,h2⟩:=Vb hf (λz hz=>hx z (zX _ hz)) (λz hz=>hy z (zX _ hz));refine⟨b&&c,by simp[eqZ,e1,e2],?_⟩;simp[h1,h2]
theorem ZDJ{G:DH}:∀(n:Nat)(d e:D),okD n d=xG->okD n e=xG->∃b,eqD n G d e=xE b/\(b=xG↔d=e)
 |0,d,e,h,_=>by cases h
 | n+1,d,e,h1,h2=>by
  have ih:=ZDJ (G:=G) n;cases d with
  |bl _=>simp[okD]at h1
  |ty _=>simp[okD]at h1
  |ref _=>simp[okD]at h1
  | tup xs=>
   cases e with
   |bl _=>simp[okD]at h2
   |ty _=>simp[okD]at h2
   |ref _=>simp[okD]at h2
   |tup ys=>
    simp only[okD,zS]at h1 h2;obtain⟨b,e1,h3⟩:=Vb ih (λx hx=>h1 x hx) (λx hx=>h2 x hx);refine⟨b&&xs.length==ys.length,by simp[eqD,view,e1],?_⟩;simp only[zY,h3,beq_iff_eq,D.tup.injEq];constructor
    ·rintro⟨e,hl⟩;rw[<-hl,qL]at e;rw[e,hl,qL]
    ·rintro rfl;exact⟨rfl,rfl⟩
   |_=>exact⟨xH,by simp[eqD,view],by simp⟩
  | fl xs=>
   cases e with
   |bl _=>simp[okD]at h2
   |ty _=>simp[okD]at h2
   |ref _=>simp[okD]at h2
   |fl ys=>
    simp only[okD,zS]at h1 h2;by_cases hl:xs.length=ys.length
    ·obtain⟨b,e1,h3⟩:=Vb ih (λx hx=>h1 x hx) (λx hx=>h2 x hx);refine⟨b,by simp[eqD,view,hl,e1],?_⟩;rw[h3,<-hl,qL,hl,qL];simp
    ·exact⟨xH,by simp[eqD,view,hl],by simp;rintro rfl;exact hl rfl⟩
   |_=>exact⟨xH,by simp[eqD,view],by simp⟩
  |non=>cases e<;>first|(simp[okD]at h2;done)|exact⟨_,rfl,by simp[eqV]⟩
  |int i=>cases e<;>first|(simp[okD]at h2;done)|exact⟨_,rfl,by simp[eqV]⟩
  |str i=>cases e<;>first|(simp[okD]at h2;done)|exact⟨_,rfl,by simp[eqV]⟩
open Classical in
theorem ZG7{e:D}(h1:okD 30 d=xG)(h2:okD 30 e=xG):G7 d e G=.ok (.bl (!decide (d=e))) G:=by
 obtain⟨b,e1,h⟩:=ZDJ (G:=G) 30 d e h1 h2;unfold G7;rw[e1];cases b with
 |true=>simp[h.mp rfl]
 |false=>simp[show¬d=e from λz=>zq (h.mpr z)]
theorem ZHP(h1:okD 30 d=xG):G7 d d G=.ok (.bl xH) G:=by rw[ZG7 h1 h1];simp
theorem Ko{n:Nat}(h:∀d∈ds,okD n d=xG):okD (n+1) (.tup ds)=xG:=by simpa[okD]using h
end
def cutD{α:Type}(xs:List α)(lo hi:Option Int):List α:=(xs.drop (HT.sIx xs.length 0 lo)).take (HT.sIx xs.length xs.length hi-HT.sIx xs.length 0 lo)
def Ky(z:Str)(lo hi:Option Int):Str:=⟨(cutD z.cps.toList lo hi).toArray⟩
theorem S9(xs:List α)(lo hi:Option Int):(cutD xs lo hi).length<=xs.length:=by unfold cutD;rw[qV,qA];lia
def Hq(t:Option DE)(S:DSt)(G:DH):R (Option Int):=match t with
 |none=>.ok xF G
 |some t=>(t S G).bind λd G1=>match d with
  |.int i=>.ok (xE i) G1
  |_=>.bad
def I9(d:D)(lo hi:Option Int)(G:DH):R D:=match d with
 |.str z=>if z.length<=1000000 then .ok (.str (Ky z lo hi)) G else .bad
 |.tup xs=>.ok (.tup (cutD xs lo hi)) G
 |d=>match Hh d G with
  |some xs=>.ok (.ref G.length) (G++[.lst (cutD xs lo hi)])
  |none=>.bad
def dSl(e:DE)(lo hi:Option DE):DE:=λS G=>(e S G).bind λd G1=>(Hq lo S G1).bind λl G2=>(Hq hi S G2).bind λh G3=>I9 d l h G3
theorem Hi(n:Nat)(v:Int):((HT.sIx n n (xE v):Nat):Int)=max 0 (min (if v<0 then v+(n:Int)else v) n)/\((HT.sIx n 0 (xE v):Nat):Int)=max 0 (min (if v<0 then v+(n:Int)else v) n):=by
 unfold HT.sIx;by_cases hv:v<0
 ·simp only[if_pos hv];lia
 ·simp only[if_neg hv];lia
theorem ZGJ(xs:Array Nat)(i k:Nat):(zx k).filterMap (λm=>xs[i+m]?)=(xs.toList.drop i).take k:=by
 induction k generalizing i with
 |zero=>simp
 | succ k ih=>
  rw[jZ,zH];have e:(List.map Nat.succ (zx k)).filterMap (λm=>xs[i+m]?)=(zx k).filterMap (λm=>xs[i+1+m]?):=by
   rw[qB]
   congr 1
   funext m;simp only[Function.comp]
   congr 1
   lia
  rw[e,ih (i+1)];by_cases hi:i<xs.size
  ·have h1:xs[i+0]?=xE xs[i]:=by simp[hi]
   rw[h1];have h2:xs.toList.drop i=xs[i]::xs.toList.drop (i+1):=by rw[zM (by simpa using hi)];simp
   rw[h2];simp
  ·have h1:xs[i+0]?=xF:=by simp;lia
   rw[h1];simp only;rw[qX (by simp;lia),qX (by simp;lia)];simp
theorem ZEr(x:Str)(lo hi:Option Int):Txt.slice x lo hi=Ky x lo hi:=by
 have hlen:x.length=x.cps.toList.length:=by simp[Str.length]
 have key:(Builtin.Str.strSliceIndices lo hi 1 x.length).filterMap (x.cps[·]?)=cutD x.cps.toList lo hi:=by
  have e1:∀(v:Option Int),(match v with |none=>(0:Int)|some i=>max 0 (min (if i<0 then i+(x.length:Int)else i) x.length))=((HT.sIx x.length 0 v:Nat):Int):=λv=>by
   cases v with
   |none=>rfl
   |some i=>exact(Hi x.length i).2.symm
  have e2:∀(v:Option Int),(match v with |none=>(x.length:Int)|some i=>max 0 (min (if i<0 then i+(x.length:Int)else i) x.length))=((HT.sIx x.length x.length v:Nat):Int):=λv=>by
   cases v with
   |none=>rfl
   |some i=>exact(Hi x.length i).1.symm
  have e3:Builtin.Str.strSliceIndices lo hi 1 x.length=sliceRange ((HT.sIx x.length 0 lo:Nat):Int) ((HT.sIx x.length x.length hi:Nat):Int) 1:=by
   rw[<-e1 lo,<-e2 hi];unfold Builtin.Str.strSliceIndices
   cases lo<;>cases hi<;>simp
  rw[e3];unfold sliceRange cutD;rw[qB,<-hlen];generalize HT.sIx x.length 0 lo=i;generalize HT.sIx x.length x.length hi=j;have e4:((λa=>x.cps[a]?) ∘ λ(k:Nat)=>((i:Int)+1*(k:Int)).toNat)=λk=>x.cps[i+k]? :=by
   funext k;simp only[Function.comp]
   congr 1
   lia
  have e5:(if(1:Int)>0 then if(i:Int)<(j:Int)then((j:Int)-i+1-1)/1 else 0 else if(i:Int)>(j:Int)then((i:Int)-j-1-1) / -1 else 0).toNat=j-i:=by
   rw[if_pos (by lia)];split
   ·rw[Int.ediv_one];lia
   ·lia
  rw[e4,e5];exact ZGJ x.cps i (j-i)
 unfold Txt.slice Ky;split
 ·rename_i h;have h':(Builtin.Str.strSliceIndices lo hi 1 x.length).length=x.length:=by simpa using h
  have hsz:(cutD x.cps.toList lo hi).length=x.cps.toList.length∨(cutD x.cps.toList lo hi).length<x.cps.toList.length:=by have:=S9 x.cps.toList lo hi;lia
  have hall:(cutD x.cps.toList lo hi).length=x.cps.toList.length:=by
   have e3:(Builtin.Str.strSliceIndices lo hi 1 x.length).length=HT.sIx x.length x.length hi-HT.sIx x.length 0 lo:=by
    have e1:∀(v:Option Int),(match v with |none=>(0:Int)|some i=>max 0 (min (if i<0 then i+(x.length:Int)else i) x.length))=((HT.sIx x.length 0 v:Nat):Int):=λv=>by
     cases v with
     |none=>rfl
     |some i=>exact(Hi x.length i).2.symm
    have e2:∀(v:Option Int),(match v with |none=>(x.length:Int)|some i=>max 0 (min (if i<0 then i+(x.length:Int)else i) x.length))=((HT.sIx x.length x.length v:Nat):Int):=λv=>by
     cases v with
     |none=>rfl
     |some i=>exact(Hi x.length i).1.symm
    have e3:Builtin.Str.strSliceIndices lo hi 1 x.length=sliceRange ((HT.sIx x.length 0 lo:Nat):Int) ((HT.sIx x.length x.length hi:Nat):Int) 1:=by
     rw[<-e1 lo,<-e2 hi];unfold Builtin.Str.strSliceIndices
     cases lo<;>cases hi<;>simp
    rw[e3];unfold sliceRange;rw[zw,List.length_range];generalize HT.sIx x.length 0 lo=i;generalize HT.sIx x.length x.length hi=j;rw[if_pos (by lia)];split
    ·rw[Int.ediv_one];lia
    ·lia
   have hj:HT.sIx x.length x.length hi<=x.length:=HT.ZAJ _ _ (zK _) hi;unfold cutD;rw[qV,qA,<-hlen];lia
  have hs:(cutD x.cps.toList lo hi).Sublist x.cps.toList:=(List.take_sublist _ _).trans (List.drop_sublist _ _);rw[hs.eq_of_length hall]
 ·rw[key]
section
variable{X:Cx}{E:XK}
theorem Ik:SlR X (λx lo hi H Q=>∃z:Str,x=.str z/\z.length<=sizeLine/\Q (.str (Ky z lo hi)) H):=by
 intro xD s σ H x v vl vu lo hi sl Q I rx hs pl pu h;obtain⟨z,rfl,hz,q⟩:=h;obtain⟨t,rfl⟩:=rx;refine⟨"str",_,PySem.F.slot_str_getitem.lookup,typeIs_str _ _ _,?_⟩
 have fin:∀(l u:Option (Int×Tok)),vl=partValue l->vu=partValue u->l.map (·.1)=lo->u.map (·.1)=hi->xJ (jS X.prog X.w) X.A (getItem (.str z t) (.ref sl)) (EP X xD σ Q) X.xe s:=by
  rintro l u rfl rfl rfl rfl
  refine wpAny_getItem_str_slice (l:=l) (u:=u) (st:=xF) (show s.heap.IsSlice sl l u xF from hs) rfl ?_
  have e:∀Q',(Txt.slice z (l.map (·.1)) (u.map (·.1))).length<=sizeLine/\(∀t' k,Q' (.str (Txt.slice z (l.map (·.1)) (u.map (·.1))) t') {s with toks:=k})->(sliceMade z t l u xF).post Q' s:=λQ' hq=>post_val_or_str hq
  refine e _ ⟨z0 (Txt.slice_le z _ _) hz,λt' k=>?_⟩;rw[ZEr];exact⟨.str _,H,I.tok k,⟨t',rfl⟩,q⟩
 cases pl with
 |none=>cases pu with
  |none=>exact fin xF xF rfl rfl rfl rfl
  |int j tj=>exact fin xF (xE (j,tj)) rfl rfl rfl rfl
 |int i ti=>cases pu with
  |none=>exact fin (xE (i,ti)) xF rfl rfl rfl rfl
  |int j tj=>exact fin (xE (i,ti)) (xE (j,tj)) rfl rfl rfl rfl
theorem ZGt{prog:j1}{E:j5->j3->Prop}{t sl:jx}{items:Array j5}{vl vu:j5}{Q:j5->j3->Prop}(ht:IsTup s.heap t items)(hs:s.heap.IsSliceOf sl vl vu .none)(pl:IsPart vl lo)(pu:IsPart vu hi)
  (hw:HT.sIx items.size 0 lo=0/\HT.sIx items.size items.size hi=items.size) (h:Q (.ref t) s):xJ (jS prog w) A (getItem (.ref t) (.ref sl)) Q E s:=by
 obtain⟨os,hos,hcs,hds⟩:=id hs;have hTs:s.TypeIs (.ref sl) "slice":=⟨os,hos,hcs⟩;unfold getItem
 try with_reducible refine xq ?_
 first|refine xV (xy ?_)|skip
 refine xV (wpAny_sequenceKey ht.typeIs (by decide) ?_);refine xV (xW (name:=Str.ofString "__getitem__") ht.typeIs PyProof.Rows.slot_tuple_getitem
  (xK PyProof.Rows.slot_tuple_getitem ht.typeIs entry_tuple_getitem ?_ (args_tuple_getitem _ _)))
 show xJ _ _ (Builtin.Tuple.tupleItemsOf (.ref t) >>=_) _ _ s;refine xV (tupleItemsOf_ ht ?_);refine xV (wpAny_typeOf hTs ?_);rw[if_pos (by decide)];refine xV (HT.Zz hs pl pu ?_);have hyes:(((HT.sIx items.size 0 lo:Nat):Int)==0&&(1:Int)==1&&(HT.sIx items.size items.size hi-HT.sIx items.size 0 lo)==items.size)=xG:=by rw[hw.1,hw.2];simp
 show xJ _ _ (if(((HT.sIx items.size 0 lo:Nat):Int)==0&&(1:Int)==1&&(HT.sIx items.size items.size hi-HT.sIx items.size 0 lo)==items.size)=xG then _ else _) _ _ s;rw[if_pos hyes];refine xV ?_;unfold Builtin.Tuple.tupleIsExact;refine xV (wpAny_typeOf ht.typeIs (xy ?_));rw[if_pos (by decide)];exact xV (wpAny_rule (xy ⟨_,rfl,xy h⟩))
theorem ZGw:SlR X (λx lo hi H Q=>∃a xs,x=.ref a/\SqT X.K H a xs/\(HT.sIx xs.length 0 lo=0/\HT.sIx xs.length xs.length hi=xs.length)/\Q (.ref a) H):=by
 intro xD s σ H x v vl vu lo hi sl Q I rx hs pl pu h;obtain⟨a,xs,rfl,hx,hw,q⟩:=h;cases rx;obtain⟨its,r,ht,hz⟩:=I.tuple hx;have hlen:its.toArray.size=xs.length:=by rw[zW];exact r.length.symm
 exact⟨"tuple",_,PyProof.Rows.slot_tuple_getitem.lookup,ht.typeIs,ZGt ht hs pl pu (by rw[hlen];exact hw) ⟨.ref a,H,I,rfl,q⟩⟩
def Lg(E:XK)(a:Wd)(r:R (Option Int))(Q:Option Int->Hp->Prop):Prop:=match r with
 |.ok k G=>∀(b:Wd),Ext a b->Sim b G->Q k b.H
 |.err x G=>XOk E a x G
 |.bad=>False
def QO(X:Cx)(E:XK)(e:Option jk)(t:Option DE):Prop:=PO X e (λσ H Q=>∃(a:Wd)(S:DSt)(G:DH),a.K=X.K/\a.H=H/\Sim a G/\RepS a S σ/\Lg E a (Hq t S G) Q)
theorem _root_._L.PO.mono{e:Option jk}{t t':TO}(h:PO X e t)(w:∀σ H Q,t' σ H Q->t σ H Q):PO X e t':=λxD s σ H Q I q=>h xD s σ H Q I (w σ H Q q)
theorem Ge:QO X E xF xF:=ZFV.mono λσ H Q h=>by obtain⟨a,S,G,hk,rfl,s,r,h⟩:=h;exact h a (Ext.refl a) s
theorem De(he:QE X E e t):QO X E (xE e) (xE t):=(ZII he).mono λσ H Q h=>by
 obtain⟨a,S,G,hk,rfl,s,r,h⟩:=h;refine⟨a,S,G,hk,rfl,s,r,?_⟩
 have h':Lg E a ((t S G).bind λd G1=>match d with | .int i=>.ok (xE i) G1|_=>.bad) Q:=h
 cases ht:t S G with
 |ok d G1=>
  rw[ht]at h';intro b v x sb rv;cases d with
  |int i=>exact⟨i,rv,h' b x sb⟩
  |_=>exact h'.elim
 |err x G1=>rw[ht]at h';exact h'
 |bad=>rw[ht]at h';exact h'
theorem Reps.cutD(r:Reps a ds vs)(lo hi:Option Int):Reps a (_D.cutD ds lo hi) (Jj vs lo hi):=by unfold _D.cutD Jj;rw[r.length];exact(r.drop _).take _
theorem Lg.imp{r:R (Option Int)}{Q Q':Option Int->Hp->Prop}(h:Lg E a r Q)(w:∀v H,Q v H->Q' v H):Lg E a r Q':=by
 cases r with
 |ok d G=>exact λb x s=>w _ _ (h b x s)
 |err e G=>exact h
 |bad=>exact h
theorem ZBN{r:R (Option Int)}{f:Option Int->DH->R D}(h:out E a (r.bind f) Q):
  Lg E a r (λk H=>∃(b:Wd)(G:DH),b.H=H/\Ext a b/\Sim b G/\r=.ok k G/\out E b (f k G) Q):=by
 cases r with
 |ok d G=>exact λb x s=>⟨b,G,rfl,x,s,rfl,out.mono x h⟩
 |err e G=>exact h
 |bad=>exact h
theorem Du{lo hi:Option jk}{tl th:Option DE}{p2 pos:Pos}(he:QE X E e te)(hl:QO X E lo tl)(hu:QO X E hi th):QE X E (.Subscript e (.Slice lo hi xF p2) pos) (dSl te tl th):=
 (ZEQ (ZHD.or (ZFe.or (ZGw.or Ik))) he hl hu).mono λσ H Q h=>by
 obtain⟨a,S,G,hk,rfl,s,r,h⟩:=h;refine⟨a,S,G,hk,rfl,s,r,(Dz h).imp ?_⟩;rintro v _ ⟨b,d,G1,rfl,x,s1,q,_,h1⟩;refine⟨b,S,G1,x.k.trans hk,rfl,s1,r.mono x,(ZBN h1).imp ?_⟩;rintro l _ ⟨c,G2,rfl,y,s2,_,h2⟩;refine⟨c,S,G2,y.k.trans (x.k.trans hk),rfl,s2,(r.mono x).mono y,(ZBN h2).imp ?_⟩;rintro u _ ⟨c3,G3,rfl,y3,s3,_,h3⟩;have hk3:=y3.k.trans (y.k.trans (x.k.trans hk));have q3:=(q.mono y).mono y3
 have lst:out E c3 (match Hh d G3 with |some xs=>.ok (.ref G3.length) (G3++[.lst (cutD xs l u)])|none=>.bad) Q->rSlL X.K v l u c3.H Q:=λh3=>by
  split at h3
  ·rename_i xs hx;obtain⟨p,vs,e1,q1,r1⟩:=Xx s3 q3 hx;exact⟨p,vs,e1,by rw[<-hk3];exact q1,λp hp=>Yt s3 (Reps.cutD r1 l u) h3 p hp⟩
  ·exact h3.elim
 cases d with
 | str z=>
  have h4:out E c3 (if z.length<=1000000 then .ok (.str (Ky z l u)) G3 else .bad) Q:=h3;split at h4
  ·rename_i hl
   cases(show v=V.str z from q3)
   exact .inr (.inr (.inr ⟨z,rfl,z0 hl size6,h4 c3 _ (Ext.refl _) s3 rfl⟩))
  ·exact h4.elim
 | tup xs=>
  have h4:out E c3 (.ok (.tup (cutD xs l u)) G3) Q:=h3;obtain⟨p,vs,e1,q1,r1⟩:=q3;by_cases hw:HT.sIx vs.length 0 l=0/\HT.sIx vs.length vs.length u=vs.length
  ·refine .inr (.inr (.inl ⟨p,vs,e1,by rw[<-hk3];exact q1,hw,h4 c3 _ (Ext.refl _) s3 ⟨p,vs,rfl,q1,?_⟩⟩));have:cutD xs l u=xs:=by unfold cutD;rw[r1.length,hw.1,hw.2,<-r1.length];simp
   rw[this];exact r1
  ·exact .inr (.inl ⟨p,vs,e1,by rw[<-hk3];exact q1,hw,λp hp=>Xe s3 (Reps.cutD r1 l u) h4 p hp⟩)
 |fl xs=>exact .inl (lst h3)
 |ref i=>exact .inl (lst h3)
 |non=>exact(show False from h3).elim
 |bl _=>exact(show False from h3).elim
 |int _=>exact(show False from h3).elim
 |ty _=>exact(show False from h3).elim
noncomputable def isS:D->Bool
 |.str _=>xG
 |_=>xH
def Rw(f:D->List D->DH->R D)(o:DE)(t:DA):DE:=λS G=>(o S G).bind λx G1=>if isS x=xG then(t S G1).bind λxs G2=>f x xs G2 else .bad
section
variable{name:Str}{id:String}{f:D->List D->DH->R D}{o e:jk}{es:List jk}{to:DE}{t:DA}{apos cpos:Pos}
theorem ZCV(slot:Slot "str" name id)(hty:typeOf (.builtin id)=pure (.type "method_descriptor"))(hm:MtM X id (lRm X.K E f))(ho:QE X E o to)(ha:QA X E (e::es) t)
  (hbase:j8 o name X.env (eval o X.env)=eval o X.env:=by rfl)
  (hfew:((j9 cpos (xQ (e::es) X.env)).all (λx=> !x.1)&&(backToKw cpos (keywordEach [] X.env)).all (λx=>x.1.isSome)
   && decide ((e::es).length+([]:List Keyword).length+(if([]:List Keyword).isEmpty then 0 else 1)<30))=xG:=by rfl)
  (hline:(apos.endLine==cpos.line)=xG:=by rfl) (hs:xQ (e::es) X.env=(xH,eval e X.env)::xQ es X.env:=by rfl) (hplain:(j9 cpos (xQ es X.env)).any (·.1)=xH:=by rfl):
  QE X E (.Call (.Attribute o name apos) (e::es) [] cpos) (Rw f to t):=(ZAy PySem.F.plainAttrs_str slot hty hm ho ha hbase hfew hline hs hplain).mono λσ H Q h=>by
 obtain⟨a,S,G,hk,rfl,s,r,h⟩:=h;refine⟨a,S,G,hk,rfl,s,r,(Dz h).imp ?_⟩;rintro v _ ⟨b,d,G1,rfl,x,s1,q,-,h1⟩;split at h1
 ·rename_i hl;have ty:tyV X.K "str" v b.H:=by
   cases d with
   |str z=>cases(show v=V.str z from q);exact rfl
   |_=>cases hl
  refine⟨ty,b,S,G1,x.k.trans hk,rfl,s1,r.mono x,(O5 h1).imp ?_⟩;rintro vs _ ⟨c,ds,G2,rfl,y,s2,q2,-,h2⟩;exact⟨c,G2,d,ds,y.k.trans (x.k.trans hk),rfl,s2,q.mono y,q2,h2⟩
 ·exact h1.elim
end
noncomputable def Kz:List D->Option (List Str)
 |[]=>xE []
 |.str x::r=>(Kz r).map (x::·)
 |_=>xF
@[simp]theorem ZK1(ns:List Str):Kz (ns.map D.str)=xE ns:=by
 induction ns with
 |nil=>rfl
 |cons n ns ih=>simp[Kz,ih]
theorem ZA5:∀{xs:List D}{ns:List Str},Kz xs=xE ns->xs=ns.map D.str
 |[],ns,h=>by cases h;rfl
 |.str i::r,ns,h=>by
  unfold Kz at h;rw[z8]at h;obtain⟨m,e,rfl⟩:=h;rw[ZA5 e]
  rfl
 |.non::_,_,h=>by cases h
 |.bl _::_,_,h=>by cases h
 |.int _::_,_,h=>by cases h
 |.ty _::_,_,h=>by cases h
 |.tup _::_,_,h=>by cases h
 |.fl _::_,_,h=>by cases h
 |.ref _::_,_,h=>by cases h
noncomputable def Ig(sep:List Nat):List (List Nat)->List Nat
 |[]=>[]
 |[x]=>x
 |x::y::r=>x++sep++Ig sep (y::r)
def Kq(o:D)(ds:List D)(G:DH):R D:=match o,ds with
 | .str sep,[d]=>match Bs d G with
  |some xs=>match Kz xs with
   |some ys=>if(ys.map (·.length)).sum+ys.length*sep.length<=1000000 then .ok (.str (Txt.join sep ys)) G else .bad
   |none=>.bad
  |none=>.bad
 |_,_=>.bad
theorem Xu:∀{ys:List Str}{us:List j5},Vals (ys.map V.str) us->StrsAre us ys
 |[],us,r=>by cases r;exact .nil
 | y::ys,us,r=>by
  cases r with
  |cons h t=>
   obtain⟨tk,rfl⟩:=h;exact .cons _ _ (Xu t)
theorem ZBR:∀{ys:List Str}{vs:List V},Reps a (ys.map D.str) vs->vs=ys.map V.str
 |[],vs,r=>r
 |y::ys,vs,r=>by
  obtain⟨v,w,rfl,h1,h2⟩:=r
  cases(show v=V.str y from h1)
  rw[ZBR h2]
  rfl
theorem ZEj:MtM X "str.join" (lRm X.K E Kq):=λxD s σ H x xs v us Q I rx rs h=>by
 obtain⟨a,G,d,ds,hk,rfl,sm,rd,r,q⟩:=h;unfold Kq at q;split at q
 ·rename_i sep e;obtain⟨w,rfl,rw'⟩:=reps1 r
  cases(show x=V.str sep from rd)
  obtain⟨t,rfl⟩:=rx;split at q
  ·rename_i ys hs;split at q
   ·rename_i zs hz;split at q
    ·rename_i hl;obtain⟨p,vs,rfl,h1,r1⟩:=Hc sm rw' hs;rw[ZA5 hz]at r1;have ev:=ZBR r1;subst ev;obtain⟨u,rfl,ru⟩:=vals1 rs;cases ru;rw[hk]at h1;rcases h1 with h1|h1
     ·obtain⟨its,r2,pl,_⟩:=I.list h1;exact join_list pl.isList (by simpa using Xu r2) (z0 hl (by decide)) λt' k=>⟨.str _,a.H,I.tok k,⟨t',rfl⟩,q a _ (Ext.refl a) sm rfl⟩
     ·obtain⟨its,r2,pl,_⟩:=I.tuple h1;exact join_tuple pl (by simpa using Xu r2) (z0 hl (by decide)) λt' k=>⟨.str _,a.H,I.tok k,⟨t',rfl⟩,q a _ (Ext.refl a) sm rfl⟩
    ·exact q.elim
   ·exact q.elim
  ·exact q.elim
 ·exact q.elim
noncomputable def Q0(o:D)(ds:List D)(G:DH):R D:=match o,ds with
 |.str x,[.str y]=>.ok (.int (Txt.find x y)) G
 |_,_=>.bad
theorem m_find:MtM X "str.find" (lRm X.K E Q0):=λxD s σ H x xs v us Q I rx rs h=>by
 obtain⟨a,G,d,ds,hk,rfl,sm,rd,r,q⟩:=h;unfold Q0 at q;split at q
 ·rename_i x' y;obtain⟨w,rfl,rw'⟩:=reps1 r
  cases(show x=V.str x' from rd)
  cases(show w=V.str y from rw')
  obtain⟨t,rfl⟩:=rx;obtain⟨u,rfl,u',rfl⟩:=vals1 rs;exact SC.find ⟨.int _,a.H,I.tok _,⟨_,rfl⟩,q a _ (Ext.refl a) sm rfl⟩
 ·exact q.elim
end
section
variable{S:DSt}{G:DH}
@[simp]theorem ev_Sl{e:DE}{lo hi:Option DE}:dSl e lo hi S G=(e S G).bind λd G1=>(Hq lo S G1).bind λl G2=>(Hq hi S G2).bind λh G3=>I9 d l h G3:=id rfl
@[simp]theorem ZKm:Hq xF S G=.ok xF G:=id rfl
@[simp]theorem ZLP:Hq (xE t) S G=(t S G).bind λd G1=>match d with | .int i=>.ok (xE i) G1|_=>.bad:=id rfl
@[simp]theorem Iv{z:Str}:I9 (.str z) lo hi G=if z.length<=1000000 then .ok (.str (Ky z lo hi)) G else .bad:=id rfl
@[simp]theorem ev_slT:I9 (.tup xs) lo hi G=.ok (.tup (cutD xs lo hi)) G:=id rfl
@[simp]theorem ev_slF:I9 (.fl xs) lo hi G=.ok (.ref G.length) (G++[.lst (cutD xs lo hi)]):=id rfl
@[simp]theorem ev_MtS{f:D->List D->DH->R D}{o:DE}{t:DA}:Rw f o t S G=(o S G).bind λx G1=>if isS x=xG then(t S G1).bind λxs G2=>f x xs G2 else .bad:=id rfl
@[simp]theorem ev_isS:isS (.str x)=xG:=id rfl
@[simp]theorem ZLM{y:Str}:Q0 (.str x) [.str y] G=.ok (.int (Txt.find x y)) G:=id rfl
@[simp]theorem ZEe:Fd (.str x) G=.ok (.pure (signs x)) G:=id rfl
@[simp]theorem Pn{ys:List D}:Aq (.fl xs) (.fl ys) G=if xs.length+ys.length<=1000000 then .ok (.ref G.length) (G++[.lst (xs++ys)])else .bad:=id rfl
@[simp]theorem Io{z:Str}{i:Int}:Ak (.str z) (.int i) G=if z.length<=1000000 then(match atI z.cps.toList i with |some c=>.ok (sgn c) G|none=>.bad)else .bad:=id rfl
theorem ZGF{sep:Str}{ys:List Str}(h:(ys.map (·.length)).sum+ys.length*sep.length<=1000000):Kq (.str sep) [.fl (ys.map D.str)] G=.ok (.str (Txt.join sep ys)) G:=by simp[Kq,h]
end
end _D
namespace _D
open PySem PySem.Spec _L
open PyProof.Rows hiding St
open Builtin.Str
variable{g:DG}{te:DE}{S:DSt}{G:DH}
section
variable(p:Nat->Bool)(m:Nat)
def Hk(i:Nat)(st:Array Nat×Nat):Id (ForInStep (Array Nat×Nat)):=
 if(decide (st.1.size<1)&&decide (st.2<=i)&&p i)=xG then pure (ForInStep.yield (st.1.push i,i+m))else pure (ForInStep.yield (st.1,st.2))
theorem ZCw:∀(l:List Nat)(st:Array Nat×Nat),st.1.size=1->(forIn l st (Hk p m):Id _)=pure st
 |[],st,_=>rfl
 |i::l,st,h=>by
  rw[List.forIn_cons];have:Hk p m i st=pure (ForInStep.yield st):=by unfold Hk;rw[if_neg (by simp[h])]
  rw[this];exact ZCw l st h
theorem occ_first(lo:Nat):∀(l:List Nat),(∀i∈l,lo<=i)->((forIn l (#[],lo) (Hk p m):Id (Array Nat×Nat))).run.1.toList=(l.find? p).toList
 |[],_=>rfl
 | i::l,h=>by
  rw[List.forIn_cons];by_cases hp:p i=xG
  ·have:Hk p m i (#[],lo)=pure (ForInStep.yield (#[i],i+m)):=by
    unfold Hk;rw[if_pos (by simp[hp,h i (by simp)])]
    rfl
   rw[this];have e:=ZCw p m l (#[i],i+m) rfl;show(Id.run (forIn l (#[i],i+m) (Hk p m))).1.toList=_;rw[e];simp[List.find?_cons,hp]
  ·have:Hk p m i (#[],lo)=pure (ForInStep.yield (#[],lo)):=by unfold Hk;rw[if_neg (by simp[hp])]
   rw[this];have:=occ_first lo l (λj hj=>h j (zX _ hj));rw[List.find?_cons_of_neg hp];exact this
end
theorem occ1(s sub:Str)(lo hi:Nat):occurrences s sub lo hi 1=((qx lo (hi+1-lo)).find? (λi=>decide (i+sub.length<=hi)&&subAt s sub i)).toList:=by
 unfold occurrences;simp only[Std.Legacy.Range.forIn_eq_forIn_range',Std.Legacy.Range.size,Nat.sub_one_add_one,Nat.add_one_sub_one,Nat.div_one];have:=occ_first (λi=>decide (i+sub.length<=hi)&&subAt s sub i) sub.length lo (qx lo (hi+1-lo)) (λi hi'=>by rw[List.mem_range'_1]at hi';exact hi'.1);rw[<-this];unfold Hk;simp only[<-Bool.and_assoc]
 rfl
theorem ZBm(s sub:Str)(i:Nat)(h:i+sub.length<=s.length):subAt s sub i=xG↔(s.cps.toList.drop i).take sub.length=sub.cps.toList:=by unfold subAt;rw[beq_iff_eq,<-Array.toList_inj];rw[Array.toList_extract];simp[List.extract_eq_take_drop]
theorem contains1(s:Str)(c:Nat):(!(occurrences s ⟨#[c]⟩ 0 s.length 1).isEmpty)=decide (c∈s.cps.toList):=by
 rw[occ1];have hl:(⟨#[c]⟩:Str).length=1:=rfl;rw[hl];by_cases h:c∈s.cps.toList
 ·obtain⟨i,hi,e⟩:=List.mem_iff_getElem.mp h;have hi':i<s.length:=by simpa[Str.length]using hi
  have hf:((qx 0 (s.length+1-0)).find? (λi=>decide (i+1<=s.length)&&subAt s ⟨#[c]⟩ i)).isSome=xG:=by rw[List.find?_isSome];refine⟨i,by rw[List.mem_range'_1];lia,?_⟩;rw[zY];refine⟨decide_eq_true (by lia),?_⟩;rw[ZBm s ⟨#[c]⟩ i (by rw[hl];lia),hl,zM hi,e];simp
  cases hc:(qx 0 (s.length+1-0)).find? (λi=>decide (i+1<=s.length)&&subAt s ⟨#[c]⟩ i)with
  |none=>rw[hc]at hf;cases hf
  |some j=>simp[h]
 ·have hf:(qx 0 (s.length+1-0)).find? (λi=>decide (i+1<=s.length)&&subAt s ⟨#[c]⟩ i)=xF:=by
   rw[List.find?_eq_none];intro i hi hp;rw[zY]at hp;have h1:i+1<=s.length:=by simpa using hp.1
   have h2:=(ZBm s ⟨#[c]⟩ i (by rw[hl];lia)).mp hp.2
   rw[hl,zM (show i<s.cps.toList.length from zZ (zR i) (by simpa[Str.length]using h1))]at h2
   simp at h2;exact h (by rw[<-h2];simp)
  rw[hf];simp[h]
theorem ZJv(sep:Str):∀(xs:List Str),(Txt.join sep xs).cps.toList=Ig sep.cps.toList (xs.map (·.cps.toList))
 |[]=>rfl
 |[x]=>by simp[Txt.join,glued,Ig]
 | x::y::r=>by
  have key:∀(r:List Str)(acc:Array Nat),(r.foldl (λacc p=>acc++sep.cps++p.cps) acc).toList=acc.toList++(r.map λp=>sep.cps.toList++p.cps.toList).flatten:=by
   intro r
   induction r with
   |nil=>intro acc;simp
   |cons p r ih=>intro acc;rw[q9,ih];simp
  have j:∀(x:Str)(r:List Str),Ig sep.cps.toList ((x::r).map (·.cps.toList))=x.cps.toList++(r.map λp=>sep.cps.toList++p.cps.toList).flatten:=by
   intro x r
   induction r generalizing x with
   |nil=>simp[Ig]
   |cons p r ih=>
    have:=ih p;simp only[zj]at this⊢;rw[Ig,this];simp
  rw[j];show(glued sep (x::y::r)).cps.toList=_;unfold glued;simp only[List.drop_one,List.tail_cons,List.headD_cons];rw[key]
def CStep(g:DG)(c:DB)(te:DE)(S:DSt)(G:DH)(x:D)(r:Option D):Prop:=
 ∃S1,g x S G=.ok S1 G/\((c S1 G=.ok xH G/\r=xF)∨(c S1 G=.ok xG G/\∃d,te S1 G=.ok d G/\r=xE d))
theorem P0{c:DB}{F:D->Option D}:∀{xs:List D},(∀x∈xs,CStep g c te S G x (F x))->Cj g c te S xs G=.ok (xs.filterMap F) G
 |[],_=>rfl
 |x::xs,h=>by
  obtain⟨S1,h1,h2⟩:=h x (by simp);have ih:=P0 (λy hy=>h y (zX _ hy));rw[Ji,h1];rcases h2 with⟨h2,h3⟩|⟨h2,d,h3,h4⟩
  ·simp[h2,h3,ih,zH]
  ·simp[h2,h3,h4,ih,zH]
theorem ZA9{i:Nat}{c:DB}{F:D->Option D}{xs:List D}(hG:G[i]?=xE (.lst xs))(h:∀x∈xs,CStep g c te S G x (F x)):
  ∀(n j:Nat),j+n=xs.length->Ew i g c te S n j G=.ok ((xs.drop j).filterMap F) G
 |0,j,hj=>by
  unfold Ew;rw[hG];simp only;rw[if_pos (by lia),qX (by lia)]
  rfl
 |n+1,j,hj=>by
  have hlt:j<xs.length:=by lia
  have ih:=ZA9 hG h n (j+1) (by lia);obtain⟨S1,h1,h2⟩:=h xs[j] (qW hlt);unfold Ew;rw[hG];simp only;rw[zJ hlt];simp only[h1,R.ZCb];rw[zM hlt,zH];rcases h2 with⟨h2,h3⟩|⟨h2,d,h3,h4⟩
  ·simp[h2,h3,ih]
  ·simp[h2,h3,h4,ih]
theorem ZHm{i:Nat}{c:DB}{F:D->Option D}{xs:List D}(hG:G[i]?=xE (.lst xs))(h:∀x∈xs,CStep g c te S G x (F x)):
  Ew i g c te S xs.length 0 G=.ok (xs.filterMap F) G:=ZA9 hG h xs.length 0 (by lia)
theorem ZCW:∀xs:List (List Nat),Ig [] xs=xs.flatten
 |[]=>rfl
 |[x]=>by simp[Ig]
 |x::y::r=>by rw[Ig,ZCW (y::r)];simp
theorem ZG5(cs:List Nat):Txt.join ("":Str) (cs.map λc=>(⟨#[c]⟩:Str))=⟨cs.toArray⟩:=by
 have h:=ZJv ("":Str) (cs.map λc=>(⟨#[c]⟩:Str));have e:("":Str).cps.toList=[]:=by decide +kernel
 rw[e,ZCW,q8]at h;have e2:(cs.map ((λx:Str=>x.cps.toList) ∘ λc=>(⟨#[c]⟩:Str))).flatten=cs:=by
  clear h
  induction cs with
  |nil=>rfl
  |cons c cs ih=>simp only[zj,List.flatten_cons,ih];rfl
 rw[e2]at h;generalize Txt.join ("":Str) (cs.map λc=>(⟨#[c]⟩:Str))=z at h;obtain⟨a⟩:=z;simp only at h;rw[<-h]
theorem ZFZ{x y:Str}(h:x.cps.toList=y.cps.toList):x=y:=by obtain⟨a⟩:=x;obtain⟨b⟩:=y;simp only at h;rw[Array.toList_inj.mp h]
theorem ZI7{x y:Str}:x=y↔x.cps.toList=y.cps.toList:=⟨λh=>by rw[h],ZFZ⟩
end _D
namespace _D
open PySem PySem.Spec _L
open PyProof.Rows hiding St
variable{p:jx}{k:Nat}{old:j5}
inductive Src where
 |l (a:jx)
 |t (a:jx)
variable{sr:Src}
noncomputable def Src.itn:Src->String
 |.l _=>"list_iterator"
 |.t _=>"tuple_iterator"
noncomputable def Src.adr:Src->jx
 |.l a=>a
 |.t a=>a
def Src.it(h:Heap)(p:jx)(k:Nat)(sr:Src):Prop:=∃o,h.get? p=xE o/\o.cls=.type sr.itn/\o.data=.fields #[.ref sr.adr,.int k 0]
def Src.val(h:Heap)(xs:Array j5):Src->Prop
 |.l a=>h.IsList a xs
 |.t a=>h.IsTuple a xs
theorem Src.it.at{h h':Heap}(x:sr.it h p k)(e:∀o,h.get? p=xE o->h'.get? p=xE o):sr.it h' p k:=let⟨o,ho,r⟩:=x;⟨o,e o ho,r⟩
theorem Src.it.lt{h:Heap}(x:sr.it h p k):p<h.objs.size:=let⟨_,ho,_⟩:=x;zV ho
section
variable{prog:j1}{w:j6}{A:jv}{E:j5->j3->Prop}{s:j3}
theorem Src.next_item{xs:Array j5}{x:j5}{Q:j5->j3->Prop}(hit:sr.it s.heap p k)(hv:sr.val s.heap xs)(hx:xs[k]?=xE x)
  (hQ:∀h',sr.it h' p (k+1)->qF p s.heap h'->Q x {s with heap:=h'}):xJ (jS prog w) A (Builtin.SmallTypes.nextOf (.ref p)) Q E s:=by
 cases sr with
 |l a=>exact wpAny_nextOf_list_item (show s.heap.IsListIter p a k from hit) hv hx hQ
 |t a=>
  obtain⟨o,ho,hc,hd⟩:=id hit;obtain⟨ol,hol,_,nl,hdl⟩:=hv;have hT:s.TypeIs (.ref p) "tuple_iterator":=⟨o,ho,hc⟩;unfold Builtin.SmallTypes.nextOf;refine xV (xW (name:=Str.ofString "__next__") hT PySem.F.slot_tuple_iterator_next (xK PySem.F.slot_tuple_iterator_next hT PySem.F.entry_tuple_iterator_next ?_ (PySem.F.args_tuple_iterator_next_1 _)));refine xV (m:=field (.ref p) 0) (xY ho hd (x:=.ref a) rfl ?_)
  show xJ _ _ (if(Value.ref a==Value.none)=xG then _ else(field (.ref p) 1 >>=_)) _ _ s
  rw[if_neg (show¬((Value.ref a==Value.none)=xG)from zq)]
  refine xV (m:=field (.ref p) 1) (xY ho hd (x:=.int k 0) rfl (xV (m:=seqItems? (.ref a)) (wpAny_seqItems hol hdl ?_)));simp only[Int.toNat_natCast,hx];refine xV (wpAny_setField ho hd (by simp) (xy ⟨x,rfl,xy (hQ _ ⟨_,qQ _ ho (Obj.isFreed_of_fields (Obj.data_mapFields hd _)),(Obj.cls_mapFields ..).trans hc,?_⟩ (qF.update ..))⟩))
  rw[Obj.data_mapFields hd];simp[jT,Src.adr]
theorem Src.next_end{xs:Array j5}{Q:j5->j3->Prop}(hh:A.handled=xF)(hit:sr.it s.heap p k)(hv:sr.val s.heap xs)(hx:xs[k]?=xF)
  (hE:∀h' e,Heap.ExtBut p s.heap h'->(∃o,h'.get? e=xE o/\o.cls=.type "StopIteration")->E (.ref e) {s with heap:=h'}):xJ (jS prog w) A (Builtin.SmallTypes.nextOf (.ref p)) Q E s:=by
 cases sr with
 |l a=>exact wpAny_nextOf_list_end hh (show s.heap.IsListIter p a k from hit) hv hx hE
 |t a=>
  obtain⟨o,ho,hc,hd⟩:=id hit;obtain⟨ol,hol,_,nl,hdl⟩:=hv;have hT:s.TypeIs (.ref p) "tuple_iterator":=⟨o,ho,hc⟩;unfold Builtin.SmallTypes.nextOf;refine xV (xW (name:=Str.ofString "__next__") hT PySem.F.slot_tuple_iterator_next (xK PySem.F.slot_tuple_iterator_next hT PySem.F.entry_tuple_iterator_next ?_ (PySem.F.args_tuple_iterator_next_1 _)));refine xV (m:=field (.ref p) 0) (xY ho hd (x:=.ref a) rfl ?_)
  show xJ _ _ (if(Value.ref a==Value.none)=xG then _ else(field (.ref p) 1 >>=_)) _ _ s
  rw[if_neg (show¬((Value.ref a==Value.none)=xG)from zq)]
  refine xV (m:=field (.ref p) 1) (xY ho hd (x:=.int k 0) rfl (xV (m:=seqItems? (.ref a)) (wpAny_seqItems hol hdl ?_)));simp only[Int.toNat_natCast,hx];refine xV (wpAny_rule (xV (wpAny_setField ho hd (by simp) (xV (m:=newExc (.type "StopIteration") []) ?_))));simp only[newExc,newTuple]
  refine xV (xj (xV (m:=firstArgMember _ _) (wpAny_of_eq (a:=Value.none) (by first|rfl|(simp only[firstArgMember];rfl)) (xj ?_ (by size_fits)))) (by size_fits))
  simp only[raiseNew];refine xV (wpAny_handled ?_)
  first|rw[show A.in1.handled=xF from hh]|rw[hh]
  exact xV (xy (wpAny_throw (hE _ _ (((qF.update ..).extBut.push _).push _) ⟨_,zy _ rfl,rfl⟩)))
theorem Src.iter{xs:Array j5}{Q:j5->j3->Prop}(hv:sr.val s.heap xs)
  (hQ:Q (.ref s.heap.objs.size) {s with heap:=s.heap.push {cls:=.type sr.itn,data:=.fields #[.ref sr.adr,.int 0 0]}}):xJ (jS prog w) A (pyIter (.ref sr.adr)) Q E s:=by
 cases sr with
 |l a=>exact wpAny_pyIter_list hv hQ
 |t a=>exact wpAny_pyIter_tuple hv hQ
end
abbrev En(h:Heap)(e it:jx)(f0:j5)(i:Int)(g old:j5):Prop:=
 h.get? e=xE {cls:=.type "enumerate",dict:=xF,data:=.fields #[f0,.bool xH,.ref it,jT i,g,old],slots:= #[]}
def Gv(i:Int)(g:j5):Prop:=g=.none∨∃t,g=.int i t
section
variable{prog:j1}{w:j6}{A:jv}{E:j5->j3->Prop}{s:j3}
theorem ZHt{e it:jx}{i:Int}{xs:Array j5}{x g:j5}{Q:j5->j3->Prop}(he:En s.heap e it .none i g old)(hg:Gv i g)(hit:sr.it s.heap it k)(hv:sr.val s.heap xs)(hx:xs[k]?=xE x)(hne:e≠it)
  (hQ:∀h' t tk,En h' e it (jT s.heap.objs.size) (i+1) .none x->sr.it h' it (k+1)->h'.get? s.heap.objs.size=xE {cls:=.type "tuple",data:=.seq #[.int i t,x]}->h'.objs.size=s.heap.objs.size+1->
   (∀b o,b≠e->b≠it->s.heap.get? b=xE o->h'.get? b=xE o)->Q (.ref s.heap.objs.size) {s with heap:=h',toks:=tk}):
  xJ (jS prog w) A (Builtin.«enumerate.__next__» ⟨[.ref e],[]⟩) (λfin s'=>∃v,fin=.done (.ret v)/\Q v s') E s:=by
 obtain⟨hp,gg,d,tk,os⟩:=s;refine xV (m:=field (.ref e) 2) (xY he rfl (x:=.ref it) rfl (xV (m:=Builtin.SmallTypes.nextOf (.ref it)) (Src.next_item hit hv hx λh₁ hit₁ hs₁=>?_)));have he₁:En h₁ e it .none i g old:=(hs₁.2 e hne).trans he;have k₁:∀b o,b≠e->b≠it->hp.get? b=xE o->h₁.get? b=xE o:=λb o _ hb q=>hs₁.extBut b o hb q
 have z₁:h₁.objs.size=hp.objs.size:=hs₁.1;refine xV (m:=field (.ref e) 3) (xY he₁ rfl (x:=jT i) rfl ?_);refine xV (m:=field (.ref e) 4) (xY he₁ rfl (x:=g) rfl ?_)
 have rest:∀(t:Tok)(tk':Nat),xJ (jS prog w) A (do
   setField (.ref e) 3 (jT (i+1));setField (.ref e) 4 .none
   let result<-newTuple [.int i t,x]
   if<-Builtin.SmallTypes.ownedTupleIsFree (.ref e)then
    rule "enumerate.__next__.owned-tuple-again"
    let old<-field (.ref e) 5
    setField (.ref e) 5 x
    Builtin.SmallTypes.ownedTupleHandOut (.ref e) result
    PySem.letGo [old] [result]
   ret result) (λfin s'=>∃v,fin=.done (.ret v)/\Q v s') E ⟨h₁,gg,d,tk',os⟩:=by
  intro t tk';refine xV (x9 he₁ (by simp) λh₂ he₂ hs₂=>?_);refine xV (x9 he₂ (by simp) λh₃ he₃ hs₃=>?_)
  replace he₃:En h₃ e it .none (i+1) .none old:=he₃
  have z₃:h₃.objs.size=hp.objs.size:=by rw[hs₃.1];show h₂.objs.size=_;rw[hs₂.1];exact z₁
  have k₃:∀b o,b≠e->b≠it->hp.get? b=xE o->h₃.get? b=xE o:=λb o h1 h2 q=>hs₃.extBut b o h1 (hs₂.extBut b o h1 (k₁ b o h1 h2 q))
  have i₃:sr.it h₃ it (k+1):=(hit₁.at λo q=>hs₂.extBut it o (Ne.symm hne) q).at λo q=>hs₃.extBut it o (Ne.symm hne) q
  refine xV (wpAny_newTuple ?_);generalize hh₄:h₃.push {cls:=.type "tuple",data:=.seq [Value.int i t,x].toArray}=h₄;have he₄:En h₄ e it .none (i+1) .none old:=by rw[<-hh₄];exact zQ _ he₃
  have ht₄:h₄.get? hp.objs.size=xE {cls:=.type "tuple",data:=.seq #[.int i t,x]}:=by rw[<-hh₄,<-z₃];exact zy _ rfl
  have z₄:h₄.objs.size=hp.objs.size+1:=by rw[<-hh₄,qE,z₃]
  have k₄:∀b o,b≠e->b≠it->hp.get? b=xE o->h₄.get? b=xE o:=λb o h1 h2 q=>by rw[<-hh₄];exact zQ _ (k₃ b o h1 h2 q)
  have i₄:sr.it h₄ it (k+1):=i₃.at λo q=>by rw[<-hh₄];exact zQ _ q
  have ez:e<hp.objs.size:=zV he;refine xV (m:=Builtin.SmallTypes.ownedTupleIsFree (.ref e)) ?_;unfold Builtin.SmallTypes.ownedTupleIsFree;refine xV (xY he₄ rfl (x:=.none) rfl (xy ?_));simp only[if_true];refine xV (wpAny_rule (xV (xY he₄ rfl (x:=old) rfl (xV (x9 he₄ (by simp) λh₅ he₅ hs₅=>?_)))))
  replace he₅:En h₅ e it .none (i+1) .none x:=he₅
  refine xV (m:=Builtin.SmallTypes.ownedTupleHandOut _ _) ?_;unfold Builtin.SmallTypes.ownedTupleHandOut;refine xV (x9 he₅ (by simp) λh₆ he₆ hs₆=>?_);refine x9 he₆ (by simp) λh₇ he₇ hs₇=>?_
  refine xV (wpAny_letGo (xy ⟨_,rfl,?_⟩));have up:∀b o,b≠e->h₄.get? b=xE o->h₇.get? b=xE o:=λb o hb q=>hs₇.extBut b o hb (hs₆.extBut b o hb (hs₅.extBut b o hb q))
  show Q (.ref h₃.objs.size) _;rw[z₃];rw[z₃]at he₇;exact hQ h₇ t tk' he₇ (i₄.at λo q=>up it o (Ne.symm hne) q) (up _ _ (jQ ez) ht₄) (by rw[hs₇.1];show h₆.objs.size=_;rw[hs₆.1];show h₅.objs.size=_;rw[hs₅.1];exact z₄) λb o h1 h2 q=>up b o h1 (k₄ b o h1 h2 q)
 rcases hg with rfl|⟨t,rfl⟩
 ·exact xV (m:=mkInt i) (wpAny_mkInt (rest tk (tk+1)))
 ·exact xV (m:=(pure (Value.int i t):Sem j5)) (xy (rest t tk))
theorem ZIq{e it:jx}{i:Int}{xs:Array j5}{x g:j5}{Q:Option j5->j3->Prop}(he:En s.heap e it .none i g old)(hg:Gv i g)(hit:sr.it s.heap it k)(hv:sr.val s.heap xs)(hx:xs[k]?=xE x)(hne:e≠it)
  (hQ:∀h' t tk,En h' e it (jT s.heap.objs.size) (i+1) .none x->sr.it h' it (k+1)->h'.get? s.heap.objs.size=xE {cls:=.type "tuple",data:=.seq #[.int i t,x]}->h'.objs.size=s.heap.objs.size+1->
   (∀b o,b≠e->b≠it->s.heap.get? b=xE o->h'.get? b=xE o)->Q (xE (.ref s.heap.objs.size)) {s with heap:=h',toks:=tk}):
  xJ (jS prog w) A (pyNext (.ref e)) Q E s:=by
 have hT:s.TypeIs (.ref e) "enumerate":=⟨_,he,rfl⟩;unfold pyNext;exact xV (wpAny_attempt (xW (name:=Str.ofString "__next__") hT PySem.F.slot_enumerate_next
  (xK PySem.F.slot_enumerate_next hT PySem.F.entry_enumerate_next (ZHt he hg hit hv hx hne λh' t tk a1 a2 a3 a4 a5=>xy (hQ h' t tk a1 a2 a3 a4 a5)) (PySem.F.args_enumerate_next_1 _))))
theorem ZIy{e it:jx}{i:Int}{xs:Array j5}{g:j5}{Q:Option j5->j3->Prop}(hh:A.handled=xF)(he:En s.heap e it .none i g old)(hit:sr.it s.heap it k)(hv:sr.val s.heap xs)(hx:xs[k]?=xF)
  (hQ:∀h',Heap.ExtBut it s.heap h'->Q xF {s with heap:=h'}):xJ (jS prog w) A (pyNext (.ref e)) Q E s:=by
 have hT:s.TypeIs (.ref e) "enumerate":=⟨_,he,rfl⟩;unfold pyNext;refine xV (wpAny_attempt (xW (name:=Str.ofString "__next__") hT PySem.F.slot_enumerate_next
  (xK PySem.F.slot_enumerate_next hT PySem.F.entry_enumerate_next (xV (m:=field (.ref e) 2) (xY he rfl (x:=.ref it) rfl (xV (m:=Builtin.SmallTypes.nextOf (.ref it)) (Src.next_end hh hit hv hx λh' x he' hx'=>?_)))) (PySem.F.args_enumerate_next_1 _))))
 obtain⟨o,ho,hc⟩:=hx';exact xV (wpAny_isInstance (T:="StopIteration") (b:=xG) ⟨o,ho,hc⟩ isSubtype_stop (xy (hQ _ he')))
theorem ZGx{elts:List jk}{x1}{pos:Pos}{e it a:jx}{i:Int}{g:j5}{Q:Unit->j3->Prop}(he:En s.heap e it (jT a) i g old)
  (hQ:∀h',En h' e it .none i g old->qF e s.heap h'->Q () {s with heap:=h'}):xJ (jS prog w) A (jP (.Tuple elts x1 pos) (.ref e) (.ref a)) Q E s:=by
 unfold jP;refine xV (wpAny_load he ?_);dsimp only;rw[if_pos (by simp)];exact xV (wpAny_rule (x9 he (by simp) λh' he' hs'=>hQ h' he' hs'))
theorem ZAV{e it:jx}{f0:j5}{i:Int}{g:j5}{Q:j5->j3->Prop}(he:En s.heap e it f0 i g old)(h:Q (.ref e) s):xJ (jS prog w) A (pyIter (.ref e)) Q E s:=by have hT:s.TypeIs (.ref e) "enumerate":=⟨_,he,rfl⟩;exact wpAny_pyIter_slot hT PySem.F.slot_enumerate_iter (xK PySem.F.slot_enumerate_iter hT PySem.F.entry_enumerate_iter (xy ⟨_,rfl,"enumerate",_,hT,PySem.F.slot_enumerate_next.lookup,h⟩) (PySem.F.args_enumerate_iter_1 _))
end
abbrev Tp(h:Heap)(T:jx)(xs:List j5):Prop:=h.get? T=xE {cls:=.type "tuple",data:=.seq xs.toArray}
section
variable{prog:j1}{w:j6}{A:jv}{E:j5->j3->Prop}{s:j3}
end
section
variable{prog:j1}{w:j6}{A:jv}{E:j5->j3->Prop}{s:j3}
end
end _D
namespace _D
open PySem PySem.W PyProof.Rows
section
variable{lt:Nat->Nat->Bool}
noncomputable abbrev pt(p:Array Nat)(j:Nat):Nat:=p.getD j 0
end
end _D
namespace _D
open PySem PySem.Spec _L
open PyProof.Rows hiding St
variable{s:j3}
section
variable{X:Cx}{xD:List (jx×Obj)}{σ:St}{H:Hp}{s:j3}{h':Heap}
theorem ZBZ{t':Nat}{fp:List jx}(I:Inv X xD σ H s)(k:∀b o,b∉fp->s.heap.get? b=xE o->h'.get? b=xE o)(hf:∀b∈fp,FpOk X xD H b):Inv X xD σ H {s with heap:=h',toks:=t'}:=by
 have nit:∀b u,H b=xE u->b∉fp:=λb u e z=>by rw[(hf b z).1]at e;cases e
 refine I.step (g':=s.gens) (d':=s.drawn) (ch:=fp) (λb hb=>?_) (λb o _ _ hc e _=>k b o hc e) (λb o _ _ hc e _=>⟨o.slots,k b o hc e⟩) (λ_ _ _ _ n=>n)
  (λb o hc e=>⟨o,k b o hc e⟩) (λ_ _ e=>e) (λ_ _ _ e=>e) (λb ps e=>⟨#[],by rw[e];simp⟩) (λm hm=>?_) (λb u e=>?_) I.bare
 ·obtain⟨f0,f1,f2,f3,f4,f5⟩:=hf b hb;exact⟨f3,f1,f4,f5⟩
 ·obtain⟨o,es,ep,ho,r⟩:=hm;exact⟨o,es,ep,k _ o (λz=>(hf _ z).2.1 rfl) ho,r⟩
 ·refine(I.hok b u e).stay (λc v hc q=>k c v ?_ q) (λ_ q=>q) λ_ _ q=>q
  rcases hc with z|z
  ·rw[z];exact nit b u e
  ·exact nit c _ z
theorem ZFx{t':Nat}{fp:List jx}{p:jx}{xs:List V}{its:List j5}(I:Inv X xD σ H s)(k:∀b o,b∉fp->s.heap.get? b=xE o->h'.get? b=xE o)(hf:∀b∈fp,FpOk X xD H b)(hp:s.heap.objs.size<=p)
  (hz:xs.length<=sizeLine) (r:Vals xs its) (ht:Tp h' p its):Inv X xD σ (upd H p (.tup xs)) {s with heap:=h',toks:=t'}:=by
 obtain⟨g0,g1,g2,g3,g4,g5⟩:=I.Kh (H':=H) hp (I.hok.fresh hp);exact ZDG (ZBZ I k hf) g0 (z0 I.sz hp) g1 g4 g5 ⟨hz,its,r,_,ht,rfl,_,rfl⟩
end
def Src.sq(K:PySem.W.Frag)(H:Hp)(xs:List V):Src->Prop
 |.l a=>SqL K H a xs
 |.t a=>SqT K H a xs
variable{sr:Src}
theorem Src.sq.val{X:Cx}{xD:List (jx×Obj)}{σ:St}{H:Hp}{xs:List V}(I:Inv X xD σ H s)(h:sr.sq X.K H xs):∃its:List j5,Vals xs its/\sr.val s.heap its.toArray/\xs.length<=sizeLine:=by
 cases sr with
 |l a=>obtain⟨its,r,p,hz⟩:=I.list h;exact⟨its,r,p.isList,hz⟩
 |t a=>obtain⟨its,r,p,hz⟩:=I.tuple h;exact⟨its,r,p,hz⟩
theorem Src.sq.inj{X:Cx}{xD:List (jx×Obj)}{σ:St}{H:Hp}{xs ys:List V}(I:Inv X xD σ H s)(h:sr.sq X.K H xs)(h':sr.sq X.K H ys):xs=ys:=by
 cases sr with
 |l a=>exact I.Xf h h'
 |t a=>exact I.Xi h h'
def Ite(K:PySem.W.Frag)(sr:Src)(n:Int):It:=
 ⟨λi H=>∃xs x,sr.sq K H xs/\xs[i]?=xE x,λi H v H'=>∃p x,v=.ref p/\H p=xF/\H'=upd H p (.tup [.int (n+i),x])/\∀xs,sr.sq K H xs->xs[i]?=xE x,λi H=>∃xs,sr.sq K H xs/\xs.length<=i⟩
theorem ZGM{P:j1}{w:j6}{K:PySem.W.Frag}{elts:List jk}{x1}{pos:Pos}(sr:Src)(n:Int)(e it:jx)(hne:e≠it):
  Turn P w K (.Tuple elts x1 pos) (Ite K sr n) [e,it] e (λi h=>∃g old,En h e it .none (n+i) g old/\Gv (n+i) g/\sr.it h it i) where
 mem:=by simp
 obj:=λi h st b hb=>by
  obtain⟨g,old,he,_,o,ho,_,hd⟩:=st;rcases(show b=e∨b=it by simpa using hb)with rfl|rfl
  ·exact⟨_,he,λv z=>by cases z⟩
  ·exact⟨o,ho,λv z=>by rw[hd]at z;cases z⟩
 keep:=λi h h' st k=>by obtain⟨g,old,he,hg,hi⟩:=st;exact⟨g,old,k e (by simp) _ he,hg,hi.at λo q=>k it (by simp) o q⟩
 item:=by
  intro X hP hw hK hc i xD s σ H E I hf st hg;subst hP hw hK;obtain⟨xs,x,hq,hx⟩:=hg;obtain⟨its,rv,hv,hz⟩:=Src.sq.val I hq;obtain⟨u,hu,ru⟩:=rv.get hx;obtain⟨g,old,he,hgv,hi⟩:=st;refine ZIq he hgv hi hv (x:=u) (by simpa using hu) hne λh1 t tk e1 i1 t1 z1 k1=>⟨_,rfl,?_⟩
  refine ZGx (s:={s with heap:=h1,toks:=tk}) e1 λh2 e2 sb=>?_
  have hpe:s.heap.objs.size≠e:=jQ (zV he);have I2:Inv X xD σ (upd H s.heap.objs.size (.tup [.int (n+i),x])) {s with heap:=h2,toks:=tk}:=
   ZFx (fp:=[e,it]) (its:=[.int (n+i) t,u]) I (λb o hb q=>by
    have hb':b≠e/\b≠it:=by simpa using hb
    exact sb.extBut b o hb'.1 (k1 b o hb'.1 hb'.2 q)) hf (zK _) (by show 2<=sizeLine;decide) (.cons ⟨t,rfl⟩ (.cons ru .nil)) (sb.extBut _ _ hpe t1)
  have hfr:H s.heap.objs.size=xF:=I.hok.fresh (zK _);refine⟨.ref s.heap.objs.size,_,I2,rfl,⟨_,x,rfl,hfr,rfl,λys hy=>by rw[Src.sq.inj I hy hq];exact hx⟩,⟨.none,u,?_,.inl rfl,i1.at λo q=>sb.extBut _ _ (Ne.symm hne) q⟩,λb hb=>?_⟩
  ·have ee:n+(i:Int)+1=n+((i+1:Nat):Int):=by lia
   rw[<-ee];exact e2
  ·have hb':b=e∨b=it:=by simpa using hb
   rw[Az (λz=>?_)]
   ·exact(hf b hb).1
   ·rcases hb' with rfl|rfl
    ·exact hpe z.symm
    ·have hlt:=Src.it.lt hi;rw[z]at hlt;exact zE _ hlt
 done:=by
  intro X hP hw hK hc i xD s σ H E I hf st hg;subst hP hw hK;obtain⟨xs,hq,hx⟩:=hg;obtain⟨its,rv,hv,hz⟩:=Src.sq.val I hq;obtain⟨g,old,he,hgv,hi⟩:=st;have hl:=rv.length;refine ZIy (I.ok.hd hc) he hi hv (by simp;lia) λh1 xb=>⟨rfl,?_⟩
  exact ZBZ (t':=s.toks) (fp:=[e,it]) I (λb o hb q=>xb b o (λz=>hb (by simp[z])) q) hf
 self:=λ_ _ _ _ _ st h=>by obtain⟨g,old,he,_⟩:=st;exact ZAV he h
section
variable{X:Cx}{E:XK}
theorem ZEI{prog:j1}{w:j6}{A:jv}{E:j5->j3->Prop}{xs:Array j5}{Q:j5->j3->Prop}(hv:sr.val s.heap xs)
  (h:∀h',En h' (s.heap.objs.size+1) s.heap.objs.size .none 0 .none .none->sr.it h' s.heap.objs.size 0->(∀b o,s.heap.get? b=xE o->h'.get? b=xE o)->Q (.ref (s.heap.objs.size+1)) {s with heap:=h'}):
  xJ (jS prog w) A (call (.type "enumerate") [.ref sr.adr]) Q E s:=by
 have g:Meets (Builtin.«enumerate.__new__» ⟨[.type "enumerate",.ref sr.adr],[]⟩) (λ_ R s=>sr.val s.heap xs/\
   R (.ok (.ret (.ref (s.heap.push {cls:=.type sr.itn,data:=.fields #[.ref sr.adr,.int 0 0]}).objs.size)))
    {s with heap:=(s.heap.push {cls:=.type sr.itn,data:=.fields #[.ref sr.adr,.int 0 0]}).push {cls:=.type "enumerate",data:=.fields #[.none,.bool xH,.ref s.heap.objs.size,jT 0,.none,.none]}}):=
  .of_wp λprog w A R s h=>by
   obtain⟨hp,g,d,tk,os⟩:=s;obtain⟨hl,h⟩:=h;have hsub:=sub_enumerate;have hL:sr.val (Shared.heap ⟨hp,g,d,tk,os⟩) xs:=hl
   wp_walk
   refine wpAny_stack_any λst=>xy ?_
   split
   ·rename_i c _ _ _ _ _
    cases(c==Value.type "enumerate")<;>(wp_walk using Src.iter hL;exact⟨_,rfl,h⟩)
   ·wp_walk using Src.iter hL
    exact⟨_,rfl,h⟩
 refine callType_new PySem.F.called_enumerate (by decide) (PySem.F.typeCall_enumerate_1 _) (PySem.F.newCall_enumerate_1 _) (λobj=>PySem.F.args_object_init_2 obj _) PySem.F.entry_enumerate_new g ⟨hv,?_⟩;have hz:(s.heap.push {cls:=.type sr.itn,data:=.fields #[.ref sr.adr,.int 0 0]}).objs.size=s.heap.objs.size+1:=qE ..;show _/\_;rw[hz];have he:En ((s.heap.push {cls:=.type sr.itn,data:=.fields #[.ref sr.adr,.int 0 0]}).push {cls:=.type "enumerate",data:=.fields #[.none,.bool xH,.ref s.heap.objs.size,jT 0,.none,.none]}) (s.heap.objs.size+1) s.heap.objs.size .none 0 .none .none:=by
  have:=zy (s.heap.push {cls:=.type sr.itn,data:=.fields #[.ref sr.adr,.int 0 0]}) (o:={cls:=.type "enumerate",data:=.fields #[.none,.bool xH,.ref s.heap.objs.size,jT 0,.none,.none]}) rfl;rw[hz]at this;exact this
 exact⟨⟨_,he,rfl⟩,h _ he ⟨_,zQ _ (zy _ rfl),rfl,rfl⟩ λb o x=>zQ _ (zQ _ x)⟩
def ZGX(K:PySem.W.Frag)(ta:TA):TI:=λσ H R=>ta σ H λvs H1=>∃sr xs,vs=[.ref (Src.adr sr)]/\sr.sq K H1 xs/\R (Ite K sr 0) H1
theorem ZEm{elts:List jk}{x1}{tp:Pos}{a:jk}{ta:TA}{p pos:Pos}(hg:Gl X "enumerate")(hm:X.mg "enumerate"=xF)(ha:PA X [a] ta)(hs:xQ [a] X.env=[(xH,eval a X.env)]:=by rfl):PI X (.Tuple elts x1 tp) (.Call (.Name "enumerate" p) [a] [] pos) (ZGX X.K ta):=by
 intro xD s σ H R I h;refine Call_ (Oo I hg hm PyProof.Rows.boot_enumerate (PyProof.Rows.callWith_type1 (thn (ha pos xD s σ H _ I h) λus s1 ⟨vs,H1,I1,r1,q1⟩=>?_) hs rfl));obtain⟨sr,xs,e,hq,q⟩:=q1;subst e;cases r1 with
 |cons r rr=>
  cases rr;cases r;obtain⟨its,rv,hv,hz⟩:=Src.sq.val I1 hq;refine ZEI hv λh' he hi kp=>?_
  refine ZAV he ?_;have I2:Inv X xD σ H1 {s1 with heap:=h'}:=I1.kept (t':=s1.toks) kp;refine⟨s1.heap.objs.size+1,[s1.heap.objs.size+1,s1.heap.objs.size],_,_,H1,rfl,I2,ZGM sr 0 _ _ (Nat.succ_ne_self _),⟨.none,.none,by simpa using he,.inl rfl,hi⟩,λb hb=>?_,q⟩;have hb':b=s1.heap.objs.size+1∨b=s1.heap.objs.size:=by simpa using hb
  have hle:s1.heap.objs.size<=b:=by rcases hb' with rfl|rfl<;>lia
  exact I1.Kh hle (I1.hok.fresh hle)
end
section
variable{X:Cx}{xD:List (jx×Obj)}{σ:St}{H:Hp}{s:j3}
end
def lenOf(G:DH)(d:D):Nat:=match Bs d G with
 |some xs=>xs.length
 |none=>0
def ZBn(G:DH)(d:D):Bool:=(Bs d G).isSome
def Il(n:Int)(d:D)(j:Nat)(G:DH):Option (Option D):=match Bs d G with
 |none=>xF
 |some xs=>xE (xs[j]?.map λx=>.tup [.int (n+j),x])
def Od(ds:List D)(G:DH):R ItD:=match ds with
 |[d]=>if ZBn G d=xG then .ok (.fn (lenOf G d) (Il 0 d)) G else .bad
 |_=>.bad
section
variable{X:Cx}{E:XK}
theorem ZEt{a:Wd}{G:DH}{d:D}{v:V}{xs:List D}(s:Sim a G)(r:Rep a d v)(h:Bs d G=xE xs):
  ∃sr:Src,v=.ref sr.adr/\(∃vs,sr.sq a.K a.H vs)/\∀b:Wd,Ext a b->∀G',Sim b G'->∀ys,Bs d G'=xE ys->∃us,sr.sq b.K b.H us/\Reps b ys us:=by
 cases d with
 |tup ds=>
  obtain⟨p,vs,rfl,hq,rv⟩:=r;refine⟨.t p,rfl,⟨vs,hq⟩,λb x G' s' ys hy=>?_⟩
  cases(show xE ds=xE ys from hy)
  exact⟨vs,x.sqT hq,rv.mono x⟩
 |fl ds=>
  obtain⟨p,vs,rfl,hq,rv⟩:=r;refine⟨.l p,rfl,⟨vs,hq.sq⟩,λb x G' s' ys hy=>?_⟩
  cases(show xE ds=xE ys from hy)
  exact⟨vs,(x.fzL hq).sq,rv.mono x⟩
 | ref i=>
  obtain⟨hi,rfl⟩:=r;have hx:∃zs,G[i]?=xE (.lst zs):=by
   unfold Bs at h;dsimp only at h;split at h
   ·rename_i zs hz;exact⟨zs,hz⟩
   ·cases h
  obtain⟨zs,hz⟩:=hx;obtain⟨vs,e1,_⟩:=s.lst hz;refine⟨.l (a.m i),rfl,⟨vs,.of e1⟩,λb x G' s' ys hy=>?_⟩;unfold Bs at hy;dsimp only at hy;split at hy
  ·rename_i zs' hz';cases hy;obtain⟨us,e2,r2⟩:=s'.lst hz';rw[x.m i hi]at e2;exact⟨us,.of e2,r2⟩
  ·cases hy
 |_=>cases h
theorem ZD0{a:Wd}{G:DH}{d:D}{v:V}(hk:a.K=X.K)(rd:∀b:Wd,Ext a b->∀G',Sim b G'->∀ys,Bs d G'=xE ys->∃us,sr.sq b.K b.H us/\Reps b ys us)(n:Nat):RepI a (.fn n (Il 0 d)) (Ite X.K sr 0):=by
 intro b x G' s' i;have kb:b.K=X.K:=x.k.trans hk;constructor
 ·intro e he;unfold Il at he;split at he
  ·cases he
  ·rename_i ys hy;obtain⟨us,hq,ru⟩:=rd b x G' s' ys hy;rw[kb]at hq;cases hyi:ys[i]? with
   |none=>rw[hyi]at he;cases he
   |some y=>
    rw[hyi]at he;have he':D.tup [.int (0+i),y]=e:=by simpa using he
    subst he';obtain⟨u,hu,rx⟩:=ru.get hyi;refine⟨⟨us,u,hq,hu⟩,?_⟩;rintro w H' ⟨p,u',rfl,hp,rfl,hu'⟩;refine⟨b.put p (.tup [.int (0+i),u']),rfl,Ext.put hp,s'.put hp,p,_,rfl,.of Fw,?_⟩;have e1:=hu' us hq;rw[hu]at e1;cases e1;exact⟨_,_,rfl,rfl,Reps.cons (rx.mono (Ext.put hp)) rfl⟩
 ·intro he;unfold Il at he;split at he
  ·cases he
  ·rename_i ys hy;obtain⟨us,hq,ru⟩:=rd b x G' s' ys hy;rw[kb]at hq;cases hyi:ys[i]? with
   |none=>exact⟨us,hq,by rw[<-ru.length];exact qO.mp hyi⟩
   |some y=>rw[hyi]at he;cases he
theorem ZJS{elts:List jk}{x1}{tp:Pos}{e:jk}{ta:DA}{p pos:Pos}(hg:Gl X "enumerate")(hm:X.mg "enumerate"=xF)(ha:QA X E [e] ta)(hs:xQ [e] X.env=[(xH,eval e X.env)]:=by rfl):
  QI X E (.Tuple elts x1 tp) (.Call (.Name "enumerate" p) [e] [] pos) (Ef Od ta):=(ZEm hg hm ha hs).mono λσ H Q h=>by
 obtain⟨a,S,G,hk,rfl,s,r,h⟩:=h;refine⟨a,S,G,hk,rfl,s,r,(ZC6 h).imp ?_⟩;rintro vs _ ⟨b,ds,G1,rfl,x,s1,q,-,h1⟩;unfold Od at h1;split at h1
 ·rename_i d;split at h1
  ·rename_i hok;obtain⟨v,r,e1,q1,q2⟩:=q
   cases(show r=[]from q2)
   subst e1
   obtain⟨xs,hx⟩:=Option.isSome_iff_exists.mp (show(Bs d G1).isSome=xG from hok)
   obtain⟨sr,rfl,⟨us,hq⟩,rd⟩:=ZEt s1 q1 hx;have kb:b.K=X.K:=x.k.trans hk;exact⟨sr,us,rfl,by rw[<-kb];exact hq,h1 b _ (Ext.refl b) s1 (ZD0 (G:=G1) (v:=.non) kb rd _)⟩
  ·exact h1.elim
 ·exact h1.elim
end
noncomputable def Jw:DS:=λ_ _=>.bad
section
variable{X:Cx}{E:XK}
theorem La{st:j4}:QS X E st Jw:=λxD s σ H W I h=>by obtain⟨a,S,G,hk,rfl,sm,r,h⟩:=h;exact h.elim
end
def Ln(ds:List D)(G:DH):R D:=match ds with
 | [d]=>match Bs d G with
  |some xs=>match Ed xs with
   |some (n::ns)=>.ok (.int (ns.foldl min n)) G
   |_=>.bad
  |none=>.bad
 |_=>.bad
def Ku(ds:List D)(G:DH):R D:=match ds with
 | [d]=>match Bs d G with
  |some xs=>match Ed xs with
   |some (n::ns)=>.ok (.int (ns.foldl max n)) G
   |_=>.bad
  |none=>.bad
 |_=>.bad
theorem ZC9:∀(ns:List Int)(n:Int),ns.foldl min n<=n/\(∀x∈ns,ns.foldl min n<=x)/\(ns.foldl min n=n∨ns.foldl min n∈ns)
 |[],n=>⟨jj _,λx h=>(by cases h),.inl rfl⟩
 | m::ns,n=>by
  obtain⟨h1,h2,h3⟩:=ZC9 ns (min n m);rw[q9];refine⟨by lia,λx hx=>?_,?_⟩
  ·rcases zz.mp hx with rfl|hx
   ·lia
   ·exact h2 x hx
  ·rcases h3 with h|h
   ·by_cases e:n<=m
    ·exact .inl (by rw[h];lia)
    ·exact .inr (by rw[h];rw[show min n m=m by lia];exact zk)
   ·exact .inr (zX _ h)
theorem ZBg:∀(ns:List Int)(n:Int),n<=ns.foldl max n/\(∀x∈ns,x<=ns.foldl max n)/\(ns.foldl max n=n∨ns.foldl max n∈ns)
 |[],n=>⟨jj _,λx h=>(by cases h),.inl rfl⟩
 | m::ns,n=>by
  obtain⟨h1,h2,h3⟩:=ZBg ns (max n m);rw[q9];refine⟨by lia,λx hx=>?_,?_⟩
  ·rcases zz.mp hx with rfl|hx
   ·lia
   ·exact h2 x hx
  ·rcases h3 with h|h
   ·by_cases e:m<=n
    ·exact .inl (by rw[h];lia)
    ·exact .inr (by rw[h];rw[show max n m=m by lia];exact zk)
   ·exact .inr (zX _ h)
section
variable{X:Cx}{E:XK}
theorem intAt{ns:List Int}{its:List j5}{i:Nat}{w:j5}(hv:Vals (ns.map V.int) its)(hw:its.toArray[i]?=xE w):i<ns.length/\∃t,w=.int (ns.getD i 0) t:=by
 have hw':its[i]?=xE w:=by simpa using hw
 have hl:i<(ns.map V.int).length:=by rw[hv.length];exact(zv.mp hw').1
 have hl':i<ns.length:=by simpa using hl
 obtain⟨u,hu,ru⟩:=hv.get (i:=i) (x:=V.int ns[i]) (by simp[hl']);rw[hw']at hu;cases hu;obtain⟨t,rfl⟩:=ru;exact⟨hl',t,by simp[hl']⟩
theorem ZHH(hc:X.calm=xG):CallR X (.builtin "min") (lRn X.K E Ln):=by
 intro xD s σ H vs us Q I rs h;obtain⟨a,G,ds,hk,rfl,sm,r,q⟩:=h;unfold Ln at q;split at q
 ·rename_i d;obtain⟨v,rfl,rv⟩:=reps1 r;split at q
  ·rename_i xs hs;split at q
   ·rename_i n ns hn;cases U8 hn;obtain⟨p,ws,rfl,h1,r1⟩:=Hc sm rv hs;cases Pz r1;rw[hk]at h1;obtain⟨u,rfl,ru⟩:=vals1 rs;cases ru;refine call_min_walk (Nb I hc h1 λit fp wr its St s₂ hv W st hfp fin=>⟨it,fp,wr,its.toArray.size,_,St,_,rfl,W,st,hfp,?_,CmpOf.ints_lt (λi=>(n::ns).getD i 0) (λi w hw=>(intAt hv hw).2),λw h' tk hw kk=>?_⟩)
    ·rw[zW,<-hv.length];simp
    ·obtain⟨hl,t,rfl⟩:=intAt hv hw;obtain⟨b1,b2⟩:=argBest_lt (λi=>(n::ns).getD i 0) (its.toArray.size-1);refine⟨.int (ns.foldl min n),a.H,fin h' tk kk,⟨t,?_⟩,q a _ (Ext.refl a) sm rfl⟩;have hsz:its.toArray.size=ns.length+1:=by rw[zW,<-hv.length];simp
     obtain⟨m1,m2,m3⟩:=ZC9 ns n;have hle:∀x∈n::ns,ns.foldl min n<=x:=λx hx=>by
      rcases zz.mp hx with rfl|hx
      ·exact m1
      ·exact m2 x hx
     have hin:ns.foldl min n∈n::ns:=by
      rcases m3 with h|h
      ·rw[h];exact zk
      ·exact zX _ h
     obtain⟨j,hj,ej⟩:=qP hin;have c1:=b2 j (by simp at hj;lia);have c2:=hle _ (qW hl);have e1:(n::ns).getD j 0=ns.foldl min n:=by rw[zB,zJ hj];exact ej
     have e2:(n::ns).getD (argBest (λi j=>decide ((λi=>(n::ns).getD i 0) i<(λi=>(n::ns).getD i 0) j)) (its.toArray.size-1)) 0=(n::ns)[argBest (λi j=>decide ((λi=>(n::ns).getD i 0) i<(λi=>(n::ns).getD i 0) j)) (its.toArray.size-1)]:=by rw[zB,zJ hl];rfl
     have c1':=c1;rw[e1]at c1';rw[<-e2]at c2
     congr 1
     exact Int.le_antisymm c1' c2
   ·exact q.elim
  ·exact q.elim
 ·exact q.elim
theorem ZDv(hc:X.calm=xG):CallR X (.builtin "max") (lRn X.K E Ku):=by
 intro xD s σ H vs us Q I rs h;obtain⟨a,G,ds,hk,rfl,sm,r,q⟩:=h;unfold Ku at q;split at q
 ·rename_i d;obtain⟨v,rfl,rv⟩:=reps1 r;split at q
  ·rename_i xs hs;split at q
   ·rename_i n ns hn;cases U8 hn;obtain⟨p,ws,rfl,h1,r1⟩:=Hc sm rv hs;cases Pz r1;rw[hk]at h1;obtain⟨u,rfl,ru⟩:=vals1 rs;cases ru;refine call_max_walk (Nb I hc h1 λit fp wr its St s₂ hv W st hfp fin=>⟨it,fp,wr,its.toArray.size,_,St,_,rfl,W,st,hfp,?_,CmpOf.ints_gt (λi=>(n::ns).getD i 0) (λi w hw=>(intAt hv hw).2),λw h' tk hw kk=>?_⟩)
    ·rw[zW,<-hv.length];simp
    ·obtain⟨hl,t,rfl⟩:=intAt hv hw;obtain⟨b1,b2⟩:=argBest_gt (λi=>(n::ns).getD i 0) (its.toArray.size-1);refine⟨.int (ns.foldl max n),a.H,fin h' tk kk,⟨t,?_⟩,q a _ (Ext.refl a) sm rfl⟩;have hsz:its.toArray.size=ns.length+1:=by rw[zW,<-hv.length];simp
     obtain⟨m1,m2,m3⟩:=ZBg ns n;have hle:∀x∈n::ns,x<=ns.foldl max n:=λx hx=>by
      rcases zz.mp hx with rfl|hx
      ·exact m1
      ·exact m2 x hx
     have hin:ns.foldl max n∈n::ns:=by
      rcases m3 with h|h
      ·rw[h];exact zk
      ·exact zX _ h
     obtain⟨j,hj,ej⟩:=qP hin;have c1:=b2 j (by simp at hj;lia);have c2:=hle _ (qW hl);have e1:(n::ns).getD j 0=ns.foldl max n:=by rw[zB,zJ hj];exact ej
     have e2:(n::ns).getD (argBest (λi j=>decide ((λi=>(n::ns).getD i 0) i>(λi=>(n::ns).getD i 0) j)) (its.toArray.size-1)) 0=(n::ns)[argBest (λi j=>decide ((λi=>(n::ns).getD i 0) i>(λi=>(n::ns).getD i 0) j)) (its.toArray.size-1)]:=by rw[zB,zJ hl];rfl
     have c1':=c1;rw[e1]at c1';rw[<-e2]at c2
     congr 1
     exact Int.le_antisymm c2 c1'
   ·exact q.elim
  ·exact q.elim
 ·exact q.elim
end
end _D
namespace _D
open PySem PySem.W PyProof.Rows
end _D
namespace _D
open PySem PySem.Spec _L
open PyProof.Rows hiding St
variable{g:DG}{xs:List D}{d:D}
section
variable{prog:j1}{w:j6}{A:jv}{s:j3}
end
section
variable{X:Cx}{E:XK}{xD:List (jx×Obj)}{σ:St}{s:j3}{H:Hp}{h':Heap}
end
section
variable{prog:j1}{w:j6}{A:jv}{E:j5->j3->Prop}{s:j3}
end
section
variable{X:Cx}{E:XK}{xD:List (jx×Obj)}{σ:St}{s:j3}{H:Hp}
end
section
variable{X:Cx}{E:XK}
end
section
variable{S:DSt}{G:DH}
noncomputable def Ha(xs:List D):List D:=xs.zipIdx.map λq=>.tup [.int q.2,q.1]
theorem ZBs{f:Nat->DH->Option (Option D)}{b:DS}(h:∀j G,f j G=xE xs[j]?):∀(n j:Nat),j+n=xs.length->∀S G,Dg f g b n j S G=Bw g b (xs.drop j) S G
 |0,j,e,S,G=>by
  unfold Dg;rw[h,zN (by lia),qX (by lia)]
  rfl
 |n+1,j,e,S,G=>by
  have hj:j<xs.length:=by lia
  unfold Dg;rw[h,zJ hj,zM hj,Dj];have:Dg f g b n (j+1)=Bw g b (xs.drop (j+1)):=by funext S G;exact ZBs h n (j+1) (by lia) S G
  rw[this]
theorem ZFs{f:Nat->DH->Option (Option D)}{b:DS}{n:Nat}(h:∀j G,f j G=xE xs[j]?)(hn:n=xs.length):Dg f g b n 0 S G=Bw g b xs S G:=by rw[ZBs h n 0 (by lia)];rfl
theorem ZHg(j:Nat)(G:DH):Il 0 (.tup xs) j G=xE (Ha xs)[j]? :=by
 unfold Il Ha;simp only[Bs,zF,List.getElem?_zipIdx]
 cases xs[j]?<;>simp
theorem Xc:(Ha xs).length=xs.length:=by simp[Ha]
@[simp]theorem ZKq:Od [.tup xs] G=.ok (.fn xs.length (Il 0 (.tup xs))) G:=by simp[Od,ZBn,Bs,lenOf]
@[simp]theorem ZLI{b:DS}:Dg (Il 0 (.tup xs)) g b xs.length 0 S G=Bw g b (Ha xs) S G:=ZFs ZHg Xc.symm
theorem ZH3{n:Int}{ns:List Int}(h:Bs d G=xE ((n::ns).map D.int)):Ln [d] G=.ok (.int (ns.foldl min n)) G:=by simp only[Ln,h,ZAM]
theorem ZHf{n:Int}{ns:List Int}(h:Bs d G=xE ((n::ns).map D.int)):Ku [d] G=.ok (.int (ns.foldl max n)) G:=by simp only[Ku,h,ZAM]
end
def Bts(i:Int):Prop:=i.natAbs.log2<33554432
def MulB(i j:Int):Prop:=CMul i j∨(Bts i/\Bts j)
noncomputable instance (i:Int):Decidable (Bts i):=by unfold Bts;infer_instance
noncomputable instance (i j:Int):Decidable (MulB i j):=by unfold MulB;infer_instance
theorem MulB.ok{i j:Int}(h:MulB i j):IntMulOk i j:=by
 rcases h with h|⟨h1,h2⟩
 ·exact h.ok
 ·have b:∀k:Int,Bts k->Builtin.Int.intBits k<=33554432:=λk hk=>by
   unfold Builtin.Int.intBits;split
   ·exact Nat.zero_le _
   ·exact hk
  have c1:=b i h1;have c2:=b j h2;have h:Builtin.Int.intTooBig (Builtin.Int.intBits i+Builtin.Int.intBits j)=xH:=by unfold Builtin.Int.intTooBig bitsLine;exact decide_eq_false (by lia)
  unfold IntMulOk;rw[h];simp
def Cv:D->D->DH->R D
 |.int i,.int j,G=>if MulB i j then .ok (.int (i*j)) G else .bad
 |_,_,_=>.bad
section
variable{X:Cx}{E:XK}
theorem ZJK:OpR X (jB .Mult) (rI MulB λi j=>.int (i*j)):=opI λ_ _ _ _ _ _ _ hc q=>mul_int q hc.ok
theorem Ex:OpR X (jB .Mult) (lR2 X.K E Cv):=Em ZJK λa G d e x y Q hk s rd re q=>by
 cases d<;>cases e<;>first
  |exact q.elim
  | (
    rename_i i j;unfold Cv at q;dsimp only at q;split at q
    ·exact⟨_,_,rd,re,by assumption,q a _ (Ext.refl a) s rfl⟩
    ·exact q.elim)
end
section
variable{i j:Int}{G:DH}
theorem Kp(h1: -(2^64)<i)(h2:i<2^64):Cv (.int i) (.int j) G=.ok (.int (i*j)) G:=if_pos (.inl (.inl ⟨h1,h2⟩))
theorem Qx(h1: -(2^64)<j)(h2:j<2^64):Cv (.int i) (.int j) G=.ok (.int (i*j)) G:=if_pos (.inl (.inr ⟨h1,h2⟩))
@[simp]theorem ZKu{n:Nat}(h:n<18446744073709551616):Cv (.int (no_index (OfNat.ofNat n))) (.int j) G=.ok (.int (OfNat.ofNat n*j)) G:=
 Kp (by have:(0:Int)<=(OfNat.ofNat n:Int):=Int.natCast_nonneg n;lia) (by have:(OfNat.ofNat n:Int)<18446744073709551616:=Int.ofNat_lt.mpr h;lia)
end
theorem Zv:∀{ns:List Int},PySem.W.WData.weightAll (ns.map PySem.W.WData.int)<=2^20->∀n∈ns,n.natAbs.log2<1048576
 |[],_,n,h=>nomatch h
 | m::ns,hw,n,h=>by
  rw[zj,PySem.W.WData.weightAll,PySem.W.WData.weight]at hw;rcases zz.mp h with rfl|h
  ·split at hw
   ·rename_i hz;have:n=0:=by simpa using hz
    rw[this];decide
   ·lia
  ·exact Zv (by lia) n h
theorem ZEl{l:PySem.W.OpenLaw}{n k:Nat}{q:j1}{loose:List Str}{XP:(Str->Option j5)->Heap->Prop}{YP:j6->Heap->Prop}{d:DefRec}{K:j6->PySem.W.Frag}{CX:j6->CXT}{sp:j6->Sp}{x:Str}
  (hn:l.most=xE n) (hn2:n<=sizeLine) (hdf:d.params.defaults=[]) (hr:Room k callerA) (hY:∀(w:j6)(h:Heap),YP w h->(K w).In h)
  (F:∀(w:j6)(mg:Str->Option j5)(fa:jx)(h:Heap),(K w).In h->h.Ns jR mg->mg d.name=xE (.ref fa)->
   ∃fd:jy,(∀(s:j3)(u:j5),BindsTo s fd ⟨[u],[]⟩ [(x,u)])/\∀base:Heap,(K w).In base->base.Ns jR mg->FnOk l.prog w (K w) mg base (CX w) k fa fd [x] (sp w))
  (hsp:∀(w:j6)(H:Hp)(a:jx)(ns:List Int),ns.length<=n->(∀m∈ns,m.natAbs.log2<1048576)->Only H->SqL (K w) H a (ns.map V.int)->sp w [.ref a] H (λv _=>v=.bl xG) λ_ _ _=>False)
  (hCX:∀(w:j6)(H:Hp)(s:j3)(e:j5)(s':j3),CX w [] H s (λ_ _ _=>False) e s'->False):PySem.W.WalkO q loose XP YP l.row.toRowW d [] (λf vs=>PySem.call f vs):=by
 intro w s₀ s₁ mg mb G Y fa o pm cd doc dV kV ho hd hcd hD hmg hg args vals as hpre hlay hrd hwl hlo;obtain rfl:dV=.none:=PySem.W.Dflts.none hD hdf;obtain rfl:kV=.none:=PySem.W.Dflts.noKw hD;obtain⟨a,vs,ns,rfl,rfl,hobj,hints,hlen⟩:=Att.ZFX hn hpre hwl;have KX:=hY w _ Y;obtain⟨fd,hb,hF⟩:=F w mg fa _ KX G.T.g hmg;have hw:PySem.W.WData.weightAll (ns.map PySem.W.WData.int)<=2^20:=by
  have h1:PySem.W.WData.layable (.list (ns.map PySem.W.WData.int))=xG:=by have:=hlay;simpa[PySem.W.WData.layableAll]using this
  have h2:=of_decide_eq_true (qY.mp h1).2;simpa only[PySem.W.WData.weight]using h2
 refine PySem.W.enter_call (jE (ZH5 KX G.T.g G.T.b G.T.builtins G.T.nolimit hg hobj hints (z0 hlen hn2) hr hF hb (λH hO hS=>hsp w H a ns hlen (Zv hw) hO hS) λH e s'=>hCX w H s₁ e s') λr s' hq=>?_);obtain⟨rfl,h2,h3,h4⟩:=hq
 exact⟨.inl ⟨.bool xG,.bool xG,[],rfl,λ_=>rfl,.bool xG,Att.ZH6 l _,λ_=>⟨List.Pairwise.nil,λ_ hm=>(nomatch hm)⟩⟩,h2,h3,h4⟩
section
variable{X:Cx}{E:XK}
end
theorem RepF.uncons{a:Wd}{g:Str}{fs:List (Str×D)}{us:List (Str×V)}(h:RepF a ((g,d)::fs) us):∃v us',us=(g,v)::us'/\Rep a d v/\RepF a fs us':=by
 obtain⟨h1,h2⟩:=h;cases us with
 |nil=>simp at h1
 |cons q us=>
  obtain⟨g',y⟩:=q;simp only[zj,List.cons.injEq]at h1;obtain⟨rfl,h1⟩:=h1;obtain⟨v,r,e1,r1,r2⟩:=h2;simp only[zj,List.cons.injEq]at e1;obtain⟨rfl,rfl⟩:=e1;exact⟨y,us,rfl,r1,h1,r2⟩
theorem lkc{α:Type}{f g:Str}{x:α}{fs:List (Str×α)}:jX f ((g,x)::fs)=if(f==g)=xG then xE x else fs.lookup f:=by
 show(match f==g with
  |true=>xE x
  |false=>jX f fs)=_
 cases f==g<;>rfl
theorem RepF.look{a:Wd}{f:Str}:∀{fs:List (Str×D)}{us:List (Str×V)},RepF a fs us->fs.lookup f=xE d->∃u,us.lookup f=xE u/\Rep a d u
 |[],us,h,e=>by simp at e
 |(g,x)::fs,us,h,e=>by
  obtain⟨v,us',rfl,hv,hr⟩:=h.uncons;rw[lkc]at e⊢;by_cases q:(f==g)=xG
  ·rw[if_pos q]at e⊢;cases e;exact⟨v,rfl,hv⟩
  ·rw[if_neg q]at e⊢;exact RepF.look hr e
section
variable{X:Cx}{E:XK}{c f m:Str}{C:jx}{e o:jk}{es:List jk}{t ta tv:DE}{tr:DA}{pos apos pos':Pos}
end
theorem Sg:∀{ns:List Int}{us:List j5},Vals (ns.map V.int) us->us.length=ns.length/\∀(j:Nat)(u:j5),us[j]?=xE u->∃t,∃h:j<ns.length,u=.int ns[j] t
 |[],us,h=>by cases h;exact⟨rfl,λj u e=>by simp at e⟩
 | n::ns,us,h=>by
  cases h with
  | cons r rr=>
   obtain⟨h1,h2⟩:=Sg rr;obtain⟨t,rfl⟩:=r;refine⟨by simp[h1],λj u e=>?_⟩;cases j with
   |zero=>simp at e;exact⟨t,by simp,by simpa using e.symm⟩
   |succ j=>
    obtain⟨t',hj,e'⟩:=h2 j u (by simpa using e);exact⟨t',by simpa using hj,by simpa using e'⟩
section
variable{X:Cx}{E:XK}
end
section
variable{prog:j1}{w:j6}{A:jv}{E:j5->j3->Prop}{s:j3}
end
section
variable{X:Cx}{E:XK}
end
end _D
namespace _D
open PySem PySem.Spec _L
section
variable{S:DSt}{G:DH}{c f m:Str}{t to tv:DE}{ta:DA}{F:List D->DH->R D}{i:Nat}{fs:List (Str×D)}{v d:D}
end
end _D
namespace _D
open PySem PySem.Spec _L
open PyProof.Rows hiding St
section
variable{X:Cx}{E:XK}
end
section
variable{i j:Int}{G:DH}
end
def comp0(N:List Str)(names:List (Str×j0))(nt:Nat):Bool:=
 names.all (λy=>(!Fl y.2||isK Fl (names.lookup y.1)) && !Hy y.2 && !Hg y.2)&&decide N.Nodup&&decide (N.length=nt)
theorem ZEg{X:Cx}{N:List Str}{scope:j2}{nt:Nat}(hk:scope.kind=.function:=by rfl)(h:comp0 N scope.names nt=xG:=by decide +kernel):CompSc X N scope nt []:=by
 unfold comp0 at h;rw[zY,zY]at h;obtain⟨⟨h1,h2⟩,h3⟩:=h;rw[zS]at h1;have key:=λ(y:Str×j0)(hy:y∈scope.names)=>(by have:=h1 y hy;rw[zY,zY]at this;exact this:((!Fl y.2||isK Fl (scope.names.lookup y.1))=xG/\(!Hy y.2)=xG)/\(!Hg y.2)=xG)
 refine⟨hk,λy hy hl=>?_,λy hy hl=>?_,λy hy hl=>?_,of_decide_eq_true h2,by rw[of_decide_eq_true h3];rfl,λk j hj=>?_⟩
 ·have:=(key y hy).1.1;rw[hl]at this;exact Ot (p:=Fl) (λ_ h=>ZAp h) (by have t:(xH||isK Fl (scope.names.lookup y.1))=xG:=this;simpa using t)
 ·have:=(key y hy).1.2;rw[hl]at this;exact absurd this (by decide)
 ·have:=(key y hy).2;rw[hl]at this;exact absurd this (by decide)
 ·cases hj
section
variable{X:Cx}{E:XK}{e st:jk}{te:TE}{ts:TO}{p2 pos:Pos}
end
section
variable{S:DSt}{G:DH}
end
section
variable{X:Cx}{E:XK}
end
section
variable{S:DSt}{G:DH}
end
section
variable{X:Cx}{xD:List (jx×Obj)}{σ:St}{H:Hp}{s:j3}{N:List Str}{scope:j2}{caps:List Nat}{x qual:Str}{f:jx}{cd:j5}{A:jv}
end
section
variable{X:Cx}{xD:List (jx×Obj)}{σ:St}{s:j3}{scope:j2}{a:Wd}
end
section
variable{prog:j1}{w:j6}{A:jv}{E:j5->j3->Prop}{s:j3}
end
section
variable{X:Cx}{xD:List (jx×Obj)}{σ:St}{H:Hp}{s:j3}{h':Heap}{m:Str->Option j5}
end
section
variable{X:Cx}{xD:List (jx×Obj)}{σ:St}{N:List Str}{scope:j2}{caps:List Nat}{x:Str}{f:jx}{A:jv}{a:Wd}{S:DSt}{body:jk}{te:DE}{params:Arguments}{pm ctv:j5}{c':jx}{ob oc:Obj}{vs0:Array j5}{t0:Tok}{E:XK}
 {Dd kS:jx} {e1:Nat} {m:Str->Option j5} {h₀:Heap} {Q:VK}
end
end _D
namespace _D
open PySem PySem.Spec _L
open PyProof.Rows hiding St
open PySem.W (KatKeys KatFin katRev KatBack)
section
variable{prog:j1}{w:j6}{A:jv}{E:j5->j3->Prop}{s:j3}{h₀:Heap}{L a kS:jx}{m:Str->Option j5}{P:PySem.Fin->j3->Prop}
end
end _D
namespace _D
open PySem PySem.Spec _L
open PyProof.Rows hiding St
section
variable{X:Cx}{xD:List (jx×Obj)}{σ:St}{N:List Str}{scope:j2}{caps:List Nat}{x:Str}{f:jx}{A:jv}{a:Wd}{S:DSt}{body:jk}{te:DE}{params:Arguments}{pm ctv:j5}{c':jx}{ob oc:Obj}{vs0:Array j5}{t0:Tok}
 {Dd kS:jx} {e1:Nat} {m:Str->Option j5} {h₀:Heap} {Q:VK}
end
section
variable{X:Cx}{xD:List (jx×Obj)}{σ:St}{N:List Str}{scope:j2}{caps:List Nat}{x:Str}{f:jx}{A:jv}{a:Wd}{S:DSt}{body:jk}{te:DE}{params:Arguments}{pm ctv:j5}{c':jx}{ob oc:Obj}{vs0:Array j5}{t0:Tok}{Q:VK}
end
section
variable{X:Cx}{N:List Str}{scope:j2}{caps:List Nat}{x:Str}{body:jk}{te:DE}{params:Arguments}{e:jk}{tn:DA}{p p' pos pos' lp kp kp' cp:Pos}{C m:Str}{cj:Nat}
end
end _D
namespace _D
open PySem PySem.W _L
variable{K:xB}{C:jx}{m x q:Str}{st:j4}
noncomputable def Jy:List Obj->Nat->xB
 |[],_=>[]
 |o::r,n=>match o.cls,o.data with
  |.none,.fields _=>Jy r (n+1)
  |_,.freed=>Jy r (n+1)
  |_,_=>(n,o)::Jy r (n+1)
def Nu(h:Heap):xB:=Jy h.objs.toList 0
theorem ZAl{a:jx}{o:Obj}:∀{l:List Obj}{n:Nat},(Jy l n).lookup a=xE o->n<=a/\l[a-n]?=xE o/\∀x y z,o≠⟨x,y,.freed,z⟩
 |[],n,h=>by cases h
 | p::r,n,h=>by
  have next:(Jy r (n+1)).lookup a=xE o->n<=a/\(p::r)[a-n]?=xE o/\∀x y z,o≠⟨x,y,.freed,z⟩:=λh=>by obtain⟨h1,h2,h3⟩:=ZAl h;obtain⟨k,rfl⟩:=Nat.exists_eq_add_of_le h1;rw[Nat.add_sub_cancel_left]at h2;refine⟨z0 (qC n) h1,?_,h3⟩;rw[show n+1+k-n=k+1 by rw[Nat.add_assoc,Nat.add_sub_cancel_left,Nat.add_comm],List.getElem?_cons_succ];exact h2
  unfold Jy at h;split at h
  ·exact next h
  ·exact next h
  ·rename_i hz hf;rw[qk]at h;split at h
   ·rename_i e;have e':a=n:=by simpa using e
    subst e';cases h;refine⟨zK _,by simp,λx y z q=>?_⟩;subst q;exact hz rfl
   ·exact next h
theorem ZGj(h:Heap):(Nu h).In h:=λa o e=>by
 obtain⟨_,h2,h3⟩:=ZAl e;have h4:h.objs[a]?=xE o:=by simpa using h2
 unfold Heap.get?;rw[h4];split
 ·rename_i q;cases q;exact absurd rfl (h3 _ _ _)
 ·rfl
noncomputable def Ih(p:j1)(N:Nat)(w:j6):Heap:=match openEnds xZ p w N with
 |some s=>s.heap
 |none=>default
def Stays(p:j1)(N:Nat)(w:j6)(h:Heap):Prop:=∀b o,(Ih p N w).get? b=xE o->h.get? b=xE o
theorem Stays.in{p:j1}{N:Nat}{w:j6}{h:Heap}(x:Stays p N w h):(Nu (Ih p N w)).In h:=λa o e=>x a o (ZGj _ a o e)
def Rm(p:j1)(N:Nat):Hook:=
 ⟨Heap,λs=>s.heap,Ih p N,Stays p N,λw s e b o q=>by rw[show s.heap=Ih p N w from e];exact q,λw h h' x k b o q=>k b o (x b o q)⟩
section
variable{p q:j1}{loose:List Str}{Xt:j3->Bool}{N:Nat}{β:Type}{see:Heap->β}{val:β}
theorem ZJb(E:∀w,(openEnds xZ p w N).map (λs=>(openSeen q loose (jG p.main.body) Xt xG s,see s.heap))=xE (openGood q loose,val)):
  LeftO p q loose Xt (Rm p N).obs (Rm p N).val N:=λw=>by
 obtain⟨s,h1,h2⟩:=z8.mp (E w);show Option.map _ _=xE (openGood q loose,Ih p N w);unfold Ih;rw[h1];show xE (openSeen q loose (jG p.main.body) Xt xG s,s.heap)=_;rw[(Prod.mk.inj h2).1]
theorem ZI0(E:∀w,(openEnds xZ p w N).map (λs=>(openSeen q loose (jG p.main.body) Xt xG s,see s.heap))=xE (openGood q loose,val))(w:j6):see (Ih p N w)=val:=by obtain⟨s,h1,h2⟩:=z8.mp (E w);unfold Ih;rw[h1];exact(Prod.mk.inj h2).2
end
noncomputable def dOf(s:j4):DefRec:=match s with
 |Stmt.FunctionDef n a b _ _ _ s _ _ p=>⟨n,a,b,s,p⟩
 |_=>⟨Str.empty,⟨[],[],xF,[],[],xF,[]⟩,[],{kind:=.module,names:=[],isGenerator:=xH,isCoroutine:=xH,more:=[]},⟨0,0,0,0⟩⟩
noncomputable abbrev XtOf(l:OpenLaw)(q:j1)(s:j3):Bool:=xlAt q [] s&&recOk l.row.toRowW.records s
theorem holds_top{l:OpenLaw}{q:j1}{loose:List Str}{N:Nat}{β:Type}{see:Heap->β}{val:β}{d:DefRec}(well:l.wellSaid=xG)
  (E:∀w,(openEnds xZ l.prog w N).map (λs=>(openSeen q loose (jG l.prog.main.body) (XtOf l q) xG s,see s.heap))=xE (openGood q loose,val))
  (hdef:defOf q l.row.name=xE (d,[])) (hp:l.row.prog.theDef l.row.name=xE (d.params,d.body,d.scope)) (hk:kwWritten? d.params.kwonlyargs d.params.kw_defaults=xE []) (hwr:(!l.row.writes||l.row.records.isEmpty)=xG)
  (ok:(chainsOk q&&opensWell l.row.prog&&(frees l.row.toRowW&&l.row.within.isEmpty))=xG) (hb:l.row.prog.bare) (hw:l.row.toRowW.promised)
  (call:WalkO q loose (XL q []) (Stays l.prog N) l.row.toRowW d [] λf vs=>PySem.call f vs):l.Holds:=
 holds_law well λsaid=>holds_open (r:=l.row) (q:=q) (loose:=loose) (Xt:=XtOf l q) (XP:=XL q []) (YP:=Stays l.prog N) (N:=N) (ZJb E) (Rm l.prog N).of (Rm l.prog N).keeps
  (λs e=>xl_of s (qY.mp e).1) XL.keeps hdef hp hk (λs e=>recFacts_of (qY.mp e).2) hwr said ok hb hw call
noncomputable def Ae(K:xB)(n:Str):jx:=match nsIn K jR n with
 |some (xE (.ref f))=>f
 |_=>0
noncomputable def gOk(K:xB)(n:Str):Bool:=match nsIn K jR n with
 |some (xE (.ref _))=>xG
 |_=>xH
theorem Lw{n:Str}(h:gOk K n=xG):nsIn K jR n=xE (xE (.ref (Ae K n))):=by
 unfold gOk at h;unfold Ae;split at h
 ·rename_i e;rw[e]
 ·cases h
noncomputable def Cz(K:xB)(C:jx)(m:Str):jx:=match findIn K (.ref C) m with
 |some (xE (.ref f))=>f
 |_=>0
noncomputable def mOk(K:xB)(C:jx)(m:Str):Bool:=match findIn K (.ref C) m with
 |some (xE (.ref f))=>isFn K (.ref f)
 |_=>xH
theorem ZAE(h:mOk K C m=xG):findIn K (.ref C) m=xE (xE (.ref (Cz K C m)))/\isFn K (.ref (Cz K C m))=xG:=by
 unfold mOk at h;unfold Cz;split at h
 ·rename_i e;rw[e];exact⟨rfl,h⟩
 ·cases h
noncomputable def noF(K:xB)(C:jx)(m:Str):Bool:=match findIn K (.ref C) m with
 |some xF=>xG
 |_=>xH
theorem ZBi(h:noF K C m=xG):findIn K (.ref C) m=xE xF:=by
 unfold noF at h;split at h
 ·assumption
 ·cases h
noncomputable def zOk(K:xB)(n:Str):Bool:=match nsIn K jR n with
 |some xF=>xG
 |_=>xH
theorem ZIF{n:Str}(h:zOk K n=xG):nsIn K jR n=xE xF:=by
 unfold zOk at h;split at h
 ·assumption
 ·cases h
noncomputable def S6(K:xB)(C:jx):Bool:=match findIn K (.ref C) "__setattr__" with
 |some (xE (.builtin s))=>s == "object.__setattr__"
 |_=>xH
theorem ZC1(h:S6 K C=xG):findIn K (.ref C) "__setattr__"=xE (xE (.builtin "object.__setattr__")):=by
 unfold S6 at h;split at h
 ·rename_i e;rw[e,beq_iff_eq.mp h]
 ·cases h
noncomputable def iOk(K:xB)(n:Str)(v:Int):Bool:=match nsIn K jR n with
 |some (xE (.int u _))=>decide (u=v)
 |_=>xH
noncomputable def sOk(K:xB)(n:Str)(v:Str):Bool:=match nsIn K jR n with
 |some (xE (.str u _))=>decide (u=v)
 |_=>xH
noncomputable def Cu(K:xB)(n:Str):Tok:=match nsIn K jR n with
 |some (xE (.int _ t))=>t
 |some (xE (.str _ t))=>t
 |_=>0
theorem ZKJ{n:Str}{v:Int}(h:iOk K n v=xG):nsIn K jR n=xE (xE (.int v (Cu K n))):=by
 unfold iOk at h;unfold Cu;split at h
 ·rename_i e;rw[e,of_decide_eq_true h]
 ·cases h
theorem ZE8{n:Str}{v:Str}(h:sOk K n v=xG):nsIn K jR n=xE (xE (.str v (Cu K n))):=by
 unfold sOk at h;unfold Cu;split at h
 ·rename_i e;rw[e,of_decide_eq_true h]
 ·cases h
noncomputable def Jq(K:xB)(f:jx):Obj:=match K.lookup f with
 |some o=>o
 |none=>⟨.none,xF,.plain,#[]⟩
def By(K:xB)(f:jx):jy:=match(Jq K f).data with
 |.func fd=>fd
 |_=>default
noncomputable def ZFi:j5->Bool
 |.none=>xG
 |_=>xH
noncomputable def ZJg:FuncBody->Option (List j4)
 |.stmts b=>xE b
 |_=>xF
def S7(K:xB)(x q:Str)(f:jx):Bool:=match K.lookup f with
 |some ⟨_,_,.func fd,_⟩=>decide (fd.name=x)&&decide (fd.qualname=q)&&(fd.globals==jR&&fd.builtins==builtinsNs&&fd.closure.isEmpty&&ZFi fd.defaults)&&(codeIn K fd.code q&&keepIn K (.ref f))
 |_=>xH
noncomputable abbrev DefTxt:=Arguments×Option (List j4)×j2
def Ph(K:xB)(f:jx):DefTxt:=((By K f).params,ZJg (By K f).body,(By K f).scope)
def Ov(st:j4):DefTxt:=(Hm st,xE (Eh st),Aw st)
abbrev FnSaid(K:xB)(x q:Str)(st:j4)(f:jx):Prop:=
 K.lookup f=xE ⟨(Jq K f).cls,(Jq K f).dict,.func (fnOf x q (Hm st) (Eh st) (Aw st) .none (By K f).kwdefaults (By K f).doc (By K f).pyModule (By K f).annotations (By K f).code (By K f).closureTuple),(Jq K f).slots⟩/\
  codeIn K (By K f).code q=xG/\keepIn K (.ref f)=xG
theorem ZCj{f:jx}(h:S7 K x q f=xG)(t:Ph K f=Ov st):FnSaid K x q st f:=by
 unfold S7 at h;split at h
 ·rename_i oc od fd sl e;have eo:Jq K f=⟨oc,od,.func fd,sl⟩:=by unfold Jq;rw[e]
  have ef:By K f=fd:=by unfold By;rw[eo]
  unfold Ph Ov at t;rw[ef]at t;obtain⟨t1,t2⟩:=Prod.mk.inj t;obtain⟨t2,t3⟩:=Prod.mk.inj t2;simp only[zY,decide_eq_true_eq,beq_iff_eq,List.isEmpty_iff]at h;obtain⟨⟨⟨h1,h2⟩,⟨⟨h3,h4⟩,h5⟩,h6⟩,h7,h8⟩:=h;unfold FnSaid;rw[ef,eo,e];refine⟨?_,h7,h8⟩;have h6':fd.defaults=.none:=by
   revert h6
   generalize fd.defaults=df;intro h6
   cases df<;>first|rfl|cases h6
  have h9:fd.body=.stmts (Eh st):=by
   revert t2
   generalize fd.body=bd;intro t2
   cases bd<;>first|(cases t2;rfl)|(cases t2)
  have ef':fd=fnOf x q (Hm st) (Eh st) (Aw st) .none fd.kwdefaults fd.doc fd.pyModule fd.annotations fd.code fd.closureTuple:=by show FuncData.mk fd.name fd.qualname fd.params fd.body fd.scope fd.globals fd.closure fd.defaults fd.kwdefaults fd.doc fd.pyModule fd.annotations fd.code fd.closureTuple fd.builtins=_;rw[h1,h2,t1,h9,t3,h3,h5,h6',h4]
  exact congrArg (λz=>xE (Obj.mk oc od (.func z) sl)) ef'
 ·cases h
noncomputable def strsOf:List j5->Option (List Str)
 |[]=>xE []
 |.str s _::r=>(strsOf r).map (s::·)
 |_::_=>xF
theorem R0:∀{l:List j5}{ss:List Str},strsOf l=xE ss->Vals (ss.map V.str) l
 |[],ss,h=>by cases h;exact .nil
 |v::r,ss,h=>by
  unfold strsOf at h;split at h
  ·rename_i q;cases q
  ·rename_i s t r' q;cases q;obtain⟨ss',h1,rfl⟩:=z8.mp h;exact .cons ⟨_,rfl⟩ (R0 h1)
  ·cases h
def Z7(K:xB)(n:Str)(vs:List Str):Bool:=match nsIn K jR n with
 | some (xE (.ref p))=>(match K.lookup p with
   |some ⟨.type t,_,.seq its _,_⟩=>t == "tuple"&&decide (strsOf its.toList=xE vs)&&Nat.ble its.toList.length 1000
   |_=>xH)
 |_=>xH
abbrev GtSaid(K:xB)(n:Str)(vs:List Str):Prop:=∃(p:jx)(od:Option jx)(sl:Array (Option j5))(k:Nat)(its:List j5),nsIn K jR n=xE (xE (.ref p))/\K.lookup p=xE ⟨.type "tuple",od,.seq its.toArray k,sl⟩/\its.length<=1000/\Vals (vs.map V.str) its
theorem ZE4{n:Str}{vs:List Str}(h:Z7 K n vs=xG):GtSaid K n vs:=by
 unfold Z7 at h;split at h
 ·rename_i p e;split at h
  ·rename_i t od its k sl e2;simp only[zY,beq_iff_eq,decide_eq_true_eq]at h;obtain⟨⟨rfl,h2⟩,h3⟩:=h;exact⟨p,od,sl,k,its.toList,e,by rw[e2],qD h3,R0 h2⟩
  ·cases h
 ·cases h
def Xz(K:xB)(n:Str)(kvs:List (Str×Str)):Bool:=match nsIn K jR n with
 | some (xE (.ref p))=>(match K.lookup p with
   |some ⟨.type t,_,.dict es _,_⟩=>t == "dict" && !(p==sysModules)&&decide (strsOf (es.toList.map (·.key))=xE (kvs.map (·.1)))&&decide (strsOf (es.toList.map (·.val))=xE (kvs.map (·.2)))
   |_=>xH)
 |_=>xH
abbrev GdSaid(K:xB)(n:Str)(kvs:List (Str×Str)):Prop:=∃(p:jx)(od:Option jx)(sl:Array (Option j5))(k:Nat)(es:Array DictEntry),nsIn K jR n=xE (xE (.ref p))/\K.lookup p=xE ⟨.type "dict",od,.dict es k,sl⟩/\(p==sysModules)=xH/\Vals ((kvs.map (·.1)).map V.str) (es.toList.map (·.key))/\Vals ((kvs.map (·.2)).map V.str) (es.toList.map (·.val))
theorem ZJi{n:Str}{kvs:List (Str×Str)}(h:Xz K n kvs=xG):GdSaid K n kvs:=by
 unfold Xz at h;split at h
 ·rename_i p e;split at h
  ·rename_i t od es k sl e2;simp only[zY,beq_iff_eq,decide_eq_true_eq,Bool.not_eq_true']at h;obtain⟨⟨⟨rfl,h2⟩,h3⟩,h4⟩:=h;exact⟨p,od,sl,k,es,e,by rw[e2],h2,R0 h3,R0 h4⟩
  ·cases h
 ·cases h
inductive Ask where
 |fn (n:Str) (st:j4)
 |mt (c m q:Str) (st:j4)
 |cl (c:Str)
 |no (c x:Str)
 |z (n:Str)
 |gi (n:Str) (v:Int)
 |gs (n v:Str)
 |gt (n:Str) (vs:List Str)
 |gd (n:Str) (kvs:List (Str×Str))
 |ck (φ:xB->Bool)
def Ask.chk(K:xB):Ask->Bool
 |.fn n _=>gOk K n&&S7 K n n (Ae K n)
 |.mt c m q _=>mOk K (Ae K c) m&&S7 K m q (Cz K (Ae K c) m)
 |.cl c=>gOk K c&&(plainGet K (Ae K c) Str.empty&&hasDictIn K (Ae K c)&&plainOver K (Ae K c))&&(S6 K (Ae K c)&&makesIn K (Ae K c)&&keepIn K (.ref (Ae K c)))
 |.no c x=>noF K (Ae K c) x
 |.z n=>zOk K n
 |.gi n v=>iOk K n v
 |.gs n v=>sOk K n v
 |.gt n vs=>Z7 K n vs
 |.gd n kvs=>Xz K n kvs
 |.ck φ=>φ K
def Ask.txt(K:xB):Ask->Option DefTxt
 |.fn n _=>xE (Ph K (Ae K n))
 |.mt c m _ _=>xE (Ph K (Cz K (Ae K c) m))
 |_=>xF
def Ask.want:Ask->Option DefTxt
 |.fn _ st=>xE (Ov st)
 |.mt _ _ _ st=>xE (Ov st)
 |_=>xF
def Ask.Said(K:xB):Ask->Prop
 |.fn n st=>nsIn K jR n=xE (xE (.ref (Ae K n)))/\FnSaid K n n st (Ae K n)
 |.mt c m q st=>findIn K (.ref (Ae K c)) m=xE (xE (.ref (Cz K (Ae K c) m)))/\isFn K (.ref (Cz K (Ae K c) m))=xG/\FnSaid K m q st (Cz K (Ae K c) m)
 | .cl c=>nsIn K jR c=xE (xE (.ref (Ae K c)))/\plainGet K (Ae K c) Str.empty=xG/\hasDictIn K (Ae K c)=xG/\plainOver K (Ae K c)=xG/\
   findIn K (.ref (Ae K c)) "__setattr__"=xE (xE (.builtin "object.__setattr__"))/\makesIn K (Ae K c)=xG/\keepIn K (.ref (Ae K c))=xG
 |.no c x=>findIn K (.ref (Ae K c)) x=xE xF
 |.z n=>nsIn K jR n=xE xF
 |.gi n v=>nsIn K jR n=xE (xE (.int v (Cu K n)))
 |.gs n v=>nsIn K jR n=xE (xE (.str v (Cu K n)))
 |.gt n vs=>GtSaid K n vs
 |.gd n kvs=>GdSaid K n kvs
 |.ck φ=>φ K=xG
theorem Ask.said:∀{a:Ask},a.chk K=xG->a.txt K=a.want->a.Said K
 |.fn n st,h,t=>by obtain⟨h1,h2⟩:=qY.mp h;exact⟨Lw h1,ZCj h2 (Option.some.inj t)⟩
 |.mt c m q st,h,t=>by obtain⟨h1,h2⟩:=qY.mp h;exact⟨(ZAE h1).1,(ZAE h1).2,ZCj h2 (Option.some.inj t)⟩
 |.cl c,h,_=>by simp only[Ask.chk,zY]at h;obtain⟨⟨h1,⟨h2,h3⟩,h4⟩,⟨h5,h6⟩,h7⟩:=h;exact⟨Lw h1,h2,h3,h4,ZC1 h5,h6,h7⟩
 |.no c x,h,_=>ZBi h
 |.z n,h,_=>ZIF h
 |.gi n v,h,_=>ZKJ h
 |.gs n v,h,_=>ZE8 h
 |.gt n vs,h,_=>ZE4 h
 |.gd n kvs,h,_=>ZJi h
 |.ck _,h,_=>h
def AllSaid(K:xB):List Ask->Prop
 |[]=>True
 |a::r=>a.Said K/\AllSaid K r
theorem ZBk:∀{l:List Ask},(l.all (Ask.chk K),l.map (Ask.txt K))=(xG,l.map Ask.want)->AllSaid K l
 |[],_=>trivial
 |a::r,h=>by obtain⟨h1,h2⟩:=Prod.mk.inj h;rw[qN]at h1;obtain⟨h3,h4⟩:=qY.mp h1;rw[zj,zj]at h2;obtain⟨h5,h6⟩:=List.cons.inj h2;exact⟨Ask.said h3 h5,ZBk (by rw[h4,h6])⟩
def Vy(l:List Ask)(h:Heap):Bool×List (Option DefTxt):=(l.all (Ask.chk (Nu h)),l.map (Ask.txt (Nu h)))
noncomputable abbrev Vz(l:List Ask):Bool×List (Option DefTxt):=(xG,l.map Ask.want)
theorem ZGP{a:Str}{f:jx}{fd:jy}{s:j3}{v:j5}(F:Fun K x q st f fd)
  (h:∀(kV doc pm:j5)(an:Option jx)(cdv ct:j5)(u:j5),bindArgs (fnOf x q (Hm st) (Eh st) (Aw st) .none kV doc pm an cdv ct) ⟨[u],[]⟩=pure [(a,u)]):BindsTo s fd ⟨[v],[]⟩ [(a,v)]:=by
 obtain⟨oc,od,kV,doc,pm,an,cdv,ct,osl,rfl,lk,hcd⟩:=F.ex;exact .of_eq (h kV doc pm an cdv ct v)
noncomputable def Oz(p:j1)(w:j6)(n₀:Nat)(ann:Option j5):Nat->SharedT->Thread->Option SharedT
 |0,_,_=>xF
 | n+1,s,t=>match through t with
  |true=>xE s
  | false=>match PySem.W.Fast.tw6613529449190102663 n₀ ann t with
   |false=>xF
   |true=>match PySem.W.Fast.tw10156331382660048174 (PySem.W.Fast.tw11892475500146522536 PySem.W.Fast.tw14364793385576792824) p w s t with
    |some (s',t')=>Oz p w n₀ ann n s' t'
    |none=>xF
theorem ZBM{p:j1}{w:j6}{n₀:Nat}{ann:Option j5}:∀{n:Nat}{s s':SharedT}{t:Thread},Oz p w n₀ ann n s t=xE s'->topRun xZ p w n₀ ann n s.abs t=xE s'.abs
 |0,_,_,_,h=>by cases h
 | n+1,s,s',t,h=>by
  unfold Oz at h;unfold topRun;rw[<-PySem.W.Fast.te6613529449190102663,<-PySem.W.Fast.te10156331382660048174,<-PySem.W.Fast.te11892475500146522536,<-PySem.W.Fast.te14364793385576792824]at h;cases ht:through t with
  |true=>
   rw[ht]at h;cases h
   rfl
  | false=>
   rw[ht]at h;dsimp only at h⊢;cases ho:stepOk n₀ ann t with
   |false=>rw[ho]at h;cases h
   |true=>
    rw[ho]at h;dsimp only at h⊢;split at h
    ·rename_i s2 t2 e;rw[stepT_spec e];exact ZBM h
    ·cases h
noncomputable def ZCf:List Obj->Nat->BT->BT
 |[],_,t=>t
 |o::r,n,t=>ZCf r (n+1) (t.ins n o)
def ZBI(w:j6)(os:OsState):SharedT:=⟨ZCf (xC w.params).objs.toList 0 .nil,(xC w.params).objs.size,(xC w.params).life,Array.mk [],boot_drawn,boot_toks,os⟩
theorem boot_abs:∀w os,(ZBI w os).abs=⟨xC w.params,Array.mk [],boot_drawn,boot_toks,os⟩:=λw os=>by kernel_rfl
theorem ZI1:∀w:j6,((xC w.params).isNs jR&&(Array.mk []:Array GenState).size==0)=xG:=λw=>by kernel_rfl
def Xq(p:j1)(w:j6)(os:OsState):Option SharedT:=Oz p w (xC w.params).objs.size (PySem.W.Fast.tw8920871248978507458 (xC w.params) jR "__annotations__") 100000 (ZBI w os) (topStub p)
noncomputable def Yc(p:j1)(w:j6)(s:j3):Bool:=staticsOk (PySem.W.Fast.tw5923862056798008813 p.main.body) (xC w.params) s.heap&&namesBound p s.heap&&gensDone s&&laidKept (xC w.params) s.heap
theorem ZIU{p q:j1}{loose:List Str}{Xt:j3->Bool}{β:Type}{see:Heap->β}{val:β}(e:opening p=plainProg p.main.scope.names)(f:∀s,fenceModules? p s=xE s)
  (R:∀w os,(Xq p w os).map (λs=>(Yc p w s.abs,PySem.W.Fast.tw4187177175401517315 q loose (PySem.W.Fast.tw5923862056798008813 p.main.body) Xt xG s.abs,see s.abs.heap))=xE (xG,openGood q loose,val)):
  ∀w,(openEnds xZ p w 100000).map (λs=>(openSeen q loose (jG p.main.body) Xt xG s,see s.heap))=xE (openGood q loose,val):=λw=>by
 obtain⟨⟨h,gs,d,k,os⟩,h0,e0⟩:=z8.mp (boot_open (N:=100000) e rfl f w);obtain⟨rfl,rfl,rfl,rfl⟩:h=xC w.params/\gs=Array.mk []/\d=boot_drawn/\k=boot_toks:=by simpa using e0
 obtain⟨s,h1,h2⟩:=z8.mp (R w os);obtain⟨h3,h4⟩:=Prod.mk.inj h2;obtain⟨h4,h5⟩:=Prod.mk.inj h4;unfold Xq at h1;have r:=ZBM h1;rw[boot_abs,<-PySem.W.Fast.te8920871248978507458]at r;rw[<-PySem.W.Fast.te4187177175401517315,<-PySem.W.Fast.te5923862056798008813]at h4;unfold Yc at h3;rw[<-PySem.W.Fast.te5923862056798008813]at h3;have t:topFrom xZ p w 100000 ⟨xC w.params,Array.mk [],boot_drawn,boot_toks,os⟩=xE s.abs:=by
  unfold topFrom;dsimp only;rw[ZI1,r]
  show(match staticsOk (jG p.main.body) (xC w.params) s.abs.heap&&namesBound p s.abs.heap&&gensDone s.abs&&laidKept (xC w.params) s.abs.heap with |true=>_|false=>_)=_
  rw[h3]
 unfold openEnds;rw[h0];show(topFrom xZ p w 100000 _).map _=_;rw[t];exact congrArg xE (Prod.ext h4 h5)
theorem ZGN{l:OpenLaw}(h:PySem.W.Fast.tw9446332074065402090 l=xG):l.wellSaid=xG:=by rw[PySem.W.Fast.te9446332074065402090];exact h
structure FT (K:xB) (mg:Str->Option j5) (n:Str) (st:j4) (ps:List Str):Prop where
 F:Fun K n n st (Ae K n) (By K (Ae K n))
 b:Binds K (By K (Ae K n)) ps []
 m:mg n=xE (.ref (Ae K n))
 k:keepIn K (.ref (Ae K n))=xG
structure MT (K:xB) (c m q:Str) (st:j4) (ps:List Str):Prop where
 F:Fun K m q st (Cz K (Ae K c) m) (By K (Cz K (Ae K c) m))
 b:Binds K (By K (Cz K (Ae K c) m)) ps []
 me:Meth K (Ae K c) m (Cz K (Ae K c) m)
theorem Nx{f:jx}(s:FnSaid K x q st f):Fun K x q st f (By K f):=by
 have e:By K f=fnOf x q (Hm st) (Eh st) (Aw st) .none (By K f).kwdefaults (By K f).doc (By K f).pyModule (By K f).annotations (By K f).code (By K f).closureTuple:=by
  have h:=s.1
  conv=>lhs;unfold By Jq;rw[h]
 exact⟨⟨_,_,_,_,_,_,_,_,_,e,by rw[e];exact s.1,s.2.1⟩,s.2.2⟩
theorem Cg{h:Heap}{mg:Str->Option j5}{n:Str}{ps:List Str}(X:K.In h)(G:h.Ns jR mg)(s:Ask.Said K (.fn n st))
  (hb:∀(kV doc pm:j5)(an:Option jx)(cdv ct:j5)(us:List j5),us.length=ps.length->bindArgs (fnOf n n (Hm st) (Eh st) (Aw st) .none kV doc pm an cdv ct) ⟨us,[]⟩=pure (ps.zip us)):FT K mg n st ps:=
 ⟨Nx s.2,(Nx s.2).binds hb,mg_of X G s.1,s.2.2.2⟩
theorem ZHR{c:Str}{ps:List Str}(s:Ask.Said K (.mt c m q st))
  (hb:∀(kV doc pm:j5)(an:Option jx)(cdv ct:j5)(us:List j5),us.length=ps.length->bindArgs (fnOf m q (Hm st) (Eh st) (Aw st) .none kV doc pm an cdv ct) ⟨us,[]⟩=pure (ps.zip us)):MT K c m q st ps:=
 ⟨Nx s.2.2,(Nx s.2.2).binds hb,s.1,s.2.1,s.2.2.2.2⟩
abbrev FnO(P:j1)(w:j6)(K:xB)(mg:Str->Option j5)(base:Heap)(k:Nat)(n:Str)(ps:List Str)(F:List D->DH->R D):Prop:=FnOk P w K mg base CX0 k (Ae K n) (By K (Ae K n)) ps (lF K F)
theorem ZH1{fd:jy}{s:j3}{v:j5}{a:Str}{f:jx}(F:Fun K x q st f fd)
  (h:∀(kV doc pm:j5)(an:Option jx)(cdv ct:j5)(u:j5),bindArgs (fnOf x q (Hm st) (Eh st) (Aw st) .none kV doc pm an cdv ct) ⟨[u],[]⟩=pure [(a,u)]:=by intros;rfl):BindsTo s fd ⟨[v],[]⟩ [(a,v)]:=ZGP F h
end _D
namespace _D
open PySem PySem.Spec _L
open PyProof.Rows hiding St
variable{k:Nat}{st:j4}{ps:List Str}{cls:j5}{od:Option jx}{P:j1}{w:j6}{h base:Heap}{C:jx}{H:Hp}{mg:Str->Option j5}{qual:Str}{fd:jy}{s:j3}{A:jv}{fill expr:Bool}
section
variable{prog:j1}{w:j6}{A:jv}{E:j5->j3->Prop}{s:j3}
end
section
variable{X:Cx}{E:XK}{p:jx}{kvs:List (Str×Str)}{x:Str}{a:jk}{ta:DE}{np pos:Pos}
end
noncomputable def Cw:D->Option V
 |.int i=>xE (.int i)
 |.str x=>xE (.str x)
 |_=>xF
section
variable{X:Cx}{E:XK}{pos:Pos}
end
section
variable{S:DSt}{G:DH}
end
theorem Bm{X:Cx}{j:Nat}{n:Str}{F:List D->DH->R D}{p pos:Pos}{e:jk}{es:List jk}{tr:DA}(FF:FnO X.prog X.w X.K X.mg X.base k n ps F)(T:FT X.K X.mg n st ps)(hr:Room j X.A)(ha:QA X E0 (e::es) tr)
  (hj:k<=j:=by decide) (hg:Gl X n:=by exact rfl) (hd:(n==("__debug__":Str))=xH:=by decide) (he:notStar e=xG:=by exact rfl) (hp:es.all notStar=xG:=by exact rfl):QE X E0 (.Call (.Name n p) (e::es) [] pos) (dFn F tr):=
 ZEV FF (hr.mono hj) hg T.m T.k T.b pass0 ha hd he hp
theorem ZHZ{f:Array j5->Array j5}{o:Obj}:(Obj.mapFields f o).dict=o.dict:=by
 obtain⟨c,d,dt,sl⟩:=o;unfold Obj.mapFields
 cases dt<;>rfl
def Trc(h B:Heap)(e:jx)(cls:j5)(od:Option jx)(fl:j5):Prop:=
 ∃oe vs T oT ts,h.get? e=xE oe/\(oe.cls=cls/\oe.dict=od)/\oe.data=.fields vs/\vs[1]?=xE (.ref T)/\(B.get? T=xF/\T≠e)/\h.get? T=xE oT/\oT.data=.fields ts/\ts[3]?=xE fl
structure Noted (B:Heap) (l:List Env) (e:jx) (cls:j5) (od:Option jx) (fl:j5) (h h':Heap):Prop where
 st:B.StaysIn h'
 fr:h'.FunFrames B l
 tr:Trc h' B e cls od fl
 up:∀b o,h.get? b=xE o->(∀vs,o.data≠ .fields vs)->∃sl,h'.get? b=xE {o with slots:=sl}
 th:∀b o,h.get? b=xE o->∃o',h'.get? b=xE o'
section
variable{M:Model}{A:jv}{E:j5->j3->Prop}{s:j3}{B:Heap}{env:Env}{outer:List Env}{L e:jx}{oe:Obj}{vs:Array j5}{head:j5}{hn:Bool}{Q:Unit->j3->Prop}
theorem ZDC(fr:A.frames=xE (env::outer))(hl:s.heap.FunFrames B (env::outer))(hf:env.frame=xE L)(he:s.heap.get? e=xE oe)(hk:B.StaysIn s.heap)(hb:B.get? e=xF)(hd:oe.data=.fields vs)(hz:1<vs.size)
  (q:∀h',Noted B (env::outer) e oe.cls oe.dict (jT L) s.heap h'->Q () {s with heap:=h'}):
  xJ M A (do let a<-frameOf env;let pl<-entryPlaceOf L hn;let b<-EntryCells.newEntry head a .none (jT L) .none pl;setField (.ref e) 1 b) Q E s:=by
 have ne:e∉(env::outer).filterMap (·.frame):=λhm=>by obtain⟨_,o,ho,nf⟩:=hl.mem hm;rw[he]at ho;cases ho;exact nf vs hd
 refine xV (wpAny_frameOf_fun fr hl hf λh1 k1=>?_);refine xV (wpAny_entryPlaceOf λpl hp=>?_);unfold EntryCells.newEntry newFields;refine xV (xj ?_ (hp.sizeOk5 _ _ _ _ _));generalize hO:({cls:=.type "traceback",dict:=xF,data:=.fields ([head,.ref L,.none,jT L,.none]++(if pl.isEmpty then zI 6 Value.none else pl)).toArray}:Obj)=O;have hOd:O.data=.fields ([head,.ref L,.none,jT L,.none]++(if pl.isEmpty then zI 6 Value.none else pl)).toArray:=by rw[<-hO]
 have e1:h1.get? e=xE oe:=(k1.2.1 e ne).trans he;have b1:B.StaysIn h1:=λb o hbo=>(k1.2.1 b λhm=>by rw[(hl.mem hm).1]at hbo;cases hbo).trans (hk b o hbo)
 have e2:(h1.push O).get? e=xE oe:=zQ O e1;refine wpAny_setField e2 hd hz (q _ ?_);have nTe:h1.objs.size≠e:=jQ (zV e1)
 have d3:=Obj.data_mapFields hd (·.setIfInBounds 1 (Value.ref h1.objs.size))
 have e3:=qQ (Obj.mapFields (·.setIfInBounds 1 (Value.ref h1.objs.size))) e2 (Obj.isFreed_of_fields d3)
 have t3:=(zT (h1.push O) (Obj.mapFields (·.setIfInBounds 1 (Value.ref h1.objs.size))) (Ne.symm nTe)).trans (zy h1 (by rw[<-hO];rfl))
 have keep:∀b o,b≠e->h1.get? b=xE o->((h1.push O).update e (Obj.mapFields (·.setIfInBounds 1 (Value.ref h1.objs.size)))).get? b=xE o:=λb o n hb'=>by rw[zT _ _ (Ne.symm n)];exact zQ _ hb'
 have nf:∀b o,s.heap.get? b=xE o->(∀vs,o.data≠ .fields vs)->b≠e:=λb o hb' n z=>by rw[z,he]at hb';cases hb';exact n vs hd
 have fresh:B.get? h1.objs.size=xF:=b1.fresh;refine⟨λb o hbo=>keep b o (λz=>by rw[z,hb]at hbo;cases hbo) (b1 b o hbo),hl.of_keeps λb o hb' n=>?_,⟨_,_,h1.objs.size,_,_,e3,⟨Obj.cls_mapFields _ _,ZHZ⟩,d3,by simp[hz],⟨fresh,nTe⟩,t3,hOd,by simp⟩,λb o hb' n=>?_,λb o hb'=>?_⟩
 ·obtain⟨sl,hs⟩:=k1.2.2 b o hb';exact⟨_,keep b _ (nf b o hb' n) hs,rfl⟩
 ·obtain⟨sl,hs⟩:=k1.2.2 b o hb';exact⟨sl,keep b _ (nf b o hb' n) hs⟩
 ·obtain⟨sl,hs⟩:=k1.2.2 b o hb';by_cases z:b=e
  ·subst z;exact⟨_,e3⟩
  ·exact⟨_,keep b _ z hs⟩
theorem ZHq(fr:A.frames=xE (env::outer))(hl:s.heap.FunFrames B (env::outer))(hf:env.frame=xE L)(he:s.heap.get? e=xE oe)(hk:B.StaysIn s.heap)(hb:B.get? e=xF)(hd:oe.data=.fields vs)(h1:vs[1]?=xE .none)
  (q:∀h',Noted B (env::outer) e oe.cls oe.dict (jT L) s.heap h'->Q () {s with heap:=h'}):xJ M A (noteFrame (.ref e) env) Q E s:=by
 unfold noteFrame;simp only[hf];refine xV (xY he hd h1 ?_);rw[if_neg (by decide)];exact ZDC fr hl hf he hk hb hd (zG.mp h1).1 q
theorem ZGm(fr:A.frames=xE (env::outer))(hl:s.heap.FunFrames B (env::outer))(hf:env.frame=xE L)(ht:Trc s.heap B e cls od .none)(hk:B.StaysIn s.heap)(hb:B.get? e=xF)
  (q:∀h',Noted B (env::outer) e cls od (jT L) s.heap h'->Q () {s with heap:=h'}):xJ M A (noteFrame (.ref e) env) Q E s:=by
 obtain⟨oe,vs,T,oT,ts,he,⟨rfl,rfl⟩,hd,h1,⟨nT,nTe⟩,hT,dT,h3⟩:=ht;unfold noteFrame;simp only[hf];refine xV (xY he hd h1 ?_)
 rw[if_pos (show(Value.ref T != Value.none)=xG from by simp)]
 refine xV (xY hT dT h3 ?_)
 rw[if_neg (show¬((Value.none==jT L)=xG)from by simp[jT])]
 refine xV (wpAny_setField hT dT (zG.mp h3).1 ?_)
 have oth:∀b,b≠T->(s.heap.update T (Obj.mapFields (·.setIfInBounds 3 Value.none))).get? b=s.heap.get? b:=λb n=>zT _ _ (Ne.symm n)
 have nf:∀b o,s.heap.get? b=xE o->(∀vs,o.data≠ .fields vs)->b≠T:=λb o hb' n z=>by rw[z,hT]at hb';cases hb';exact n ts dT
 refine ZDC fr (hl.of_keeps λb o hb' n=>⟨o,(oth b (nf b o hb' n)).trans hb',rfl⟩) hf ((oth e (Ne.symm nTe)).trans he)
  (λb o hbo=>(oth b λz=>by rw[z,nT]at hbo;cases hbo).trans (hk b o hbo)) hb hd (zG.mp h1).1
  λh' n=>q h' ⟨n.st,n.fr,n.tr,λb o hb' nn=>n.up b o ((oth b (nf b o hb' nn)).trans hb') nn,λb o hb'=>?_⟩
 by_cases z:b=T
 ·subst z;exact n.th b _ (qQ _ hT (Obj.isFreed_of_fields (Obj.data_mapFields dT _)))
 ·exact n.th b o ((oth b z).trans hb')
theorem Zw{fl:j5}{l:List Env}(hl:s.heap.FunFrames B l)(ht:Trc s.heap B e cls od fl)(hk:B.StaysIn s.heap)
  (q:∀h',Noted B l e cls od .none s.heap h'->Q () {s with heap:=h'}):xJ M A (setFlight (.ref e) xF) Q E s:=by
 obtain⟨oe,vs,T,oT,ts,he,⟨rfl,rfl⟩,hd,h1,⟨nT,nTe⟩,hT,dT,h3⟩:=ht;unfold setFlight;refine xV (xY he hd h1 ?_)
 rw[if_pos (show(Value.ref T != Value.none)=xG from by simp)]
 refine wpAny_setField hT dT (zG.mp h3).1 (q _ ?_)
 have oth:∀b,b≠T->(s.heap.update T (Obj.mapFields (·.setIfInBounds 3 ((xF:Option jx).elim Value.none λf=>jT f)))).get? b=s.heap.get? b:=λb n=>zT _ _ (Ne.symm n)
 have nf:∀b o,s.heap.get? b=xE o->(∀vs,o.data≠ .fields vs)->b≠T:=λb o hb' n z=>by rw[z,hT]at hb';cases hb';exact n ts dT
 have dT':=Obj.data_mapFields dT (·.setIfInBounds 3 ((xF:Option jx).elim Value.none λf=>jT f))
 have hT':=qQ (Obj.mapFields (·.setIfInBounds 3 ((xF:Option jx).elim Value.none λf=>jT f))) hT (Obj.isFreed_of_fields dT')
 have z3:=(zG.mp h3).1;refine⟨λb o hbo=>(oth b λz=>by rw[z,nT]at hbo;cases hbo).trans (hk b o hbo),hl.of_keeps λb o hb' n=>⟨o,(oth b (nf b o hb' n)).trans hb',rfl⟩,
  ⟨oe,vs,T,_,_,(oth e (Ne.symm nTe)).trans he,⟨rfl,rfl⟩,hd,h1,⟨nT,nTe⟩,hT',dT',by simp[z3]⟩,λb o hb' n=>⟨o.slots,(oth b (nf b o hb' n)).trans hb'⟩,λb o hb'=>?_⟩
 by_cases z:b=T
 ·subst z;exact⟨_,hT'⟩
 ·exact⟨o,(oth b z).trans hb'⟩
theorem Noted.trans{l:List Env}{f1 f2:j5}{h1 h2 h3:Heap}(x:Noted B l e cls od f1 h1 h2)(y:Noted B l e cls od f2 h2 h3):Noted B l e cls od f2 h1 h3:=
 ⟨y.st,y.fr,y.tr,λb o hb n=>by
  obtain⟨sl,k⟩:=x.up b o hb n;obtain⟨sl',k'⟩:=y.up b _ k n;exact⟨sl',k'⟩,λb o hb=>by
  obtain⟨o',k⟩:=x.th b o hb;exact y.th b o' k⟩
theorem ZIe(fr:A.frames=xE (env::outer))(hl:s.heap.FunFrames B (env::outer))(hf:env.frame=xE L)(he:s.heap.get? e=xE oe)(hk:B.StaysIn s.heap)(hb:B.get? e=xF)(hd:oe.data=.fields vs)(h1:vs[1]?=xE .none)
  (q:∀h',Noted B (env::outer) e oe.cls oe.dict .none s.heap h'->Q () {s with heap:=h'}):xJ M A (leaving env (.ref e)) Q E s:=by
 unfold leaving;exact xV (ZHq fr hl hf he hk hb hd h1 λh' n=>Zw n.fr n.tr n.st λh'' n'=>q h'' (n.trans n'))
end
structure Fly (B:Heap) (l:List Env) (e:jx) (cls:j5) (od:Option jx) (H':Hp) (h:Heap):Prop where
 st:B.StaysIn h
 fr:h.FunFrames B l
 tr:Trc h B e cls od .none
 eb:B.get? e=xF
 al:∀b,H' b≠xF->∃o,B.get? b=xE o
def CXx(P:j1)(w:j6):CXT:=λouter H s E e s'=>∃(ea:jx)(cls:j5)(od:Option jx)(H':Hp)(B:Heap),e=.ref ea/\s'.os=s.os/\AllBare s'.gens/\Un (frs outer) [] H H' s.heap s'.heap/\HOk P w H' s'.heap/\
 Fly B outer ea cls od H' s'.heap/\(∀b o,s.heap.get? b=xE o->H b=xF->b∉frs outer->B.get? b=xE o)/\s.heap.get? ea=xF/\E cls od H'/\∃C,cls=.ref C
section
variable{X:Cx}{xD:List (jx×Obj)}{σ:St}{H H':Hp}{s s':j3}{B h'':Heap}{ea:jx}{cls:j5}{od:Option jx}{E:XK}
theorem ZDX{h':Heap}(hok:HOk P w H' h)(al:∀b,H' b≠xF->∃o,B.get? b=xE o)(s1:B.StaysIn h)(s2:B.StaysIn h'):HOk P w H' h':=λa o e=>
 (hok a o e).stay (λb u hb q=>by
  have hn:H' b≠xF:=by
   rcases hb with rfl|hb
   ·rw[e];simp
   ·rw[hb];simp
  obtain⟨o',k⟩:=al b hn;have k1:=s1 b o' k;rw[q]at k1;cases k1;exact s2 b u k) (λ_ q=>q) λ_ _ q=>q
theorem ZIn(I:Inv X xD σ H s)(hs:X.stack=X.env::X.outer)(hex:X.ex=[])(hfr:X.env.frame=xE X.env.locals)(os:s'.os=s.os)(bare:AllBare s'.gens)(un:Un (frs X.stack) [] H H' s.heap s'.heap)(hok:HOk X.prog X.w H' s'.heap)
  (bb:∀b o,s.heap.get? b=xE o->H b=xF->b∉frs X.stack->B.get? b=xE o) (al:∀b,H' b≠xF->∃o,B.get? b=xE o) (eb:B.get? ea=xF) (st:B.StaysIn s'.heap) (new:s.heap.get? ea=xF)
  (n:Noted B X.stack ea cls od .none s'.heap h'') (hE:E cls od H') (hc:∃C,cls=.ref C):CXx X.prog X.w X.outer X.H₀ X.s₀ E (.ref ea) {s' with heap:=h''}:=by
 have base:=I.base;rw[hex]at base;have fe:frs X.stack=X.env.locals::frs X.outer:=by rw[hs];unfold frs;rw[zH,hfr]
 have bb':∀b o,X.s₀.heap.get? b=xE o->X.H₀ b=xF->b∉frs X.outer->B.get? b=xE o:=λb o q hn hb=>by
  refine bb b o (base.keep b o q hn hb (by simp)) (base.free b o q hn (by simp)) ?_;rw[fe];intro hm;rcases zz.mp hm with z|z
  ·exact absurd (zZ (zV q) I.ok.above) (by rw[z];exact zE _)
  ·exact hb z
 have frO:h''.FunFrames B X.outer:=by have:=n.fr;rw[hs]at this;exact this.2.2
 refine⟨ea,cls,od,H',B,rfl,os.trans I.os,bare,⟨λb o q hn hb _=>n.st b o (bb' b o q hn hb),λb o q hn hb _=>?_,λb o q hn hx=>?_,λb o q hx=>?_,λb xs q=>un.tups b xs (base.tups b xs q),λb o u q=>un.frzs b o u (base.frzs b o u q),λb ps q=>?_⟩,ZDX hok al st n.st,⟨n.st,frO,n.tr,eb,al⟩,bb',?_,hE,hc⟩
 ·obtain⟨sl,k⟩:=base.slot b o q hn hb (by simp);have hm:b∈frs X.stack:=by rw[fe];exact zX _ hb
  obtain⟨sl',k'⟩:=un.slot b _ k (base.free b o q hn (by simp)) hm (by simp);obtain⟨_,o2,k2,nf⟩:=I.stack.mem hm;rw[k]at k2;cases k2;obtain⟨sl'',k3⟩:=n.up b _ k' nf;exact⟨sl'',k3⟩
 ·obtain⟨o1,k1⟩:=base.there b o q hx;exact un.free b o1 k1 (base.free b o q hn hx) hx
 ·obtain⟨o1,k1⟩:=base.there b o q hx;obtain⟨o2,k2⟩:=un.there b o1 k1 hx;exact n.th b o2 k2
 ·obtain⟨m1,k1⟩:=base.tbls b ps q;obtain⟨m2,k2⟩:=un.tbls b _ k1;exact⟨m1++m2,by rw[k2,Array.append_assoc]⟩
 ·cases q:X.s₀.heap.get? ea with
  |none=>rfl
  |some o=>
   obtain⟨o1,k1⟩:=base.there ea o q (by simp);rw[new]at k1;cases k1
def Ol(X:Cx)(E:XK):j5->j3->Prop:=λe s'=>xJ (jS X.prog X.w) X.A (leaving X.env e) (λ_ s''=>CXx X.prog X.w X.outer X.H₀ X.s₀ E e s'') (λe' s''=>CXx X.prog X.w X.outer X.H₀ X.s₀ E e' s'') s'
theorem ZHh{a:jx}{o:HO}(x:ObjOk P w H h a o):∃ob,h.get? a=xE ob:=by
 cases o with
 |lst xs=>obtain⟨_,_,_,_,e⟩:=x;exact⟨_,e⟩
 |tup xs=>obtain⟨_,_,_,_,e,_⟩:=x;exact⟨_,e⟩
 |dK kvs=>obtain⟨_,_,_,_,o,_,_,e,_⟩:=x;exact⟨_,e⟩
 |dT kvs=>obtain⟨_,_,_,_,o,_,_,e,_⟩:=x;exact⟨_,e⟩
 |set S n=>obtain⟨o,_,_,_,e,_⟩:=x;exact⟨_,e⟩
 |ins C dx fs=>obtain⟨_,_,_,e,_⟩:=x;exact⟨_,e⟩
 |own y=>exact x
 |xd fs=>obtain⟨_,⟨_,_,_,e,_⟩,_⟩:=x;exact⟨_,e⟩
 |rng lo hi=>obtain⟨_,_,_,e⟩:=x;exact⟨_,e⟩
 |frz ob u=>obtain⟨e,_⟩:=x;exact⟨_,e⟩
 |tbl ps=>exact⟨_,x⟩
 |met f y=>exact⟨_,x⟩
 |ext φ=>exact x.2.1
theorem ZCd{h':Heap}:∀{l:List Env},h.FunFrames base l->(∀b∈frs l,∀o,h.get? b=xE o->∃sl,h'.get? b=xE {o with slots:=sl})->h'.FunFrames base l
 |[],_,_=>trivial
 |env::r,⟨hk,⟨L,o,hf,hn,ho,hd⟩,hr⟩,k=>by
  have fe:frs (env::r)=L::frs r:=by unfold frs;rw[zH,hf]
  obtain⟨sl,z⟩:=k L (by rw[fe];exact zk) o ho;exact⟨hk,⟨L,_,hf,hn,z,hd⟩,ZCd hr λb hb o' ho'=>k b (by rw[fe];exact zX _ hb) o' ho'⟩
structure Made (X:Cx) (H:Hp) (s:j3) (ea:jx) (cls:j5) (od:Option jx) (s':j3) (H':Hp):Prop where
 os:s'.os=s.os
 bare:AllBare s'.gens
 un:Un (frs X.stack) [] H H' s.heap s'.heap
 hok:HOk X.prog X.w H' s'.heap
 ob:∃oe vs,s'.heap.get? ea=xE oe/\oe.cls=cls/\oe.dict=od/\oe.data=.fields vs/\vs[1]?=xE .none
 fe:H' ea=xF
 new:s.heap.get? ea=xF
theorem ZHV(hs:X.stack=X.env::X.outer)(hex:X.ex=[])(hfr:X.env.frame=xE X.env.locals)(I:Inv X xD σ H s)(m:Made X H s ea cls od s' H')(hE:E cls od H')(hc:∃C,cls=.ref C):Ol X E (.ref ea) s':=by
 obtain⟨oe,vs,he,rfl,rfl,hd,h1⟩:=m.ob;have ne:ea∉frs X.stack:=λhm=>by obtain⟨_,o,ho,_⟩:=I.stack.mem hm;rw[m.new]at ho;cases ho
 have F':s'.heap.FunFrames X.base X.stack:=ZCd I.stack λb hb o ho=>m.un.slot b o ho (I.Q8 b hb) hb (by simp)
 have FB:s'.heap.FunFrames (PySem.W.hideAll s'.heap (ea::frs X.stack)) X.stack:=PySem.W.funFrames_hide F' λenv hm a q=>zX _ (List.mem_filterMap.mpr ⟨env,hm,q⟩)
 have eb:(PySem.W.hideAll s'.heap (ea::frs X.stack)).get? ea=xF:=by exact PySem.W.hideAll_none _ zk
 have st:(PySem.W.hideAll s'.heap (ea::frs X.stack)).StaysIn s'.heap:=λb o q=>PySem.W.of_hideAll _ q
 have bb:∀b o,s.heap.get? b=xE o->H b=xF->b∉frs X.stack->(PySem.W.hideAll s'.heap (ea::frs X.stack)).get? b=xE o:=λb o q hn hb=>PySem.W.hideAll_get _ (m.un.keep b o q hn hb (by simp)) λhm=>by
  rcases zz.mp hm with z|z
  ·rw[z,m.new]at q;cases q
  ·exact hb z
 have al:∀b,H' b≠xF->∃o,(PySem.W.hideAll s'.heap (ea::frs X.stack)).get? b=xE o:=λb hb=>by
  cases q:H' b with
  |none=>exact absurd q hb
  |some u=>
   obtain⟨o,k⟩:=ZHh (m.hok b u q);refine⟨o,PySem.W.hideAll_get _ k λhm=>?_⟩;rcases zz.mp hm with z|z
   ·rw[z,m.fe]at q;cases q
   ·obtain⟨_,o1,k1,_⟩:=I.stack.mem z;rw[m.un.free b o1 k1 (I.Q8 b z) (by simp)]at q;cases q
 unfold Ol;refine ZIe (B:=PySem.W.hideAll s'.heap (ea::frs X.stack)) (L:=X.env.locals) (outer:=X.outer) (by rw[I.ok.frames,hs]) (by rw[<-hs];exact FB) hfr he st eb hd h1 λh'' n=>?_
 rw[<-hs]at n;exact ZIn I hs hex hfr m.os m.bare m.un m.hok bb al eb st m.new n hE hc
end
section
variable{prog:j1}{w:j6}{A:jv}{E:j5->j3->Prop}{h:Heap}{g:Array GenState}{d:Drawn}{t:Nat}{os:OsState}
variable{nm q:Str}{C N:jx}{bs bm bmB:List j5}{hdct:Bool}{sn:List Str}{sub:List j5}{ab:Bool}{col:Option Bool}{dd:Option jx}{k0 k1 k2 k3 k5:Option j5}{B newId initId:String}
theorem ZJD(F:ExcBaseFacts B newId initId bmB)(T:OwnTail h bmB bm){mN:Str->Option j5}{rest:List j5}{fI:jx}{oI:Obj}{Q:Fin->j3->Prop}
  (hC:h.get? C=xE (excClassObj nm q C N bs bm hdct sn sub ab col dd k0 k1 k2 k3 k5 newId)) (hn:h.Ns N mN) (hi:mN "__init__"=xE (.ref fI)) (hfI:h.get? fI=xE oI) (hfc:oI.cls=.type "function")
  (hq:∀h' e,Heap.MadeExcOf h h' e (.ref C) rest->h.objs.size<=e->xJ (jS prog w) A (call (.ref fI) (.ref e::rest)) (λr s'=>r=.none/\Q (.done (.ret (.ref e))) s') E ⟨h',g,d,t,os⟩) (hr:rest.length<=sizeLine):
  xJ (jS prog w) A (Builtin.«type.__call__» ⟨.ref C::rest,[]⟩) Q E ⟨h,g,d,t,os⟩:=by
 repeat (first|with_reducible refine wpAny_loadPart_at hC ?_|with_reducible refine wpAny_madeBy_exc hC ?_|wp_step)
 refine codeAny_call_builtin_code (Code.quiet_builtin _ F.quiet) (wpAny_check_new_subT F T hC ?_);refine codeAny_exc_new_subT F T hC ?_ hr;show xJ _ _ _ _ _ _;generalize hO1:({cls:=.type "tuple",data:=.seq rest.toArray}:Obj)=O1;generalize hO2:({cls:=.ref C,data:=.fields #[.ref h.objs.size,.none,.none,.none,.bool xH,.none]}:Obj)=O2;have kp:∀b o,h.get? b=xE o->((h.push O1).push O2).get? b=xE o:=λb o z=>zQ _ (zQ _ z)
 have hC1:=kp _ _ hC;have hf1:=kp _ _ hfI;have hn1:((h.push O1).push O2).Ns N mN:=hn.keeps kp;have T1:=T.keeps kp;have hg:((h.push O1).push O2).get? (h.objs.size+1)=xE O2:=Heap.get?_push_at (by simp only[qE]) (by rw[<-hO2];rfl);have hc2:O2.cls=.ref C:=by rw[<-hO2]
 have cc:(Value.ref C::bm).contains (.ref C)=xG:=by simp
 unfold isInstance
 repeat (first|(with_reducible refine wpAny_loadPart_at hg ?_;rw[hc2])|(with_reducible refine wpAny_isSubtype_exc hC1 ?_;rw[cc])|wp_step)
 show xJ _ _ (typeLookup (.ref C) _) _ _ _;refine wpAny_typeLookup_tail hC1 hn1 T1 F.mroIs F.init.lookup ?_;rw[hi];refine xq (xV ?_);unfold bindSpecial;refine xV (wpAny_typeOf (T:="function") ⟨_,hf1,hfc⟩ ?_);rw[if_pos (by decide)];refine xy (xV (xz (hq _ (h.objs.size+1) ⟨kp,jK (qC _),h.objs.size,by rw[hg,<-hO2],jK (zK _),?_⟩ ?_) (λr s' z=>?_) λ_ _ x=>x))
 ·rw[<-hO1];exact zQ _ (Heap.get?_push_at rfl rfl)
 ·exact qC _
 ·obtain⟨rfl,hQ⟩:=z
  wp_walk
  exact hQ
theorem ZHF(F:ExcBaseFacts B newId initId bmB)(T:OwnTail h bmB bm){mN:Str->Option j5}{rest:List j5}{fI:jx}{oI:Obj}{Q:j5->j3->Prop}
  (hC:h.get? C=xE (excClassObj nm q C N bs bm hdct sn sub ab col dd k0 k1 k2 k3 k5 newId)) (hn:h.Ns N mN) (hi:mN "__init__"=xE (.ref fI)) (hfI:h.get? fI=xE oI) (hfc:oI.cls=.type "function")
  (hq:∀h' e,Heap.MadeExcOf h h' e (.ref C) rest->h.objs.size<=e->xJ (jS prog w) (A.under (.builtin "type.__call__" ⟨.ref C::rest,[]⟩)) (call (.ref fI) (.ref e::rest)) (λr s'=>r=.none/\Q (.ref e) s') E ⟨h',g,d,t,os⟩) (hr:rest.length<=sizeLine):
  xJ (jS prog w) A (call (.ref C) rest) Q E ⟨h,g,d,t,os⟩:=by
 have f1:=tc_lookup;have f2:=tc_bind (.ref C);have hT:(⟨h,g,d,t,os⟩:j3).TypeIs (.ref C) "type":=⟨_,hC,rfl⟩;refine wpAny_call (codeAny_of_tree ?_);show xJ _ _ (callAny (.ref C) _) _ _ _
 repeat (any_goals (first|assumption|with_reducible refine wpAny_loadPart_at hC ?_|wp_step))
 refine⟨rfl,?_⟩;refine codeAny_call_builtin_at (Code.quiet_builtin _ (by decide +kernel)) entry_typeCall (wpAny_check_type_call_sub hC (ZJD F T hC hn hi hfI hfc (λh' e hm he=>?_) hr));exact hq h' e hm he
end
noncomputable abbrev vmro:List j5:=[.type "ValueError",.type "Exception",.type "BaseException",.type "object"]
def Jk(K:PySem.W.Frag)(C:jx):Bool:=match K.lookup C with
 |some ⟨.type "type",_,.cls cd,sl⟩=>(match cd.mro,sl.toList with
  |.ref C'::bm,[_,_,_,_,xE (.builtin n),_]=>C'==C&&n == "ValueError.__new__" && !cd.hasDel&&cd.hasDict&&PySem.W.tailIn K vmro bm&&PySem.W.nsOkIn K cd.ns
  |_,_=>xH)
 |_=>xH
noncomputable def Jr(K:PySem.W.Frag)(C f:jx):Bool:=match K.lookup C with
 |some ⟨_,_,.cls cd,_⟩=>PySem.W.nsIn K cd.ns "__init__"==xE (xE (.ref f))
 |_=>xH
theorem ZIk{K:PySem.W.Frag}{N:jx}{m:Str->Option j5}{n:Str}{v:j5}(X:K.In h)(G:h.Ns N m)(e:PySem.W.nsIn K N n=xE (xE v)):m n=xE v:=by
 obtain⟨o,es,ep,ho,hd,_,hf⟩:=G;unfold PySem.W.nsIn at e;split at e
 ·rename_i c d es' n' sl q;have:=X _ _ q;rw[ho]at this;cases this;cases hd;split at e
  ·rename_i y he;rw[<-hf];unfold nsFind findBy;rw[<-Array.find?_toList,he];exact Option.some.inj e
  ·split at e<;>cases e
 ·cases e
theorem Le{K:PySem.W.Frag}(X:K.In h)(q:Jk K C=xG):∃bm N nm qn bs sn sub ab col dd k0 k1 k2 k3 k5,h.get? C=xE (excClassObj nm qn C N bs bm xG sn sub ab col dd k0 k1 k2 k3 k5 "ValueError.__new__")/\OwnTail h vmro bm/\
  (∃m,h.Ns N m/\∀f,Jr K C f=xG->m "__init__"=xE (.ref f)):=by
 unfold Jk at q;split at q
 ·rename_i dd cd sl ho;split at q
  ·rename_i C' bm k0 k1 k2 k3 n k5 hm hs;simp only[zY,beq_iff_eq,Bool.not_eq_true']at q;obtain⟨⟨⟨⟨⟨rfl,rfl⟩,hdel⟩,hdc⟩,ht⟩,hok⟩:=q;have hi:∀f,Jr K C' f=xG->PySem.W.nsIn K cd.ns "__init__"=xE (xE (.ref f)):=λf z=>by unfold Jr at z;rw[ho]at z;exact beq_iff_eq.mp z
   obtain⟨nm,bs,mro,ns,qn,hd,sn,sub,ab,col,del⟩:=cd;dsimp only at hm hdel hok hdc hi;subst hm hdel hdc;have hsl:sl= #[k0,k1,k2,k3,xE (.builtin "ValueError.__new__"),k5]:=by obtain⟨l⟩:=sl;simp only at hs;rw[hs]
   subst hsl;exact⟨bm,ns,nm,qn,bs,sn,sub,ab,col,dd,k0,k1,k2,k3,k5,X _ _ ho,PySem.W.tail_of_in X ht,_,.of_isNs (PySem.W.isNs_of_in X hok),λf z=>ZIk X (.of_isNs (PySem.W.isNs_of_in X hok)) (hi f z)⟩
  ·cases q
 ·cases q
noncomputable def exO(C:jx)(od:Option jx)(t:jx):Obj:={cls:=.ref C,dict:=od,data:=.fields #[.ref t,.none,.none,.none,.bool xH,.none]}
def exo(e C:jx)(od:Option jx)(h:Heap):Prop:=∃t,h.get? e=xE (exO C od t)
theorem Wh{e:jx}(x:exo e C od h):ObjOk P w H h e (.ext (exo e C od)):=
 ⟨x,let⟨t,k⟩:=x;⟨_,k⟩,λh1 h2 ⟨t,k⟩ s=>⟨t,s _ k⟩⟩
section
variable{X:Cx}{C W:jx}{x:Str}{mc:j5}{p apos pos:Pos}{a1 a2:jk}{t:TA}
noncomputable def tBI(C:jx)(t:TA):TE:=λσ H Q=>t σ H λvs H1=>∃e v,vs=[.ref e,v]/\H1 e=xE (.ext (exo e C xF))/\Q .non H1
theorem ZD9{a:jx}{o:HO}(h:H a=xE o):upd H a o=H:=by
 funext b;unfold upd;split
 ·rename_i z;rw[z,h]
 ·rfl
theorem ZIa{pl:Sem Bool}(hC:Jk X.K C=xG)(hg:Gl X x)(hm:X.mg x=xE (.ref W))(hs:PySem.W.specialIn X.K (.ref W) "__getattribute__"=xE (xE (.builtin "type.__getattribute__")))(hr:PySem.W.readsIn X.K W mc=xG)
  (hf:PySem.W.findCls X.K (.ref W) mc "__init__"=xE (.val (.builtin "ValueError.__init__"))) (ha:PA X [a1,a2] t) (hdb:(x==("__debug__":Str))=xH:=by decide)
  (he:xQ [a1,a2] X.env=(xH,eval a1 X.env)::xQ [a2] X.env:=by rfl) (hpl:(j9 pos (xQ [a2] X.env)).any (·.1)=xH:=by rfl)
  (ht:eval (.Call (.Attribute (.Name x p) "__init__" apos) [a1,a2] [] pos) X.env=(do
   let ov<-eval (.Name x p) X.env
   standAt apos.atName
   let(f,first)<-holding [ov] (getMethod ov "__init__" pl)
   callWith pos f first (j9 pos (xQ [a1,a2] X.env)) (backToKw pos (keywordEach [] X.env))):=by rfl):
  PE X (.Call (.Attribute (.Name x p) "__init__" apos) [a1,a2] [] pos) (tBI C t):=by
 intro xD s σ H Q I h;refine PySem.W.methodCall_KW (pl:=pl) (Lj I hg hm ?_ hdb) ht;refine PySem.W.method_cls I.kIn hs (PySem.W.cls_value I.kIn hr hf (by decide) ?_);refine PyProof.Rows.callWith_builtin1 (thn (ha pos xD _ σ H _ (I.tok _) h) λus s1 ⟨vs,H1,I1,r,e,v,ev,hx,q⟩=>?_) he hpl;subst ev;obtain⟨u,rfl⟩:∃u,us=[.ref e,u]:=by
  cases r with
  | cons r1 r2=>
   cases r2 with
   |cons r3 r4=>
    cases r4
    obtain rfl:=(show _=Value.ref e from r1)
    exact⟨_,rfl⟩
 obtain⟨⟨tp,hob⟩,_,_⟩:=I1.hok e _ hx;obtain⟨bm,N,nm,qn,bs,sn,sub,ab,col,dd,k0,k1,k2,k3,k5,hcl,T,m,hN,_⟩:=Le I1.kIn hC;obtain⟨hp,g,d,tk,os⟩:=s1;have F:=PySem.F.excBase_ValueError;refine wpAny_call (codeAny_call_builtin F.init.plain F.initEntry (wpAny_check_init_subT F T hcl hob rfl ?_))
 wp_walk
 show EP X xD σ Q .none {heap:=(hp.push {cls:=.type "tuple",data:=.seq #[u]}).update e (Obj.mapFields (·.setIfInBounds 0 (Value.ref hp.objs.size))),gens:=g,drawn:=d,toks:=tk,os:=os}
 have he1:(hp.push {cls:=.type "tuple",data:=.seq #[u]}).get? e=xE (exO C xF tp):=zQ _ hob
 have he2:((hp.push {cls:=.type "tuple",data:=.seq #[u]}).update e (Obj.mapFields (·.setIfInBounds 0 (Value.ref hp.objs.size)))).get? e=xE (exO C xF hp.objs.size):=qQ _ he1 rfl
 have J:=I1.write (t':=tk) (x:=e) (e:=e) (o:=.ext (exo e C xF)) (h':=(hp.push {cls:=.type "tuple",data:=.seq #[u]}).update e (Obj.mapFields (·.setIfInBounds 0 (Value.ref hp.objs.size)))) (by rw[hx];trivial) (.inl rfl)
  (λb o n k=>by rw[zT _ _ (Ne.symm n)];exact zQ _ k) ⟨_,he2⟩ (Wh ⟨_,he2⟩)
 rw[ZD9 hx]at J;exact⟨.non,H1,J,rfl,q⟩
end
noncomputable def Ly:List j5->Bool
 |[.type a,.type b,.type c,.type d]=>a == "ValueError"&&b == "Exception"&&c == "BaseException"&&d == "object"
 |.ref _::r=>Ly r
 |_=>xH
theorem ZDD{a b c d:String}(e:Ly [.type a,.type b,.type c,.type d]=xG): [Value.type a,.type b,.type c,.type d]=vmro:=by
 simp only[Ly,zY,beq_iff_eq]at e;obtain⟨⟨⟨rfl,rfl⟩,rfl⟩,rfl⟩:=e
 rfl
theorem ZAn(self:j5):∀{l:List j5},Ly l=xG->refuseLoop self "__setattr__" l=pure ()
 |[.type a,.type b,.type c,.type d],e=>by rw[ZDD e];exact PySem.F.store_ValueError.passes self
 |.ref c::r,e=>by rw[refuseLoop_ref];exact ZAn self (l:=r) e
theorem ZB5:∀{l:List j5},Ly l=xG->l.contains (.type "object")=xG
 |[.type a,.type b,.type c,.type d],e=>by rw[ZDD e];simp
 |.ref c::r,e=>by rw[List.contains_cons,ZB5 (l:=r) e,Bool.or_true]
def T5(K:PySem.W.Frag)(C:jx):Bool:=(PySem.W.clsIn K C).any λcd=>Ly cd.mro
section
open PySem.W
variable{prog:j1}{w:j6}{A:jv}{s:j3}{K:xB}{x C:jx}{R:Result->j3->Prop}
theorem ZKO{ox:Obj}{od:Option Obj}{name:Str}{tk:Tok}{v:j5}{r:Option j5}(X:K.In s.heap)(I:InstAt s.heap x ox C od)(hp:T5 K C=xG)(ht:takerIn K C name=xE r)
  (h:∀b,xJ (jS prog w) A.in1 (match r with |some a=>Builtin.ObjectAttr.setByDescriptor a (.ref x) v|none=>Builtin.ObjectAttr.storeInOwnDict (.ref x) (.ref C) (.str name tk) name v b)
   (λfin s'=>match fin with | .done f=>R (.ok f) s' | .again c'=>c'.quiet=xG/\codeAny (jS prog w) A c' R s') (λe s'=>R (.error e) s') s):
  codeAny (jS prog w) A (.call (.builtin "object.__setattr__") ⟨[.ref x,.str name tk,v],[]⟩) R s:=by
 obtain⟨cd,hcd,hve⟩:=any_some hp;obtain⟨at0,hat,htr⟩:=Option.bind_eq_some_iff.mp ht;have full:cd.mro≠[]:=λz=>by rw[z]at hve;cases hve
 have top:mroIn K C (.type "object")=xE xG:=by unfold mroIn;rw[hcd];show(if cd.mro.isEmpty=xG then _ else _)=_;rw[if_neg (by simpa using full),ZB5 hve]
 have line:Looks (jS prog w) s.heap (mroOf (.ref C)) cd.mro:=(looks_clsIn X hcd).andThen Looks.now;have obj:Looks (jS prog w) s.heap (isInstance (.ref x) (.type "object")) xG:=I.type.andThen (looks_mroIn X top);have tk3:Looks (jS prog w) s.heap (Builtin.ObjectAttr.storeTaker? at0) r:=by
  rcases at0 with _|av
  ·cases htr;exact Looks.now
  ·obtain⟨bb,h1,h2⟩:=z8.mp htr;subst h2
   exact(looks_takesIn X h1).andThen (by cases bb<;>exact Looks.now)
 refine codeAny_call_builtin F.store_object.slot.plain F.store_object.entry (@check_slot (jS prog w) _ _ _ "object.__setattr__" "object" "__setattr__" (.ref x) [.str name tk,v] [] _ F.store_object.kind F.store_object.split obj (F.store_object.args (.ref x) (.str name tk) v) ?_);rw[osa_eq,refuse_eq];apply xV;apply xV;refine I.type.here ?_;apply xV;refine line.here ?_;rw[ZAn _ hve]
 apply xy;apply xV;refine I.type.here ?_;apply xV;refine(looks_findIn X hat).here ?_;apply xV;exact tk3.here (h _)
end
section
variable{prog:j1}{w:j6}{A:jv}{E:j5->j3->Prop}{s:j3}{K:PySem.W.Frag}{e C t:jx}{name:Str}{v:j5}
theorem ZJq{Q:Unit->j3->Prop}(X:K.In s.heap)(he:s.heap.get? e=xE (exO C xF t))
  (hs:PySem.W.findIn K (.ref C) "__setattr__"=xE (xE (.builtin "object.__setattr__"))) (hp:T5 K C=xG) (ht:PySem.W.takerIn K C name=xE xF) (hh:PySem.W.hasDictIn K C=xG)
  (h:∀h' dx tk,s.heap.objs.size<=dx->h'.get? e=xE (exO C (xE dx) t)->h'.Ns1 dx (λy=>if y=name then xE v else xF)->(∀b o,b≠e->s.heap.get? b=xE o->h'.get? b=xE o)->Q () {s with heap:=h',toks:=tk}):
  xJ (jS prog w) A (setAttr (.ref e) name v) Q E s:=by
 have J:PySem.W.InstAt s.heap e (exO C xF t) C xF:=⟨he,rfl,rfl,trivial⟩;refine PySem.W.set_plain X J hs (ZKO (s:={s with toks:=s.toks+1}) (r:=xF) X J hp ht λb=>?_);obtain⟨cd,hc,hd'⟩:=PySem.W.any_some hh;refine xV (xy (xV (xV (wpAny_loadPart he (xV (PySem.W.Looks.here (s:={s with toks:=s.toks+1}) (PySem.W.looks_clsIn X hc) ?_))))));rw[hd'];have hx1:(s.heap.push {cls:=.type "dict",data:=.dict #[]}).get? e=xE (exO C xF t):=zQ _ he
 have ne:e≠s.heap.objs.size:=zC (zV he);refine xV (wpAny_alloc' ?_);refine xV (wpAny_update' hx1 ?_);unfold dictMade;refine xy ?_;have hgd:((s.heap.push {cls:=.type "dict",data:=.dict #[]}).update e λo=>{cls:=o.cls,dict:=xE s.heap.objs.size,data:=o.data,slots:=o.slots}).get? s.heap.objs.size=xE {cls:=.type "dict",data:=.dict #[]}:=
  (Heap.get?_update_ne _ _ _ _ ne.symm).trans (Heap.get?_push_at rfl rfl)
 have hnd:((s.heap.push {cls:=.type "dict",data:=.dict #[]}).update e λo=>{cls:=o.cls,dict:=xE s.heap.objs.size,data:=o.data,slots:=o.slots}).Ns s.heap.objs.size (λ_=>xF):=
  ⟨_,#[],_,hgd,rfl,λy hy=>absurd hy (by simp),λ_=>rfl⟩
 show xJ _ _ (Builtin.ObjectAttr.storeInDict s.heap.objs.size _ name v) _ _ _;unfold Builtin.ObjectAttr.storeInDict Builtin.ObjectAttr.newKeyGuard;refine xV (xy (xV (wpAny_nsSet1 (Heap.Ns1.of_empty hnd) λh' hn' hs'=>?_)));obtain⟨oD,esD,epD,hoD,hdD,hcD⟩:=hn'.count (Within.cons name v Within.nil);refine xV (wpAny_lookBehind hoD (by rw[hdD];exact pastItsLine_dict (z0 hcD (by rw[qw,List.length_nil,sizeLine_eq];lia))) ?_)
 refine xy (h h' s.heap.objs.size _ (zK _) ?_ hn' λb o n hb=>?_)
 ·exact(hs'.2 e ne).trans (qQ _ hx1 rfl)
 ·exact(hs'.2 b (zC (zV hb))).trans ((Heap.get?_update_ne _ _ _ _ n).trans (zQ _ hb))
end
structure XSet (K:PySem.W.Frag) (C:jx) (f:Str):Prop where
 ec:Jk K C=xG
 sa:PySem.W.findIn K (.ref C) "__setattr__"=xE (xE (.builtin "object.__setattr__"))
 po:T5 K C=xG
 tk:PySem.W.takerIn K C f=xE xF
 hd:PySem.W.hasDictIn K C=xG
section
variable{X:Cx}{C:jx}{f:Str}{o value:jk}{pos pos':Pos}{ta tv:TE}
def sXf(C:jx)(f:Str)(ta tv:TE):TS:=λD σ H=>tv σ H λy H1=>ta σ H1 λx H2=>∃e,x=.ref e/\H2 e=xE (.ext (exo e C xF))/\
 ∀dx o,H2 dx=xF->dx≠e->D.nx σ (upd (upd H2 e (.ext (exo e C (xE dx)))) dx (.frz o (.xd [(f,y)])))
theorem ZD3(S:XSet X.K C f)(ha:PE X o ta)(hv:PE X value tv)(hs:swapsWith value (xE (.Attribute o f pos')) pos.line X.env=pure xH):PS X (.Assign [.Attribute o f pos'] value pos) (sXf C f ta tv):=by
 intro xD s σ H D I h;refine plainObj_wpAny_Assign_Attribute (thn (hv xD s σ H _ I h) λu s1 ⟨y,H1,I1,ry,q⟩=>thn (ha xD s1 σ H1 _ I1 q) λov s2 ⟨x,H2,I2,rx,e,ex,hx,q2⟩=>?_) hs;subst ex;obtain rfl:ov=Value.ref e:=rx;obtain⟨⟨t,hob⟩,_,_⟩:=I2.hok e _ hx;refine ZJq I2.kIn hob S.sa S.po S.tk S.hd λh' dx tk hz he' hn kp=>?_
 have fx:H2 dx=xF:=I2.hok.fresh hz;have ne:dx≠e:=λz=>by rw[z,hx]at fx;cases fx
 obtain⟨od,hod⟩:∃od,h'.get? dx=xE od:=by obtain⟨o,_,_,k,_⟩:=hn;exact⟨o,k⟩
 have J:=I2.write (t':=tk) (x:=e) (e:=e) (o:=.ext (exo e C (xE dx))) (h':=h') (by rw[hx];trivial) (.inl rfl) (λb o n k=>kp b o n k) ⟨_,he'⟩ (Wh ⟨t,he'⟩);have fx':upd H2 e (.ext (exo e C (xE dx))) dx=xF:=by unfold upd;rw[if_neg ne];exact fx
 have K2:HOk X.prog X.w (upd (upd H2 e (.ext (exo e C (xE dx)))) dx (.frz od (.xd [(f,y)]))) h':=λb ob z=>by
  by_cases zb:b=dx
  ·subst zb;have zo:ob=.frz od (.xd [(f,y)]):=by
    have z':upd (upd H2 e (.ext (exo e C (xE b)))) b (.frz od (.xd [(f,y)])) b=xE (.frz od (.xd [(f,y)])):=by unfold upd;rw[if_pos rfl]
    rw[z']at z;exact(Option.some.inj z).symm
   subst zo;refine⟨hod,_,hn,λg=>?_⟩;by_cases zg:g=f
   ·subst zg;simp[jX];exact ry
   ·have:(g==f)=xH:=by simpa using zg
    simp[jX,this,zg]
    trivial
  ·have z':upd H2 e (.ext (exo e C (xE dx))) b=xE ob:=by unfold upd at z⊢;rw[if_neg zb]at z;exact z
   refine(J.hok b ob z').stay (λ_ _ _ k=>k) (λb' k=>?_) λb' xs k=>?_
   ·have:b'≠dx:=λw=>by rw[w,fx']at k;cases k
    show upd _ dx _ b'=_;unfold upd at k⊢;rw[if_neg this];exact k
   ·have:b'≠dx:=λw=>by rw[w,fx']at k;cases k
    show upd _ dx _ b'=_;unfold upd at k⊢;rw[if_neg this];exact k
 have ud:∀b,b≠e->b≠dx->upd (upd H2 e (.ext (exo e C (xE dx)))) dx (.frz od (.xd [(f,y)])) b=H2 b:=λb n1 n2=>by unfold upd;rw[if_neg n2,if_neg n1]
 have U:Un X.fs [] H2 (upd (upd H2 e (.ext (exo e C (xE dx)))) dx (.frz od (.xd [(f,y)]))) s2.heap h':=by
  have nd:∀b o,s2.heap.get? b=xE o->b≠dx:=λb o k z=>by have:=zV k;rw[z]at this;exact absurd this (Nat.not_lt.mpr hz)
  have n0:∀b,H2 b=xF->b≠e:=λb k z=>by rw[z,hx]at k;cases k
  refine⟨λb o k n _ _=>kp b o (n0 b n) k,λb o k n _ _=>⟨o.slots,kp b o (n0 b n) k⟩,λb o k n _=>by rw[ud b (n0 b n) (nd b o k)];exact n,λb o k _=>?_,λb xs k=>?_,λb o u k=>?_,λb ps k=>⟨#[],?_⟩⟩
  ·by_cases z:b=e
   ·subst z;exact⟨_,he'⟩
   ·exact⟨o,kp b o z k⟩
  ·rw[ud b (λz=>by rw[z,hx]at k;cases k) (λz=>by rw[z,fx]at k;cases k)];exact k
  ·rw[ud b (λz=>by rw[z,hx]at k;cases k) (λz=>by rw[z,fx]at k;cases k)];exact k
  ·rw[ud b (λz=>by rw[z,hx]at k;cases k) (λz=>by rw[z,fx]at k;cases k)];simpa using k
 exact⟨σ,_,I2.un (t':=tk) U K2,q2 dx od fx ne⟩
end
def intS(i:Int):Prop:=i.natAbs.log2<1920/\(Str.ofString (toString i)).length<=1000
def V0(w:V):Prop:=(∃i:Int,w=.int i/\intS i)∨w=.non
section
variable{X:Cx}{j:Nat}{v s1 s2:Str}{k1 k2 p1 p2 pv pf pos}
noncomputable def tFs(j:Nat):TE:=λσ H Q=>∃w:V,σ[j]?=xE (xE w)/\V0 w/\∀x,Q (.str x) H
theorem ZGD(hN:X.N[j]?=xE v)(hv:Vis X.env.scope v)(l1:s1.length<=1000)(l2:s2.length<=1000)(hd:(v==("__debug__":Str))=xH:=by decide)(hcd:(v==("__classdict__":Str))=xH:=by decide):
  PE X (.JoinedStr [.Constant (.str s1) k1 p1,.FormattedValue (.Name v pv) (-1) xF pf,.Constant (.str s2) k2 p2] pos) (tFs j):=by
 intro xD s σ H Q I h;obtain⟨w,hσ,hw,q⟩:=h;have la:∀a b:Str,(a++b).length=a.length+b.length:=λa b=>by show(Str.append a b).length=_;unfold Str.append Str.length;simp
 have sz:∀n,n<=1000000->n<=sizeLine:=λn h=>by rw[sizeLine_eq];lia
 refine JoinedStr_many (joinParts_cons (thn (Ss (X:=X) xD s σ H (λx H'=>x=.str s1/\H'=H) I ⟨rfl,rfl⟩) λu s1' h1=>?_));obtain⟨x,H1,I1,rx,rfl,rfl⟩:=h1;obtain⟨t0,rfl⟩:=rx;refine⟨sz _ (by rw[la];show 0+_<=_;lia),?_⟩;refine joinParts_cons (FormattedValue_plain (thn (O6 (pos:=pv) hN hv hd hcd xD s1' σ H1 (λx H'=>x=w/\H'=H1) I1 ?_) λu s2' h1=>?_))
 ·exact⟨w,hσ,rfl,rfl⟩
 obtain⟨x,H2,I2,rx,rfl,rfl⟩:=h1;rcases hw with⟨i,rfl,hi,ls⟩|rfl
 ·obtain⟨t1,rfl⟩:=rx;refine formatField_int_small hi ⟨sz _ (by rw[la,la];show 0+_+_<=_;lia),?_⟩;refine joinParts_consE (joinParts_cons (thn (Ss (X:=X) xD _ σ H2 (λx H'=>x=.str s2/\H'=H2) (I2.tok _) ⟨rfl,rfl⟩) λu s3' h1=>?_));obtain⟨x,H3,I3,rx,rfl,rfl⟩:=h1;obtain⟨t2,rfl⟩:=rx;refine⟨sz _ (by rw[la,la,la];show 0+_+_+_<=_;lia),?_⟩;exact joinParts_nilE (joinParts_nil ⟨.str _,H3,I3.tok _,⟨_,rfl⟩,q _⟩ (sz _ (by rw[la,la,la];show 0+_+_+_<=_;lia)))
 ·cases(show u=Value.none from rx)
  have ls:(Str.ofString "None").length<=1000:=by decide
  refine wpAny_formatField_none ⟨sz _ (by rw[la,la];show 0+_+_<=_;lia),?_⟩;refine joinParts_consE (joinParts_cons (thn (Ss (X:=X) xD _ σ H2 (λx H'=>x=.str s2/\H'=H2) (I2.tok _) ⟨rfl,rfl⟩) λu s3' h1=>?_));obtain⟨x,H3,I3,rx,rfl,rfl⟩:=h1;obtain⟨t2,rfl⟩:=rx;refine⟨sz _ (by rw[la,la,la];show 0+_+_+_<=_;lia),?_⟩;exact joinParts_nilE (joinParts_nil ⟨.str _,H3,I3.tok _,⟨_,rfl⟩,q _⟩ (sz _ (by rw[la,la,la];show 0+_+_+_<=_;lia)))
end
def spI(C:jx)(f:Str):Sp:=λvs H Q _=>∃(e:jx)(i:V),vs=[.ref e,i]/\V0 i/\H e=xE (.ext (exo e C xF))/\∀dx o,H dx=xF->dx≠e->Q .non (upd (upd H e (.ext (exo e C (xE dx)))) dx (.frz o (.xd [(f,i)])))
structure XBase (K:PySem.W.Frag) (mg:Str->Option j5) (x:Str) (W:jx):Prop where
 m:mg x=xE (.ref W)
 s:PySem.W.specialIn K (.ref W) "__getattribute__"=xE (xE (.builtin "type.__getattribute__"))
 r:PySem.W.readsIn K W (.type "type")=xG
 f:PySem.W.findCls K (.ref W) (.type "type") "__init__"=xE (.val (.builtin "ValueError.__init__"))
theorem ZJm{K:PySem.W.Frag}{x xw v f s1 s2:Str}{fa W:jx}{pw pa pc pe p1 p2 p3 p4 p5 p6 p7 p8 pv pf:Pos}{k1 k2}
  (F:Fun K x qual st fa fd) (S:FnScope ["self",v] ["self",v] (Aw st)) (XS:XSet K C f) (XB:XBase K mg xw W)
  (hb:Eh st=[.Expr (.Call (.Attribute (.Name xw pw) "__init__" pa) [.Name "self" p1,.JoinedStr [.Constant (.str s1) k1 p2,.FormattedValue (.Name v pv) (-1) xF pf,.Constant (.str s2) k2 p3] p4] [] pc) pe,.Assign [.Attribute (.Name "self" p5) f p6] (.Name v p8) p7])
  (l1:s1.length<=1000) (l2:s2.length<=1000) (hgl:(Aw st).names.lookup xw=xE .globalImplicit) (hdw:(xw==("__debug__":Str))=xH) (hdv:(v==("__debug__":Str))=xH) (hcv:(v==("__classdict__":Str))=xH)
  (hvs:Vis (Aw st) "self") (hvv:Vis (Aw st) v)
  (hev:∀env:Env,∃pl:Sem Bool,eval (.Call (.Attribute (.Name xw pw) "__init__" pa) [.Name "self" p1,.JoinedStr [.Constant (.str s1) k1 p2,.FormattedValue (.Name v pv) (-1) xF pf,.Constant (.str s2) k2 p3] p4] [] pc) env=(do
   let ov<-eval (.Name xw pw) env
   standAt pa.atName
   let(f,first)<-holding [ov] (getMethod ov "__init__" pl)
   callWith pc f first (j9 pc (xQ [.Name "self" p1,.JoinedStr [.Constant (.str s1) k1 p2,.FormattedValue (.Name v pv) (-1) xF pf,.Constant (.str s2) k2 p3] p4] env)) (backToKw pc (keywordEach [] env)))):
  FnOk P w K mg base CX0 (k+1) fa fd ["self",v] (spI C f):=by
 refine F.ok S (λvs H Q E ⟨e,i,z,_⟩=>by rw[z];rfl) (λcdv A outer s H vs Q E hr h=>?_);obtain⟨e,i,rfl,hi,hx,q⟩:=h;rw[hb];generalize hX:(Fy CX0 P w K mg base ["self",v] qual (Aw st) fa cdv A outer s H E).nox=X;have hK:X.K=K:=by rw[<-hX];rfl
 have hm:X.mg=mg:=by rw[<-hX];rfl
 have hN:X.N=(["self",v]:List Str):=by rw[<-hX];rfl
 have hs:X.env.scope=Aw st:=by rw[<-hX];rfl
 have pself:∀p,PE X (.Name "self" p) (K3 0):=λp=>O6 (by rw[hN];rfl) (by rw[hs];exact hvs) (by decide) (by decide)
 have pv':∀p,PE X (.Name v p) (K3 1):=λp=>O6 (by rw[hN];rfl) (by rw[hs];exact hvv) hdv hcv
 have hG:Gl X xw:=by unfold Gl;rw[<-hX];exact hgl
 obtain⟨pl,hpl⟩:=hev X.env;have c1:PE X (.Call (.Attribute (.Name xw pw) "__init__" pa) [.Name "self" p1,.JoinedStr [.Constant (.str s1) k1 p2,.FormattedValue (.Name v pv) (-1) xF pf,.Constant (.str s2) k2 p3] p4] [] pc) (tBI C (Xg (K3 0) (Xg (tFs 1) tNil))):=
  ZIa (mc:=.type "type") (W:=W) (by rw[hK];exact XS.ec) hG (by rw[hm];exact XB.m) (by rw[hK];exact XB.s) (by rw[hK];exact XB.r) (by rw[hK];exact XB.f) (Ml (pself p1) (Ml (ZGD (by rw[hN];rfl) (by rw[hs];exact hvv) l1 l2 hdv hcv) Y8)) hdw rfl rfl hpl
 have c2:PS X (.Assign [.Attribute (.Name "self" p5) f p6] (.Name v p8) p7) (sXf C f (K3 0) (K3 1)):=ZD3 (by rw[hK];exact XS) (pself p5) (pv' p8) rfl;refine⟨_,ZAg (ZDg c1 rfl) (ZDH c2),?_⟩;refine⟨.ref e,rfl,i,rfl,hi,λxx=>⟨e,_,rfl,hx,?_⟩⟩;exact⟨i,rfl,.ref e,rfl,e,rfl,hx,q⟩
section
variable{M:Model}{A:jv}{E:j5->j3->Prop}{env:Env}
variable{nm q:Str}{C N:jx}{bs bm:List j5}{hdct:Bool}{sn:List Str}{sub:List j5}{ab:Bool}{col:Option Bool}{dd:Option jx}{k0 k1 k2 k3 k5:Option j5}{newId:String}
theorem ZIS{x:Sem j5}{Q:Flow->j3->Prop}(hh:A.handled=xF)
  (h:xJ M A x (λv s₁=>∃e od t bm N nm q bs hdct sn sub ab col dd k0 k1 k2 k3 k5 newId,v=.ref e/\s₁.heap.get? C=xE (excClassObj nm q C N bs bm hdct sn sub ab col dd k0 k1 k2 k3 k5 newId)/\bm.contains (.type "BaseException")=xG/\
   s₁.heap.get? e=xE {cls:=.ref C,dict:=od,data:=.fields #[.ref t,.none,.none,.none,.bool xH,.none]}/\E (.ref e) s₁) E s):xJ M A (raiseStmt env (xE x) xF) Q E s:=by
 unfold raiseStmt;refine xV (xz h (λv s₁ h₁=>?_) λ_ _ x=>x);obtain⟨e,od,t,bm,N,nm,q,bs,hdct,sn,sub,ab,col,dd,k0,k1,k2,k3,k5,newId,rfl,hC,hb,he,hE⟩:=h₁;have hcB:(Value.ref C::bm).contains (.type "BaseException")=xG:=by rw[List.contains_cons,hb,Bool.or_true]
 obtain⟨hp,g,d,tk,os⟩:=s₁
 repeat (first|with_reducible refine wpAny_loadPart_at he ?_|with_reducible refine wpAny_loadPart_at hC ?_|(with_reducible refine wpAny_isSubtype_exc hC ?_;rw[hcB])|wp_step)
 exact wpAny_raiseNew_none hh hE
theorem ZFU{x:jk}{pos:Pos}{Q:Flow->j3->Prop}(hh:A.handled=xF)
  (h:xJ M A (eval x env) (λv s₁=>∃e od t bm N nm q bs hdct sn sub ab col dd k0 k1 k2 k3 k5 newId,v=.ref e/\s₁.heap.get? C=xE (excClassObj nm q C N bs bm hdct sn sub ab col dd k0 k1 k2 k3 k5 newId)/\bm.contains (.type "BaseException")=xG/\
   s₁.heap.get? e=xE {cls:=.ref C,dict:=od,data:=.fields #[.ref t,.none,.none,.none,.bool xH,.none]}/\E (.ref e) s₁) E s):xJ M A (exec (.Raise (xE x) xF pos) env) Q E s:=by
 rw[arm_exec_Raise];refine xV (wpAny_standAt (ZIS (C:=C) hh ?_));exact xV (xz h (λv s₃ h₃=>xV (wpAny_standAt (xy h₃))) λ_ _ x=>x)
end
section
variable{X:Cx}{C fI:jx}{f x:Str}{np cpos pos:Pos}{a:jk}{ta:TA}{E:XK}{k:Nat}{fd:jy}{v:Str}
def tRz(C:jx)(f:Str)(E:XK)(ta:TA):TS:=λ_ σ H=>ta σ H λvs H1=>∃i:V,vs=[i]/\V0 i/\∀dx o,H1 dx=xF->E (.ref C) (xE dx) (upd H1 dx (.frz o (.xd [(f,i)])))
theorem ZHj(hcalm:X.calm=xG)(hs:X.stack=X.env::X.outer)(hex:X.ex=[])(hfr:X.env.frame=xE X.env.locals)(hxe:∀e s,Ol X E e s->X.xe e s)
  (XS:XSet X.K C f) (hi:Jr X.K C fI=xG) (hfn:∃o,X.K.lookup fI=xE o/\o.cls=.type "function") (F:FnOk X.prog X.w X.K X.mg X.base CX0 k fI fd ["self",v] (spI C f)) (hr:Room (k+1) X.A) (hb:Binds X.K fd ["self",v] [])
  (hg:Gl X x) (hm:X.mg x=xE (.ref C)) (hk:PySem.W.keepIn X.K (.ref C)=xG) (ha:PA X [a] ta) (hdb:(x==("__debug__":Str))=xH:=by decide)
  (he:xQ [a] X.env=(xH,eval a X.env)::xQ [] X.env:=by rfl) (hpl:(j9 cpos (xQ [] X.env)).any (·.1)=xH:=by rfl):
  PS X (.Raise (xE (.Call (.Name x np) [a] [] cpos)) xF pos) (tRz C f E ta):=by
 intro xD s σ H D I h;refine ZFU (C:=C) (I.ok.hd hcalm) ?_;refine xX (Lj I hg hm ?_ hdb);refine PySem.W.callWith_K (h₀:=X.base) I.ok.mod.kin hk (thn (ha cpos xD s σ H _ I h) λus s1 ⟨vs,H1,I1,r,i,ev,hi',q⟩=>⟨I1.kIn,?_⟩) he hpl;subst ev;obtain⟨bm,N,nm,qn,bs,sn,sub,ab,col,dd,k0,k1,k2,k3,k5,hcl,T,m,hN,hin⟩:=Le I1.kIn XS.ec;obtain⟨oI,hfI,hfc⟩:=hfn;have hfI:=I1.kIn _ _ hfI;have hl1:us.length<=sizeLine:=by rw[<-r.length,sizeLine_eq];show 1<=_;decide
 obtain⟨hp,g,d,tk,os⟩:=s1;have FB:=PySem.F.excBase_ValueError;refine ZHF FB T hcl hN (hin fI hi) hfI hfc (λh' e hm' hz=>?_) hl1;obtain⟨t,ht,_,_⟩:=hm'.there;have ho:exo e C xF h':=⟨t,ht⟩;have I2:=I1.laid (t':=tk) (a:=e) (o:=.ext (exo e C xF)) (h':=h') hm'.keeps hz (Wh ho);have fe:H1 e=xF:=I1.hok.fresh hz;obtain⟨u,rfl⟩:∃u,us=[u]:=by
  cases r with
  |cons r1 r2=>cases r2;exact⟨_,rfl⟩
 have r2:Vals [V.ref e,i] [Value.ref e,u]:=.cons rfl r;have h2e:upd H1 e (.ext (exo e C xF)) e=xE (.ext (exo e C xF)):=by unfold upd;rw[if_pos rfl]
 have h2n:∀b,b≠e->upd H1 e (.ext (exo e C xF)) b=H1 b:=λb n=>by unfold upd;rw[if_neg n]
 refine wpAny_call (jE (F.run _ X.stack _ _ ⟨[Value.ref e,u],[]⟩ [Value.ref e,u] [V.ref e,i] (λw H3=>w=.non/\∃dx o,H1 dx=xF/\dx≠e/\H3=upd (upd (upd H1 e (.ext (exo e C xF))) e (.ext (exo e C (xE dx)))) dx (.frz o (.xd [(f,i)]))) E0 (hr.make C [u] [])
  (I2.env0.make C [u] []) (by simpa using hb _ [Value.ref e,u] I2.kIn rfl) r2 ⟨e,i,rfl,hi',h2e,λdx o n1 n2=>⟨rfl,dx,o,by rw[<-h2n dx n2];exact n1,n2,rfl⟩⟩) λr s' hq'=>?_)
 cases r with
 |error e=>exact hq'.elim
 | ok fl=>
  cases fl with
  |next=>exact False.elim hq'
  |brk=>exact False.elim hq'
  |cont=>exact False.elim hq'
  | ret w=>
   obtain⟨_,_,I3,_⟩:=I2.after hq';obtain⟨vw,H3,os',bare',un,hok,rw',rfl,dx,o,nd,ne,rfl⟩:=hq';refine⟨rw',?_⟩;have hd3:∀b,b≠e->upd (upd (upd H1 e (.ext (exo e C xF))) e (.ext (exo e C (xE dx)))) dx (.frz o (.xd [(f,i)])) b=upd H1 dx (.frz o (.xd [(f,i)])) b:=λb n=>by
    unfold upd;split
    ·rfl
    ·simp[n]
   have he3:upd (upd (upd H1 e (.ext (exo e C xF))) e (.ext (exo e C (xE dx)))) dx (.frz o (.xd [(f,i)])) e=xE (.ext (exo e C (xE dx))):=by unfold upd;rw[if_neg (Ne.symm ne),if_pos rfl]
   have feN:upd H1 dx (.frz o (.xd [(f,i)])) e=xF:=by unfold upd;rw[if_neg (Ne.symm ne)];exact fe
   obtain⟨⟨t',ht'⟩,_,_⟩:=hok e _ he3;obtain⟨bm',N',nm',qn',bs',sn',sub',ab',col',dd',l0,l1,l2,l3,l5,hcl',T',_⟩:=Le I3.kIn XS.ec;have ne':∀b o,hp.get? b=xE o->b≠e:=λb o k z=>by rw[z,hm'.new]at k;cases k
   have mk:Made X H1 ⟨hp,g,d,tk,os⟩ e (.ref C) (xE dx) s' (upd H1 dx (.frz o (.xd [(f,i)]))):=by
    refine⟨os',bare',⟨λb o k n hb hx=>un.keep b o (hm'.keeps b o k) (by rw[h2n b (ne' b o k)];exact n) hb hx,λb o k n hb hx=>un.slot b o (hm'.keeps b o k) (by rw[h2n b (ne' b o k)];exact n) hb hx,λb o k n hx=>?_,λb o k hx=>un.there b o (hm'.keeps b o k) hx,λb xs k=>?_,λb o u k=>?_,λb ps k=>?_⟩,λb ob z=>?_,⟨_,_,ht',rfl,rfl,rfl,rfl⟩,feN,hm'.new⟩
    ·rw[<-hd3 b (ne' b o k)];exact un.free b o (hm'.keeps b o k) (by rw[h2n b (ne' b o k)];exact n) hx
    ·have nb:b≠e:=λz=>by rw[z,fe]at k;cases k
     rw[<-hd3 b nb];exact un.tups b xs (by rw[h2n b nb];exact k)
    ·have nb:b≠e:=λz=>by rw[z,fe]at k;cases k
     rw[<-hd3 b nb];exact un.frzs b o u (by rw[h2n b nb];exact k)
    ·have nb:b≠e:=λz=>by rw[z,fe]at k;cases k
     rw[<-hd3 b nb];exact un.tbls b ps (by rw[h2n b nb];exact k)
    ·have nb:b≠e:=λz'=>by rw[z',feN]at z;cases z
     rw[<-hd3 b nb]at z;refine(hok b ob z).stay (λ_ _ _ k=>k) (λb' k=>?_) λb' xs k=>?_
     ·rw[<-hd3 b' (λz'=>by rw[z',he3]at k;cases k)];exact k
     ·rw[<-hd3 b' (λz'=>by rw[z',he3]at k;cases k)];exact k
   exact⟨e,xE dx,t',bm',N',nm',qn',bs',xG,sn',sub',ab',col',dd',l0,l1,l2,l3,l5,_,rfl,hcl',T'.hasType FB.hasBase,ht',hxe _ _ (ZHV hs hex hfr I1 mk (q dx o nd) ⟨C,rfl⟩)⟩
end
section
variable{X:Cx}{xD:List (jx×Obj)}{σ:St}{H H':Hp}{s s':j3}{B h'':Heap}{ea:jx}{cls:j5}{od:Option jx}{E:XK}{fl:j5}
theorem ZEy(I:Inv X xD σ H s)(os:s'.os=s.os)(bare:AllBare s'.gens)(un:Un (frs X.stack) [] H H' s.heap s'.heap)(hok:HOk X.prog X.w H' s'.heap)
  (bb:∀b o,s.heap.get? b=xE o->H b=xF->b∉frs X.stack->B.get? b=xE o) (al:∀b,H' b≠xF->∃o,B.get? b=xE o) (eb:B.get? ea=xF) (st:B.StaysIn s'.heap) (new:s.heap.get? ea=xF)
  (n:Noted B X.stack ea cls od fl s'.heap h''):∃oe vs,h''.get? ea=xE oe/\oe.cls=cls/\oe.dict=od/\oe.data=.fields vs/\H' ea=xF/\Inv X xD σ (upd H' ea (.frz oe (.own 0))) {s' with heap:=h''}:=by
 obtain⟨oe,vs,T,oT,ts,he,⟨hc,hd⟩,hda,_⟩:=n.tr;have fe:H' ea=xF:=by
  cases z:H' ea with
  |none=>rfl
  |some u=>
   obtain⟨o,k⟩:=al ea (by rw[z];simp);rw[eb]at k;cases k
 have ud:∀b,b≠ea->upd H' ea (.frz oe (.own 0)) b=H' b:=λb k=>by unfold upd;rw[if_neg k]
 have ns:∀b o,s.heap.get? b=xE o->b≠ea:=λb o k z=>by rw[z,new]at k;cases k
 have hk:=ZDX hok al st n.st;refine⟨oe,vs,he,hc,hd,hda,fe,I.call' (ch:=[]) os ⟨λb o q hn hb _=>n.st b o (bb b o q hn hb),λb o q hn hb _=>?_,λb o q hn hx=>?_,λb o q hx=>?_,λb xs q=>?_,λb o u q=>?_,λb ps q=>?_⟩ (λb ob z=>?_) bare λb z=>absurd z (by simp)⟩
 ·obtain⟨sl,k⟩:=un.slot b o q hn hb (by simp);obtain⟨_,o2,k2,nf⟩:=I.stack.mem hb;rw[q]at k2;cases k2;obtain⟨sl',k3⟩:=n.up b _ k nf;exact⟨sl',k3⟩
 ·rw[ud b (ns b o q)];exact un.free b o q hn hx
 ·obtain⟨o1,k1⟩:=un.there b o q hx;exact n.th b o1 k1
 ·have:=un.tups b xs q;rw[ud b (λz=>by rw[z,fe]at this;cases this)];exact this
 ·have:=un.frzs b o u q;rw[ud b (λz=>by rw[z,fe]at this;cases this)];exact this
 ·obtain⟨m,this⟩:=un.tbls b ps q;exact⟨m,by rw[ud b (λz=>by rw[z,fe]at this;cases this)];exact this⟩
 ·by_cases zb:b=ea
  ·subst zb;have zo:ob=.frz oe (.own 0):=by unfold upd at z;rw[if_pos rfl]at z;exact(Option.some.inj z).symm
   subst zo;exact⟨he,oe,he⟩
  ·rw[ud b zb]at z;refine(hk b ob z).stay (λ_ _ _ k=>k) (λb' k=>?_) λb' xs k=>?_
   ·rw[ud b' (λz'=>by rw[z',fe]at k;cases k)];exact k
   ·rw[ud b' (λz'=>by rw[z',fe]at k;cases k)];exact k
theorem lands(hs:X.stack=X.env::X.outer)(hfr:X.env.frame=xE X.env.locals)(I:Inv X xD σ H s){e:j5}(h:CXx X.prog X.w X.stack H s E e s'){Q:Unit->j3->Prop}{E':j5->j3->Prop}
  (q:∀(ea:jx)(C:j5)(od:Option jx)(H':Hp)(oe:Obj)(vs:Array j5)(h'':Heap),e=.ref ea->h''.get? ea=xE oe->oe.cls=C->oe.dict=od->oe.data=.fields vs->E C od H'->H' ea=xF->Inv X xD σ (upd H' ea (.frz oe (.own 0))) {s' with heap:=h''}->
   (∃B:Heap,Trc h'' B ea C od .none)->(∃C',C=.ref C')->Q () {s' with heap:=h''}):
  xJ (jS X.prog X.w) X.A (noteFrame e X.env) (λ_ s2=>xJ (jS X.prog X.w) X.A (setFlight e xF) Q E' s2) E' s':=by
 obtain⟨ea,cls,od,H',B,rfl,os,bare,un,hok,fly,bb,new,hE,hcC⟩:=h;have ff:=fly.fr;rw[hs]at ff;refine ZGm (B:=B) (L:=X.env.locals) (outer:=X.outer) (by rw[I.ok.frames,hs]) ff hfr fly.tr fly.st fly.eb λh1 n1=>?_
 refine Zw n1.fr n1.tr n1.st λh2 n2=>?_
 have n:=n1.trans n2;rw[<-hs]at n;obtain⟨oe,vs,he,hc,hd,hda,fe,J⟩:=ZEy I os bare un hok bb fly.al fly.eb fly.st new n;exact q ea cls od H' oe vs h2 rfl he hc hd hda hE fe J ⟨B,n.tr⟩ hcC
end
section
variable{M:Model}{A:jv}{E:j5->j3->Prop}{h:Heap}{g:Array GenState}{d:Drawn}{t:Nat}{os:OsState}
theorem ZJe{W e:jx}{oe:Obj}{b:Bool}{nm q:Str}{N:jx}{bs bm:List j5}{hdct:Bool}{sn:List Str}{sub:List j5}{ab:Bool}{col:Option Bool}{dd:Option jx}{k0 k1 k2 k3 k5:Option j5}{newId:String}
  {nm' q':Str} {N':jx} {bs' bm':List j5} {hdct':Bool} {sn':List Str} {sub':List j5} {ab':Bool} {col':Option Bool} {dd':Option jx} {l0 l1 l2 l3 l5:Option j5} {newId':String} {Q:Bool->j3->Prop}
  (hC:h.get? C=xE (excClassObj nm q C N bs bm hdct sn sub ab col dd k0 k1 k2 k3 k5 newId)) (hW:h.get? W=xE (excClassObj nm' q' W N' bs' bm' hdct' sn' sub' ab' col' dd' l0 l1 l2 l3 l5 newId')) (he:h.get? e=xE oe) (hc:oe.cls=.ref C)
  (hb:bm'.contains (.type "BaseException")=xG) (hin:(Value.ref C::bm).contains (.ref W)=b) (hq:Q b ⟨h,g,d,t,os⟩):xJ M A (excMatches (.ref e) (.ref W)) Q E ⟨h,g,d,t,os⟩:=by
 have hcB:(Value.ref W::bm').contains (.type "BaseException")=xG:=by rw[List.contains_cons,hb,Bool.or_true]
 have f:=tc_notTuple;unfold excMatches
 repeat (first|(with_reducible refine wpAny_loadPart_at he ?_;rw[hc])|with_reducible refine wpAny_loadPart_at hW ?_|(with_reducible refine wpAny_isSubtype_exc hW ?_;rw[hcB])|(with_reducible refine wpAny_isSubtype_exc hC ?_;rw[hin])|wp_step)
 cases b<;>(wp_walk;exact hq)
theorem ZIH{B:Heap}{e:jx}{Q:Unit->j3->Prop}(ht:Trc s.heap B e cls od .none)(q:∀h',(∀b o,s.heap.get? b=xE o->h'.get? b=xE o)->Q () {s with heap:=h'}):xJ M A (setFlight (.ref e) xF) Q E s:=by
 obtain⟨oe,vs,T,oT,ts,he,_,hd,h1,⟨nT,nTe⟩,hT,dT,h3⟩:=ht;unfold setFlight;refine xV (xY he hd h1 ?_)
 rw[if_pos (show(Value.ref T != Value.none)=xG from by simp)]
 refine wpAny_setField hT dT (zG.mp h3).1 (q _ λb o k=>?_);by_cases z:b=T
 ·subst z;rw[hT]at k;cases k;rw[qQ _ hT (Obj.isFreed_of_fields (Obj.data_mapFields dT _))];obtain⟨c,dd,dt,sl⟩:=oT;obtain rfl:dt=.fields ts:=dT;unfold Obj.mapFields;dsimp only
  congr 2
  have:ts.setIfInBounds 3 Value.none=ts:=by
   refine Array.ext_getElem? λi=>?_
   rw[Array.getElem?_setIfInBounds];split
   ·rename_i z;subst z;rw[if_pos (zG.mp h3).1,h3]
   ·rfl
  exact congrArg _ this
 ·rw[zT _ _ (Ne.symm z)];exact k
end
section
variable{X:Cx}{xD:List (jx×Obj)}{σ:St}{H:Hp}{s:j3}
theorem R1{M:Model}{E:j5->j3->Prop}{i:Nat}{n:Str}{pos:Pos}{Q:Unit->j3->Prop}(I:Inv X xD σ H s)(hN:X.N.Nodup)(hi:X.N[i]?=xE n)(hk:X.env.kindOf n=xE .local)
  (q:∀s',Inv X xD (σ.set i xF) H s'->Q () s'):xJ M A (do bindName X.env n .none;unbindBehindTheSuite X.env n pos) Q E s:=by
 obtain⟨m,hn,hl⟩:=I.loc;have hp:(X.env.scope.kind == .class||(X.env.scope.kind == .module&&X.env.locals != X.env.globals))=xH:=by rw[I.ok.kind];rfl
 refine wpAny_nameGoes_keeps hk hn hp λh' v hn' hs=>q _ ?_
 have neL:∀b o,X.s₀.heap.get? b=xE o->b≠X.env.locals:=λb o e=>zC (zZ (zV e) I.ok.above)
 refine⟨I.ok,I.os,I.bare,⟨λb o e nn hb hx=>(hs.2 b (neL b o e)).trans (I.base.keep b o e nn hb hx),λb o e nn hb hx=>?_,I.base.free,λb o e hx=>?_,I.base.tups,I.base.frzs,I.base.tbls⟩,⟨_,hn',λj y v' e1 e2 e3=>?_⟩,λy c e=>?_,I.free,I.Eo,λp hp=>?_,?_,by rw[jq];exact I.len⟩
 ·obtain⟨sl,e1⟩:=I.base.slot b o e nn hb hx;exact⟨sl,(hs.2 b (neL b o e)).trans e1⟩
 ·obtain⟨o',e1⟩:=I.base.there b o e hx;exact⟨o',(hs.2 b (neL b o e)).trans e1⟩
 ·have hj:j≠i:=λz=>by
   subst z;rw[qq]at e2;split at e2
   ·split at e2<;>cases e2
   ·rename_i z;exact z rfl
  rw[qH (Ne.symm hj)]at e2;obtain⟨u',r',z⟩:=hl j y v' e1 e2 e3;refine⟨u',r',?_⟩;rcases z with⟨k,e⟩|⟨k,c,e,z⟩
  ·refine .inl ⟨k,?_⟩;have:y≠n:=λe=>hj (Uz hN e1 (e▸hi))
   simp[this,e]
  ·exact .inr ⟨k,c,e,z.sameBut hs (I.cne y c e)⟩
 ·obtain⟨w',z⟩:=I.cell y c e;exact⟨w',z.sameBut hs (I.cne y c e)⟩
 ·obtain⟨e,nn,ne,nf,d⟩:=I.pin p hp;exact⟨(hs.2 p.1 ne).trans e,nn,ne,nf,d⟩
 ·exact λa o e=>(I.hok a o e).stay (λb u hb k=>(hs.2 b (λz=>by
   rcases hb with rfl|hb
   ·rw[z,I.free]at e;cases e
   ·rw[z,I.free]at hb;cases hb)).trans k) (λ_ k=>k) λ_ _ k=>k
end
noncomputable def J1(X:Cx)(ea:jx):Cx:={X with A:=X.A.mark (xE (.ref ea)),calm:=xH,xe:=λ_ _=>False}
section
variable{X:Cx}{xD:List (jx×Obj)}{σ:St}{H:Hp}{s:j3}{ea:jx}
theorem ZDf(I:Inv X xD σ H s):Inv (J1 X ea) xD σ H s:=
 ⟨⟨I.ok.mod,I.ok.kind,I.ok.glob,I.ok.blt,I.ok.above,I.ok.inj,I.ok.has,I.ok.cab,λz=>absurd z (by simp[J1]),I.ok.frames,I.ok.stk,I.ok.exf,I.ok.bs,I.ok.bsz,I.ok.noex,I.ok.exfs,I.ok.funs,I.ok.frf⟩,I.os,I.bare,I.base,I.loc,I.cell,I.free,I.Eo,I.pin,I.hok,I.len⟩
theorem Qo{calm:X.calm=xG}(hh:X.A.handled=xF)(I:Inv (J1 X ea) xD σ H s):Inv X xD σ H s:=
 ⟨⟨I.ok.mod,I.ok.kind,I.ok.glob,I.ok.blt,I.ok.above,I.ok.inj,I.ok.has,I.ok.cab,λ_=>hh,I.ok.frames,I.ok.stk,I.ok.exf,I.ok.bs,I.ok.bsz,I.ok.noex,I.ok.exfs,I.ok.funs,I.ok.frf⟩,I.os,I.bare,I.base,I.loc,I.cell,I.free,I.Eo,I.pin,I.hok,I.len⟩
end
section
variable{X:Cx}{f W:jx}{fn x n:Str}{fp cp ep np hp pos:Pos}{a:jk}{es:List jk}{ta:TA}{sp:Sp}{k i:Nat}{fd:jy}{ps:List Str}{b₀:j4}{suite:List j4}{th:TS}
def takes(K:PySem.W.Frag)(C W:jx):Bool:=Jk K C&&Jk K W&&match K.lookup C with
 |some ⟨_,_,.cls cd,_⟩=>cd.mro.contains (.ref W)
 |_=>xH
def tTry(K:PySem.W.Frag)(W:jx)(i:Nat)(sp:Sp)(ta:TA)(th:TS):TS:=λD σ H=>ta σ H λvs H1=>sp vs H1 (λ_ H2=>D.nx σ H2) λcls od H'=>cls=.none∨∃C,cls=.ref C/\takes K C W=xG/\
 ∀(ea:jx)(oe:Obj)(vs:Array j5),H' ea=xF->oe.cls=.ref C->oe.dict=od->oe.data=.fields vs->th {nx:=λσ2 H2=>D.nx (σ2.set i xF) H2,rt:=D.rt,bk:=λσ2 H2=>D.bk (σ2.set i xF) H2,ct:=λσ2 H2=>D.ct (σ2.set i xF) H2} (σ.set i (xE (.ref ea))) (upd H' ea (.frz oe (.own 0)))
theorem ZJX(hcalm:X.calm=xG)(hs:X.stack=X.env::X.outer)(hfr:X.env.frame=xE X.env.locals)(F:FnOk X.prog X.w X.K X.mg X.base (CXx X.prog X.w) k f fd ps sp)(hr:Room k X.A)(hb:Binds X.K fd ps [])(hg:Gl X fn)(hm:X.mg fn=xE (.ref f))
  (hk:PySem.W.keepIn X.K (.ref f)=xG) (ha:PA X.nox (a::es) ta) (hgx:Gl X x) (hmx:X.mg x=xE (.ref W)) (hN:X.N.Nodup) (hi:X.N[i]?=xE n) (hl:X.env.kindOf n=xE .local)
  (hh:∀ea,PSs (J1 X ea) (b₀::suite) th)
  (hdb:(fn==("__debug__":Str))=xH:=by decide) (hdx:(x==("__debug__":Str))=xH:=by decide) (he:xQ (a::es) X.env=(xH,eval a X.env)::xQ es X.env:=by rfl) (hpl:(j9 cp (xQ es X.env)).any (·.1)=xH:=by rfl)
  (hsw:swapsWith (.Call (.Name fn fp) (a::es) [] cp) xF ep.line X.env=pure xH:=by rfl):
  PS X (.Try [.Expr (.Call (.Name fn fp) (a::es) [] cp) ep] [.ExceptHandler (xE (.Name x np)) (xE n) (b₀::suite) hp] [] [] pos) (tTry X.K W i sp ta th):=by
 intro xD s σ H D I h;refine wpAny_Try_except (wpAny_execs_cons (wpAny_Expr_any ?_ I.quiet hsw));refine xX (Lj I hg hm ?_ hdb);refine PySem.W.callWith_K (h₀:=X.base) I.ok.mod.kin hk (xz (ha cp xD s σ H _ (I.wish _) h) (λus s1 ⟨vs,H1,I1,r,q⟩=>⟨I1.kIn,?_⟩) λ_ _ z=>z.elim) he hpl;have I1':=I1.unwish;have hlen:(us++[]).length=ps.length:=by rw[zU,<-r.length];exact F.len _ _ _ _ q
 refine wpAny_call (jE (F.run X.A X.stack s1 H1 ⟨us,[]⟩ us vs _ _ hr I1'.env0 (by have:=hb s1 us I1'.kIn hlen;rwa[zU]at this) r q) λr s' hq=>?_);cases r with
 | ok fl=>
  cases fl with
  |next=>exact False.elim hq
  |brk=>exact False.elim hq
  |cont=>exact False.elim hq
  |ret u=>
   obtain⟨v,H2,I2,rv,q2⟩:=I1'.after hq;exact wpAny_execs_nil (wpAny_execs_nil ⟨σ,H2,I2,q2⟩)
 | error e=>
  refine lands hs hfr I1' hq λea C od H' oe vs' h'' ee ho hc hd hda hE fe J tr hcC=>?_
  subst ee;rcases hE with z|⟨C',hC',ht,hE⟩
  ·obtain⟨C2,z2⟩:=hcC;rw[z]at z2;cases z2
  subst hC';obtain⟨B,tr⟩:=tr;have hcalm':=I.ok.hd hcalm;unfold takes at ht;simp only[zY]at ht;obtain⟨⟨t1,t2⟩,t3⟩:=ht;obtain⟨bm,N,nm,qn,bs,sn,sub,ab,col,dd,k0,k1,k2,k3,k5,hcl,T,_⟩:=Le J.kIn t1;obtain⟨bm',N',nm',qn',bs',sn',sub',ab',col',dd',l0,l1,l2,l3,l5,hcl',T',_⟩:=Le J.kIn t2;have hin:(Value.ref C'::bm).contains (.ref W)=xG:=by
   split at t3
   ·rename_i c0 d0 cd sl0 ho';have:=J.kIn _ _ ho';rw[hcl]at this;cases this;exact t3
   ·cases t3
  refine wpAny_handleBy_cons (codeAny_handlers_test (Lj (X:=J1 X ea) (ZDf J) hgx hmx ?_ hdx)) (by intro q;cases q);refine ZJe hcl hcl' ho hc (T'.hasType PySem.F.excBase_ValueError.hasBase) hin ?_;refine codeAny_handlers_suite_as (ZIH tr λh3 kp=>?_);have J3:=J.kept (h':=h3) (t':=s'.toks) kp;refine Yr J3 hN hi (.inl hl) (v:=.ref ea) rfl (λs4 I4=>?_) (.inr hl);refine xz (hh ea xD s4 _ _ _ (ZDf I4) (hE ea oe vs' fe hc hd hda)) (λfl s5 q5=>?_) λ_ _ z=>z.elim
  cases fl with
  |next=>
   obtain⟨σ2,H2,I5,q5⟩:=q5;exact R1 (Qo (calm:=hcalm) hcalm' I5) hN hi hl λs6 I6=>⟨_,H2,I6,q5⟩
  |brk=>
   obtain⟨σ2,H2,I5,q5⟩:=q5;exact R1 (Qo (calm:=hcalm) hcalm' I5) hN hi hl λs6 I6=>⟨_,H2,I6,q5⟩
  |cont=>
   obtain⟨σ2,H2,I5,q5⟩:=q5;exact R1 (Qo (calm:=hcalm) hcalm' I5) hN hi hl λs6 I6=>⟨_,H2,I6,q5⟩
  |ret u=>
   obtain⟨v,σ2,H2,I5,rv,q5⟩:=q5;exact R1 (Qo (calm:=hcalm) hcalm' I5) hN hi hl λs6 I6=>⟨v,_,H2,I6,rv,q5⟩
end
theorem ZJA:∀n:Nat,n<100->intS (n:Int):=by
 have h:∀n:Fin 100,((n.1:Int).natAbs.log2<1920/\(Str.ofString (toString (n.1:Int))).length<=1000):=by decide +kernel
 exact λn hn=>h ⟨n,hn⟩
def sRz(c f:Str)(t:DA):DS:=λS G=>match t S G with
 |.ok ds G1=>(match ds with
  |[.int i]=>if 0<=i/\i<100 then .err ⟨c,[(f,.int i)]⟩ G1 else .bad
  |[.non]=>.err ⟨c,[(f,.non)]⟩ G1
  |_=>.bad)
 |.err x G1=>.err x G1
 |.bad=>.bad
section
variable{X:Cx}{E:XK}{C fI:jx}{c f v:Str}{np cpos pos:Pos}{a:jk}{t:DA}{k:Nat}{fd:jy}
theorem ZGT(hn:PySem.W.nsIn X.K jR c=xE (xE (.ref C)))(hcalm:X.calm=xG)(hs:X.stack=X.env::X.outer)(hex:X.ex=[])(hfr:X.env.frame=xE X.env.locals)(hxe:∀e s,Ol X E e s->X.xe e s)
  (XS:XSet X.K C f) (hi:Jr X.K C fI=xG) (hfn:∃o,X.K.lookup fI=xE o/\o.cls=.type "function") (F:FnOk X.prog X.w X.K X.mg X.base CX0 k fI fd ["self",v] (spI C f)) (hr:Room (k+1) X.A) (hb:Binds X.K fd ["self",v] [])
  (hg:Gl X c) (hm:X.mg c=xE (.ref C)) (hk:PySem.W.keepIn X.K (.ref C)=xG) (ha:QA X E [a] t) (hdb:(c==("__debug__":Str))=xH:=by decide) (hst:notStar a=xG:=by rfl):
  QS X E (.Raise (xE (.Call (.Name c np) [a] [] cpos)) xF pos) (sRz c f t):=
 (ZHj hcalm hs hex hfr hxe XS hi hfn F hr hb hg hm hk ha hdb (Hd a [] X.env hst) rfl).mono λW σ H h=>by
  obtain⟨w,S,G,hk,rfl,sm,r,h⟩:=h;refine⟨w,S,G,hk,rfl,sm,r,?_⟩;unfold sRz at h;cases ht:t S G with
  |err x G1=>rw[ht]at h;exact h
  |bad=>rw[ht]at h;exact h
  | ok ds G1=>
   rw[ht]at h;dsimp only at h;split at h
   ·rename_i i;split at h
    ·rename_i hi;intro b vs x s1 q;obtain⟨v1,r1,rfl,q1,q2⟩:=q;obtain rfl:v1=.int i:=q1;obtain rfl:r1=[]:=q2;refine⟨.int i,rfl,.inl ⟨i,rfl,?_⟩,λdx o nd=>?_⟩
     ·have:=ZJA i.toNat (by lia);rwa[show((i.toNat:Nat):Int)=i by lia]at this
     ·refine h.2 (b.put dx (.frz o (.xd [(f,.int i)]))) C (xE dx) (x.trans (Ext.put nd)) (s1.put nd) ?_ (.inr ⟨dx,o,[(f,.int i)],rfl,?_,rfl,?_⟩)
      ·show PySem.W.nsIn b.K _ _=_;rw[x.k,hk];exact hn
      ·show upd b.H dx _ dx=_;unfold upd;rw[if_pos rfl]
      ·exact⟨.int i,[],rfl,rfl,rfl⟩
    ·exact h.elim
   ·intro b vs x s1 q;obtain⟨v1,r1,rfl,q1,q2⟩:=q;obtain rfl:v1=.non:=q1;obtain rfl:r1=[]:=q2;refine⟨.non,rfl,.inr rfl,λdx o nd=>?_⟩;refine h.2 (b.put dx (.frz o (.xd [(f,.non)]))) C (xE dx) (x.trans (Ext.put nd)) (s1.put nd) ?_ (.inr ⟨dx,o,[(f,.non)],rfl,?_,rfl,?_⟩)
    ·show PySem.W.nsIn b.K _ _=_;rw[x.k,hk];exact hn
    ·show upd b.H dx _ dx=_;unfold upd;rw[if_pos rfl]
    ·exact⟨.non,[],rfl,rfl,rfl⟩
   ·exact h.elim
end
noncomputable def unnm(i:Nat):SR->SR
 |.nx S G=>.nx (S.set i xF) G
 |.bk S G=>.bk (S.set i xF) G
 |.ct S G=>.ct (S.set i xF) G
 |.rt d G=>.rt d G
 |_=>.bad
def Jp(ws:List Str)(i:Nat)(F:List D->DH->R D)(t:DA)(hb:DS):DS:=λS G=>match t S G with
 |.ok ds G1=>(match F ds G1 with
  |.ok _ G2=>.nx S G2
  |.err x G2=>if x.cls∈ws then unnm i (hb (S.set i (xE (.ref G2.length))) (G2++[.exc x.cls x.fs]))else .bad
  |.bad=>.bad)
 |_=>.bad
theorem RepS.unset{a:Wd}{S:DSt}{σ:St}(r:RepS a S σ)(i:Nat):RepS a (S.set i xF) (σ.set i xF):=by
 refine⟨by simpa using r.len,λj e he=>?_⟩;rw[qq]at he⊢;by_cases hij:i=j
 ·subst hij;rw[if_pos rfl]at he
  split at he<;>cases he
 ·rw[if_neg hij]at he⊢;exact r.get j e he
section
variable{X:Cx}{E:XK}{f W:jx}{fn x n:Str}{fp cp ep np hp pos:Pos}{a:jk}{es:List jk}{t:DA}{F:List D->DH->R D}{k i:Nat}{fd:jy}{ps:List Str}{b₀:j4}{suite:List j4}{hb:DS}{ws:List Str}
theorem ZFu(hcalm:X.calm=xG)(hs:X.stack=X.env::X.outer)(hfr:X.env.frame=xE X.env.locals)(FF:FnOk X.prog X.w X.K X.mg X.base (CXx X.prog X.w) k f fd ps (lFx X.K F))(hr:Room k X.A)(hbd:Binds X.K fd ps [])(hg:Gl X fn)(hm:X.mg fn=xE (.ref f))
  (hk:PySem.W.keepIn X.K (.ref f)=xG) (ha:QA X.nox E0 (a::es) t) (hgx:Gl X x) (hmx:X.mg x=xE (.ref W)) (hN:X.N.Nodup) (hi:X.N[i]?=xE n) (hl:X.env.kindOf n=xE .local)
  (hws:∀c∈ws,∀C,PySem.W.nsIn X.K jR c=xE (xE (.ref C))->takes X.K C W=xG) (hh:∀ea,QSs (J1 X ea) E0 (b₀::suite) hb)
  (hdb:(fn==("__debug__":Str))=xH:=by decide) (hdx:(x==("__debug__":Str))=xH:=by decide) (he:xQ (a::es) X.env=(xH,eval a X.env)::xQ es X.env:=by rfl) (hpl:(j9 cp (xQ es X.env)).any (·.1)=xH:=by rfl)
  (hsw:swapsWith (.Call (.Name fn fp) (a::es) [] cp) xF ep.line X.env=pure xH:=by rfl):
  QS X E (.Try [.Expr (.Call (.Name fn fp) (a::es) [] cp) ep] [.ExceptHandler (xE (.Name x np)) (xE n) (b₀::suite) hp] [] [] pos) (Jp ws i F t hb):=
 (ZJX (th:=lS X.K E0 hb) hcalm hs hfr FF hr hbd hg hm hk ha hgx hmx hN hi hl (λea=>hh ea) hdb hdx he hpl hsw).mono λD σ H h=>by
  obtain⟨w,S,G,hk,rfl,sm,r,h⟩:=h;refine⟨w,S,G,hk,rfl,sm,r,?_⟩;unfold Jp at h;cases ht:t S G with
  |err x G1=>rw[ht]at h;exact h.elim
  |bad=>rw[ht]at h;exact h
  | ok ds G1=>
   rw[ht]at h;dsimp only at h;intro b vs y s1 q;refine⟨b,G1,ds,y.k.trans hk,rfl,s1,q,?_⟩;cases hF:F ds G1 with
   |bad=>rw[hF]at h;exact h
   |ok d G2=>
    rw[hF]at h;exact λb2 v y2 s2 _=>h b2 σ (y.trans y2) s2 (r.mono (y.trans y2))
   | err xn G2=>
    rw[hF]at h;dsimp only at h;split at h
    ·rename_i hw;refine⟨λz=>?_,λb2 C od y2 s2 hn hx=>.inr ⟨C,rfl,hws _ hw C (by rw[<-hk,<-y.k,<-y2.k];exact hn),λea oe vs fe hc hd hda=>?_⟩⟩
     ·have:=congrFun (congrFun (congrFun z Value.none) xF) w.H;exact cast this (.inl rfl)
     ·subst hd;have yp:=Ext.push (a:=b2) (p:=ea) (ho:=.frz oe (.own 0)) fe;refine⟨b2.push ea (.frz oe (.own 0)),S.set i (xE (.ref G2.length)),G2++[.exc xn.cls xn.fs],?_,rfl,?_,?_,?_⟩
      ·show b2.K=_;rw[y2.k,y.k,hk]
      ·exact s2.push fe ⟨C,oe,.own 0,vs,hn,rfl,hc,hda,hx.mono yp⟩
      ·refine(r.mono (y.trans (y2.trans yp))).set i ⟨?_,?_⟩
       ·show G2.length<b2.n+1;rw[s2.len];exact zR _
       ·show V.ref ea=V.ref (if G2.length=b2.n then ea else b2.m G2.length);rw[if_pos s2.len]
      ·have yw:=y.trans (y2.trans yp)
       revert h
       cases hb (S.set i (xE (.ref G2.length))) (G2++[.exc xn.cls xn.fs])with
       |nx S3 G3=>exact λh c σ3 y3 s3 r3=>h c _ (yw.trans y3) s3 (r3.unset i)
       |bk S3 G3=>exact λh c σ3 y3 s3 r3=>h c _ (yw.trans y3) s3 (r3.unset i)
       |ct S3 G3=>exact λh c σ3 y3 s3 r3=>h c _ (yw.trans y3) s3 (r3.unset i)
       |rt d3 G3=>exact λh c v3 y3 s3 r3=>h c v3 (yw.trans y3) s3 r3
       |err x3 G3=>exact λh=>h.elim
       |bad=>exact λh=>h.elim
    ·exact h.elim
end
theorem ZHQ{K:PySem.W.Frag}{x:Str}{f:jx}{N:List Str}{b:DS}(F:Fun K x qual st f fd)(S:FnScope N ps (Aw st))
  (hbody:∀(cdv:j5)(A:jv)(outer:List Env)(s:j3)(H:Hp)(E:XK),Room k (A.deeper (envOfC qual (Aw st) s.heap.objs.size f cdv))->QSs (Fy (CXx P w) P w K mg base N qual (Aw st) f cdv A outer s H E) E (Eh st) b):
  FnOk P w K mg base (CXx P w) (k+1) f fd ps (lFx K (Bu ps.length (N.length-ps.length) b)):=by
 have hlen:∀vs H Q E,lFx K (Bu ps.length (N.length-ps.length) b) vs H Q E->vs.length=ps.length:=λvs H Q E h=>by
  obtain⟨a,G,ds,hk,rfl,sm,r,h⟩:=h;unfold Bu at h;split at h
  ·rename_i hl;rw[<-r.length];exact hl
  ·exact h.elim
 obtain⟨oc,od,kV,doc,pm,an,cdv,ct,osl,rfl,lk,hcd⟩:=F.ex;refine ZBd lk hcd S hlen λA outer s H vs Q E hr h=>⟨lS K E b,hbody cdv A outer s H E hr,?_⟩
 have hl:=hlen vs H Q E h;obtain⟨a,G,ds,hk,rfl,sm,r,h⟩:=h;unfold Bu at h;split at h
 ·have h2:=Za sm h;refine⟨a,ds.map xE++zI (N.length-ps.length) xF,G,hk,rfl,sm,ZCZ r _ _ (by rw[hl]),?_⟩
  revert h2
  cases b (ds.map xE++zI (N.length-ps.length) xF) G with
  |nx S1 G1=>exact λh2 c σ x s1 _=>h2 c .non x s1 rfl
  |rt d G1=>exact λh2=>h2
  |err e G1=>exact λh2=>h2
  |bk S1 G1=>exact λh2=>h2.elim
  |ct S1 G1=>exact λh2=>h2.elim
  |bad=>exact λh2=>h2
 ·exact h.elim
theorem ownX{K:PySem.W.Frag}{N:List Str}{scope:j2}{f:jx}{cd:j5}{outer:List Env}{E:XK}:
  PassesOwn (jS P w) (Fy (CXx P w) P w K mg base N qual scope f cd A outer s H E).A (Fy (CXx P w) P w K mg base N qual scope f cd A outer s H E).env (Fy (CXx P w) P w K mg base N qual scope f cd A outer s H E).xe:=PassesOwn.leaving
section
variable{X:Cx}{E:XK}{x:Str}{p pos:Pos}{e:jk}{es:List jk}{tr:DA}
theorem ZHo{f:jx}{F:List D->DH->R D}(FF:FnOk X.prog X.w X.K X.mg X.base (CXx X.prog X.w) k f fd ps (lFx X.K F))(hr:Room k X.A)(hg:Gl X x)(hm:X.mg x=xE (.ref f))(hk:PySem.W.keepIn X.K (.ref f)=xG)(hb:Binds X.K fd ps [])
  (hx:Passes (CXx X.prog X.w) X E) (ha:QA X E (e::es) tr) (hdb:(x==("__debug__":Str))=xH:=by decide) (he:notStar e=xG:=by rfl) (hpl:es.all notStar=xG:=by rfl):QE X E (.Call (.Name x p) (e::es) [] pos) (dFn F tr):=
 (ZBP FF hr hg hm hk hb .nil hx ha hdb (Hd e es X.env he) (Kv pos X.env es hpl)).mono λσ H Q h=>by obtain⟨a,S,G,hk,rfl,s,r,h⟩:=Qm h;refine⟨a,S,G,hk,rfl,s,r,h.imp ?_⟩;rintro vs _ ⟨b,G1,ds,hk,rfl,s1,q,h1⟩;exact⟨b,G1,ds,hk,rfl,s1,by rw[zU];exact q,h1⟩
end
structure RoomH (k:Nat) (A:jv):Prop where
 dp:A.depth+3*k+5<recursionLimit
 un:A.units+16*k+200<cLine
theorem RoomH.of(r:Room k A):RoomH k A:=⟨r.dp,r.un⟩
theorem RoomH.held{v:Option j5}(r:RoomH k A):RoomH k (A.mark v):=⟨r.dp,r.un⟩
section
variable{X:Cx}{E:XK}{x:Str}{p pos:Pos}{e:jk}{es:List jk}{tr:DA}
end
structure XGet (K:PySem.W.Frag) (C:jx):Prop where
 ga:PySem.W.findIn K (.ref C) "__getattribute__"=xE (xE (.builtin "BaseException.__getattribute__"))
 gn:PySem.W.findIn K (.ref C) "__getattr__"=xE xF
 sb:PySem.W.subIn K (.ref C) (.type "BaseException")=xE xG
 hd:PySem.W.hasDictIn K C=xG
 cl:PySem.W.findIn K (.ref C) "__class__"=xE (xE (.builtin "object.__class__"))
 cg:PySem.W.specialIn K (.builtin "object.__class__") "__get__"=xE (xE (.builtin "getset_descriptor.__get__"))
 ct:PySem.W.takesIn K (.builtin "object.__class__")=xE xG
 mo:PySem.W.mroIn K C (.type "object")=xE xG
 kc:PySem.W.kitCls K (.ref C) (.ref C)=xE xG
 ec:Jk K C=xG
section
variable{prog:j1}{w:j6}{A:jv}{E:j5->j3->Prop}{s:j3}{K:PySem.W.Frag}{x C:jx}{ox:Obj}{od:Option Obj}{name:Str}{tk:Tok}
theorem ZDr{M:Model}{nameV:j5}{Q:Unit->j3->Prop}(X:K.In s.heap)(I:PySem.W.InstAt s.heap x ox C od)(hs:PySem.W.subIn K (.ref C) (.type "BaseException")=xE xG)(hq:Q () s):
  xJ M A (checkBuiltinCall "BaseException.__getattribute__" ⟨[.ref x,nameV],[]⟩) Q E s:=by
 have hk:builtinKind "BaseException.__getattribute__"=xE .slot:=by decide +kernel
 have hsplit:splitId "BaseException.__getattribute__"=xE ("BaseException","__getattribute__"):=by decide +kernel
 have ha:=F.args_bexc_ga (.ref x) nameV;have LI:PySem.W.Looks M s.heap (isInstance (.ref x) (.type "BaseException")) xG:=(I.type (M:=M)).andThen (PySem.W.looks_subIn X hs);obtain⟨h,g,d,t,os⟩:=s;simp only[checkBuiltinCall,hk,hsplit];refine xV (LI.at ?_)
 repeat (first|wp_step)
 exact hq
theorem ZAh{Q:j5->j3->Prop}(X:K.In s.heap)(I:PySem.W.InstAt s.heap x ox C od)(G:XGet K C)
  (h:∀A',xJ (jS prog w) A' (Builtin.«object.__getattribute__» ⟨[.ref x,.str name tk],[]⟩) (λfin s'=>match fin with | .done (.ret v)=>PySem.W.handedIn v=xG/\Q v s'|_=>False) (λ_ _=>False) s):
  xJ (jS prog w) A (getAttrBy (.ref x) (.str name tk) fill expr) Q E s:=by
 have L0:=I.type (M:=jS prog w);have L1:=PySem.W.looks_findIn (M:=jS prog w) X G.ga;have _L:=PySem.W.looks_findIn (M:=jS prog w) X G.gn;have f3:=F.excAttr_ValueError.ga.bind (.ref x)
 have hx0:(expr&&onTheHeap (Value.builtin "BaseException.__getattribute__"))=xH:=by cases expr<;>rfl
 obtain⟨hh,g,d,t,os⟩:=s;unfold getAttrBy;refine xq (xV (L0.at (xV (L1.at ?_))));dsimp only;rw[show(onTheHeap (Value.ref C)&&Value.builtin "BaseException.__getattribute__"==Value.builtin "object.__getattribute__")=xH by rw[show(Value.builtin "BaseException.__getattribute__"==Value.builtin "object.__getattribute__")=xH by decide +kernel];rfl];simp only[Bool.false_eq_true,if_false]
 unfold getAttrByItsOwn;show xJ _ _ (typeLookup (.ref C) "__getattr__" >>=_) _ _ _;refine xV (_L.at ?_);refine xV (wpAny_attempt (xq ?_));unfold callGetattribute;rw[hx0];simp only[Bool.false_eq_true,if_false];unfold boundAndCalled;rw[f3];refine xV (xy ?_);refine wpAny_call (codeAny_call_builtin F.excAttr_ValueError.ga.plain F.entry_bexc_ga (ZDr X I G.sb (xz (h _) (λfin s' z=>?_) λ_ _ z=>z.elim)))
 rcases fin with(_|_|_|_)|_<;>first|exact z.elim|exact PySem.W.handed_on z.1 z.2
theorem ZDo{v:j5}{Q:j5->j3->Prop}(X:K.In s.heap)(I:PySem.W.InstAt s.heap x ox C od)(G:XGet K C)(hf:PySem.W.findObj K C od name=xE (.value v))(hv:PySem.W.handedIn v=xG)(h:Q v s):
  xJ (jS prog w) A (getAttrBy (.ref x) (.str name tk) fill expr) Q E s:=by
 refine ZAh X I G λA'=>?_
 have L0:=I.type (M:=jS prog w);have L1:=PySem.W.looks_find (M:=jS prog w) X I hf;obtain⟨hh,g,d,t,os⟩:=s;refine xV (xy (xV (xy (xV (L0.at (xV (L1.at ?_)))))));exact xy ⟨hv,h⟩
theorem ZFw{od:Obj}{Q:j5->j3->Prop}(X:K.In s.heap)(I:PySem.W.InstAt s.heap x ox C (xE od))(G:XGet K C)(h:Q (.ref C) s):
  xJ (jS prog w) A (getAttrBy (.ref x) (.str "__class__" tk) fill expr) Q E s:=by
 refine ZAh X I G λA'=>?_
 have hf:PySem.W.findObj K C (xE od) "__class__"=xE (.bind (.builtin "getset_descriptor.__get__") (.builtin "object.__class__")):=PySem.W.findObj_data (by obtain⟨cd,hc,_⟩:=PySem.W.any_some G.hd;rw[hc];rfl) G.cl G.cg G.ct;have L0:=I.type (M:=jS prog w);have L1:=PySem.W.looks_find (M:=jS prog w) X I hf;have cg:=λ(A:jv)(R:Result->j3->Prop)(z:R (.ok (.ret (.ref C))) s)=>PySem.W.class_get (prog:=prog) (w:=w) (A:=A) (R:=R) (tp:=.ref C) X I G.mo z
 obtain⟨hh,g,d,t,os⟩:=s;refine xV (xy (xV (xy (xV (L0.at (xV (L1.at ?_)))))));show xJ _ _ (holding _ (call (.builtin "getset_descriptor.__get__") [.builtin "object.__class__",.ref x,.ref C]) >>=ret) _ _ _;exact xV (xq (wpAny_call (cg _ _ (xy ⟨rfl,h⟩))))
theorem ZKD{od:Obj}(G:XGet K C):PySem.W.KitX K (.ref x) (.ref C) (λh=>PySem.W.InstAt h x ox C (xE od)):=by
 refine⟨λ_ _ _ I=>I.type,λ_ _ X _=>(PySem.W.kit_cls X G.kc).2.1,λh tp dd its n sl X htp=>?_,λ{_ _ _ _ _ s}X I k=>?_⟩
 ·cases q:(Value.ref C == .ref tp)with
  |false=>rfl
  |true=>
   have z:C=tp:=Value.ref.inj (beq_iff_eq.mp q);obtain⟨_,_,_,_,_,_,_,_,_,_,_,_,_,_,_,hcl,_⟩:=Le X G.ec;rw[z,htp]at hcl;have:=congrArg Obj.cls (Option.some.inj hcl);have z2:Value.type "tuple"=Value.type "type":=this;exact absurd (Value.type.inj z2) (by decide)
 ·obtain⟨hh,g,d,t,os⟩:=s;unfold getAttr? getAttrBy?;refine xV (wpAny_mkText (xV (wpAny_attempt ?_)));exact ZFw (s:=⟨hh,g,d,t+1,os⟩) X I G (xy k)
end
noncomputable def isx(tb:List (Str×Bool))(x:D)(G:DH):R D:=match x with
 | .ref i=>(match G[i]? with
  |some (.exc c (_::_))=>(match tb.lookup c with
   |some b=>.ok (.bl b) G
   |none=>.bad)
  |_=>.bad)
 |_=>.bad
def gtx(cs:List Str)(f:Str)(x:D)(G:DH):R D:=match x with
 | .ref i=>(match G[i]? with
  |some (.exc c (p::r))=>if c∈cs then(match(p::r).lookup f with
   |some d=>.ok d G
   |none=>.bad)else .bad
  |_=>.bad)
 |_=>.bad
def HeldAt(H:Hp)(x:V)(C:jx)(us:List (Str×V)):Prop:=∃a oe u vs dx o,x=.ref a/\H a=xE (.frz oe u)/\oe.cls=.ref C/\oe.data=.fields vs/\oe.dict=xE dx/\H dx=xE (.frz o (.xd us))
theorem Sim.exc{b:Wd}{G:DH}{i:Nat}{c:Str}{p:Str×D}{fs:List (Str×D)}{v:V}(s:Sim b G)(r:Rep b (.ref i) v)(h:G[i]?=xE (.exc c (p::fs))):∃C us,PySem.W.nsIn b.K jR c=xE (xE (.ref C))/\HeldAt b.H v C us/\RepF b (p::fs) us:=by
 obtain⟨_,ev⟩:=r;obtain⟨C,oe,u,vs,n,e,k1,k2,z⟩:=s.obj i _ h;rcases z with⟨z,_⟩|⟨dx,o,us,z1,z2,z3⟩
 ·cases z
 ·exact⟨C,us,n,⟨_,oe,u,vs,dx,o,ev,e,k1,k2,z1,z2⟩,z3⟩
section
variable{X:Cx}{E:XK}{xD:List (jx×Obj)}{σ:St}{H:Hp}{s:j3}
theorem ZDK{x:V}{us:List (Str×V)}(I:Inv X xD σ H s)(h:HeldAt H x C us):∃(a:jx)(oe od:Obj)(mA:Str->Option j5),x=.ref a/\PySem.W.InstAt s.heap a oe C (xE od)/\(∀name,PySem.W.lookIn name od=xE (mA name))/\∀f,RelO (us.lookup f) (mA f):=by
 obtain⟨a,oe,u,vs,dx,o,rfl,ea,k1,k2,k3,ed⟩:=h
 obtain⟨ha,_⟩:=(show ObjOk X.prog X.w H s.heap a (.frz oe u)from I.hok a _ ea)
 obtain⟨hd,mA,hn,hr⟩:=(show ObjOk X.prog X.w H s.heap dx (.frz o (.xd us))from I.hok dx _ ed)
 obtain⟨od,ho,hl⟩:=ZDn hn;refine⟨a,oe,od,mA,rfl,⟨ha,k1,?_,?_⟩,hl,hr⟩
 ·unfold PySem.W.notCls;rw[k2]
 ·rw[k3];exact ho
def rIs1(K:PySem.W.Frag)(cv:V)(cu:j5):List V->Hp->VK->Prop:=λvs H Q=>∃x C us b,vs=[x,cv]/\HeldAt H x C us/\XGet K C/\PySem.W.kitOne K (.ref C) cu=xE b/\Q (.bl b) H
theorem ZJF{cv:V}{cu:j5}(hcu:∀u,RelV cv u->u=cu):CallR X (.builtin "isinstance") (rIs1 X.K cv cu):=by
 intro xD s σ H xs us Q I rs h;obtain⟨x,C,fs,b,rfl,hx,G,hk,q⟩:=h;obtain⟨u,u',rfl,ru,ru'⟩:∃u u',us=[u,u']/\RelV x u/\RelV cv u':=by
  cases rs with
  |cons p q=>cases q with
   |cons p' q'=>cases q';exact⟨_,_,rfl,p,p'⟩
 cases hcu _ ru';obtain⟨a,oe,od,mA,rfl,J,_,_⟩:=ZDK I hx
 cases(show u=Value.ref a from ru)
 exact PySem.W.kia_one (ZKD G) I.kIn J hk (λz=>nomatch z) λtk=>⟨.bl b,H,I.tok _,rfl,q⟩
variable{e ce:jk}{ces:List jk}{t:DE}{tb:List (Str×Bool)}{cv:V}{cu:j5}{cvs:List V}{cus:List j5}{p pos tp:Pos}
theorem ZCE(hg:Gl X "isinstance")(hm:X.mg "isinstance"=xF)(ha:QE X E e t)(hc:PE X ce (tC cv))(hcu:∀u,RelV cv u->u=cu)
  (htb:∀c b,tb.lookup c=xE b->∀C,PySem.W.nsIn X.K jR c=xE (xE (.ref C))->XGet X.K C/\PySem.W.kitOne X.K (.ref C) cu=xE b) (he:notStar e=xG:=by rfl) (hs:notStar ce=xG:=by rfl):
  QE X E (.Call (.Name "isinstance" p) [e,ce] [] pos) (dUn (isx tb) t):=
 (ZDT (ZJF hcu) hg hm Tz (Ml ha (Ml hc Y8 (Hd ce [] X.env hs)) (Hd e [ce] X.env he)) (by decide) (by decide) (Hd e [ce] X.env he) (Kv pos X.env [ce] (by simp[hs]))).mono λσ H Q h=>by
  obtain⟨a,S,G,hk,rfl,s,r,h⟩:=h;refine⟨a,S,G,hk,rfl,s,r,(Dz h).imp ?_⟩;rintro v _ ⟨b,d,G1,rfl,x,s1,q,-,h1⟩;unfold isx at h1;split at h1
  ·rename_i i;split at h1
   ·rename_i c pf fs hi;split at h1
    ·rename_i bb hb;obtain⟨C,us,n,hx,_⟩:=s1.exc q hi;obtain⟨g1,g2⟩:=htb c bb hb C (by rw[<-hk,<-x.k];exact n);exact⟨v,C,us,bb,rfl,hx,g1,g2,h1 b _ (Ext.refl b) s1 rfl⟩
    ·exact h1.elim
   ·exact h1.elim
  ·exact h1.elim
variable{f:Str}{cs:List Str}
noncomputable def tXf(K:PySem.W.Frag)(ta:TE)(f:Str):TE:=λσ H Q=>ta σ H λx H1=>∃C us v,HeldAt H1 x C us/\XGet K C/\NoAttr K C f/\us.lookup f=xE v/\Q v H1
theorem ZHc{ta:TE}(he:PE X e ta)(hb:j8 e f X.env (eval e X.env)=eval e X.env):PE X (.Attribute e f pos) (tXf X.K ta f):=by
 intro xD s σ H Q I h;refine ZGu hb (thn (he xD s σ H _ I h) λu s1 ⟨x,H1,I1,rx,C,us,v,hx,G,n,l,q⟩=>?_);obtain⟨a,oe,od,mA,rfl,J,hl,hr⟩:=ZDK I1 hx
 cases(show u=Value.ref a from rx)
 obtain⟨u',hu,ru⟩:=RelO.some_of (v:=v) (o:=mA f) (by rw[<-l];exact hr f);obtain⟨hh,g,d,t,os⟩:=s1;unfold getAttr;refine xV (wpAny_mkText ?_);exact ZDo (s:=⟨hh,g,d,t+1,os⟩) I1.kIn J G (PySem.W.findObj_own G.hd n rfl (by rw[hl,hu])) (ZHJ ru) ⟨v,H1,I1.tok _,ru,q⟩
theorem ZGd(ha:QE X E e t)(hcs:∀c∈cs,∀C,PySem.W.nsIn X.K jR c=xE (xE (.ref C))->XGet X.K C/\NoAttr X.K C f)(hb:j8 e f X.env (eval e X.env)=eval e X.env:=by rfl):
  QE X E (.Attribute e f pos) (dUn (gtx cs f) t):=
 (ZHc ha hb).mono λσ H Q h=>by
  obtain⟨a,S,G,hk,rfl,s,r,h⟩:=h;refine⟨a,S,G,hk,rfl,s,r,(Dz h).imp ?_⟩;rintro v _ ⟨b,d,G1,rfl,x,s1,q,-,h1⟩;unfold gtx at h1;split at h1
  ·rename_i i;split at h1
   ·rename_i c pf fs hi;split at h1
    ·rename_i hc;split at h1
     ·rename_i d' hd;obtain⟨C,us,n,hx,rf⟩:=s1.exc q hi;obtain⟨g1,g2⟩:=hcs c hc C (by rw[<-hk,<-x.k];exact n);obtain⟨u,eu,ru⟩:=rf.look hd;exact⟨C,us,u,hx,g1,g2,eu,h1 b u (Ext.refl b) s1 ru⟩
     ·exact h1.elim
    ·exact h1.elim
   ·exact h1.elim
  ·exact h1.elim
end
end _D
namespace _D
open PySem PySem.Spec PySem.W _L
open PyProof.Rows hiding St
variable{K:xB}{h:Heap}{mg:Str->Option j5}{G:DH}
noncomputable def isB(r:Option (Option j5))(n:String):Bool:=match r with
 |some (xE (.builtin m))=>m==n
 |_=>xH
theorem Pj{r:Option (Option j5)}{n:String}(h:isB r n=xG):r=xE (xE (.builtin n)):=by
 unfold isB at h;split at h
 ·rw[beq_iff_eq.mp h]
 ·cases h
noncomputable def Bt(r:Option Bool)(b:Bool):Bool:=match r with
 |some c=>c==b
 |_=>xH
theorem Lh{r:Option Bool}{b:Bool}(h:Bt r b=xG):r=xE b:=by
 unfold Bt at h;split at h
 ·rw[beq_iff_eq.mp h]
 ·cases h
noncomputable def Rf{α:Type}(r:Option (Option α)):Bool:=match r with
 |some xF=>xG
 |_=>xH
theorem ZBj{α:Type}{r:Option (Option α)}(h:Rf r=xG):r=xE xF:=by
 unfold Rf at h;split at h
 ·rfl
 ·cases h
structure ET (K:xB) (mg:Str->Option j5) (c f:Str):Prop where
 N:nsIn K jR c=xE (xE (.ref (Ae K c)))
 g:mg c=xE (.ref (Ae K c))
 k:keepIn K (.ref (Ae K c))=xG
 X:XSet K (Ae K c) f
 i:Jr K (Ae K c) (Cz K (Ae K c) "__init__")=xG
 o:∃o,K.lookup (Cz K (Ae K c) "__init__")=xE o/\o.cls=.type "function"
 G:XGet K (Ae K c)
 no:NoAttr K (Ae K c) f
noncomputable def Xy(K:xB)(a:jx):Bool:=match K.lookup a with
 |some ⟨.type t,_,_,_⟩=>t == "function"
 |_=>xH
theorem ZEq{a:jx}(h:Xy K a=xG):∃o,K.lookup a=xE o/\o.cls=.type "function":=by
 unfold Xy at h;split at h
 ·rename_i t _ _ _ e;exact⟨_,e,by rw[beq_iff_eq.mp h]⟩
 ·cases h
def Wz(c f:Str)(K:xB):Bool:=gOk K c&&keepIn K (.ref (Ae K c))&&(Jk K (Ae K c)&&S6 K (Ae K c)&&T5 K (Ae K c)&&Rf (takerIn K (Ae K c) f)&&hasDictIn K (Ae K c))&&Jr K (Ae K c) (Cz K (Ae K c) "__init__")&&Xy K (Cz K (Ae K c) "__init__") &&
 (isB (findIn K (.ref (Ae K c)) "__getattribute__") "BaseException.__getattribute__"&&Rf (findIn K (.ref (Ae K c)) "__getattr__")&&Bt (subIn K (.ref (Ae K c)) (.type "BaseException")) xG&&isB (findIn K (.ref (Ae K c)) "__class__") "object.__class__" &&
  isB (specialIn K (.builtin "object.__class__") "__get__") "getset_descriptor.__get__"&&Bt (takesIn K (.builtin "object.__class__")) xG&&Bt (mroIn K (Ae K c) (.type "object")) xG&&Bt (kitCls K (.ref (Ae K c)) (.ref (Ae K c))) xG)&&noF K (Ae K c) f
theorem ZHL{c f:Str}(X:K.In h)(G:h.Ns jR mg)(s:Wz c f K=xG):ET K mg c f:=by simp only[Wz,zY]at s;obtain⟨⟨⟨⟨⟨⟨h1,h2⟩,⟨⟨⟨h3,h4⟩,h5⟩,h6⟩,h7⟩,h8⟩,h9⟩,⟨⟨⟨⟨⟨⟨g1,g2⟩,g3⟩,g4⟩,g5⟩,g6⟩,g7⟩,g8⟩,h10⟩:=s;exact⟨Lw h1,mg_of X G (Lw h1),h2,⟨h3,ZC1 h4,h5,ZBj h6,h7⟩,h8,ZEq h9,⟨Pj g1,ZBj g2,Lh g3,h7,Pj g4,Pj g5,Lh g6,Lh g7,Lh g8,h3⟩,ZBi h10⟩
noncomputable def Zd(r:Option CFound)(n:String):Bool:=match r with
 |some (.val (.builtin m))=>m==n
 |_=>xH
theorem ZEs{r:Option CFound}{n:String}(h:Zd r n=xG):r=xE (.val (.builtin n)):=by
 unfold Zd at h;split at h
 ·rw[beq_iff_eq.mp h]
 ·cases h
def Ur(x:Str)(K:xB):Bool:=gOk K x&&isB (specialIn K (.ref (Ae K x)) "__getattribute__") "type.__getattribute__"&&readsIn K (Ae K x) (.type "type")&&Zd (findCls K (.ref (Ae K x)) (.type "type") "__init__") "ValueError.__init__"
theorem ZJT{x:Str}(X:K.In h)(G:h.Ns jR mg)(s:Ur x K=xG):XBase K mg x (Ae K x):=by simp only[Ur,zY]at s;obtain⟨⟨⟨h1,h2⟩,h3⟩,h4⟩:=s;exact⟨mg_of X G (Lw h1),Pj h2,h3,ZEs h4⟩
theorem Ep{x:Str}(X:K.In h)(G:h.Ns jR mg)(s:gOk K x=xG):mg x=xE (.ref (Ae K x)):=mg_of X G (Lw s)
abbrev FnX(P:j1)(w:j6)(K:xB)(mg:Str->Option j5)(base:Heap)(k:Nat)(n:Str)(ps:List Str)(F:List D->DH->R D):Prop:=FnOk P w K mg base (CXx P w) k (Ae K n) (By K (Ae K n)) ps (lFx K F)
theorem ZFJ{X:Cx}:Passes (CXx X.prog X.w) X E0:=λxD σ H s e s' I h=>by obtain⟨_,_,_,_,_,_,_,_,_,_,_,_,_,z,_⟩:=h;exact z.elim
section
variable{X:Cx}{E:XK}{c x n f v:Str}{e a:jk}{es:List jk}{t:DE}{tr:DA}{p q pos cpos np:Pos}{b:Bool}{F:List D->DH->R D}{k j:Nat}{ps:List Str}{st:j4}
theorem Ru(FF:FnX X.prog X.w X.K X.mg X.base k n ps F)(T:FT X.K X.mg n st ps)(hr:Room j X.A)(ha:QA X E0 (e::es) tr)(hj:Nat.ble k j=xG:=by rfl)(hg:Gl X n:=by rfl)(hdb:(n==("__debug__":Str))=xH:=by decide)(he:notStar e=xG:=by rfl)(hpl:es.all notStar=xG:=by rfl):
  QE X E0 (.Call (.Name n p) (e::es) [] pos) (dFn F tr):=ZHo FF (hr.mono (qD hj)) hg T.m T.k T.b ZFJ ha hdb he hpl
theorem ZA6{P:jx->Bool->Prop}(hn:nsIn K jR c=xE (xE (.ref (Ae K c))))(h:P (Ae K c) b):∀c' b',[(c,b)].lookup c'=xE b'->∀C,nsIn K jR c'=xE (xE (.ref C))->P C b':=by
 intro c' b' hl C hC;by_cases z:c'=c
 ·subst z;rw[hn]at hC;cases hC;simp only[jX,beq_self_eq_true]at hl;cases hl;exact h
 ·have:(c'==c)=xH:=by simpa using z
  simp only[jX,this]at hl;cases hl
theorem Fj{w:Str}(N:nsIn X.K jR c=xE (xE (.ref (Ae X.K c))))(G:XGet X.K (Ae X.K c))(hm:X.mg "isinstance"=xF)(mw:X.mg w=xE (.ref (Ae X.K w)))(k:Bt (kitOne X.K (.ref (Ae X.K c)) (.ref (Ae X.K w))) b=xG)(ha:QE X E e t)(hg:Gl X "isinstance":=by rfl)(gw:Gl X w:=by rfl)(hd:(w==("__debug__":Str))=xH:=by decide)(he:notStar e=xG:=by rfl):
  QE X E (.Call (.Name "isinstance" p) [e,.Name w q] [] pos) (dUn (isx [(c,b)]) t):=
 ZCE (cv:=.ref (Ae X.K w)) (cu:=.ref (Ae X.K w)) hg hm ha (ZBX gw mw rfl hd) (λu h=>h) (ZA6 N ⟨G,Lh k⟩) he rfl
theorem ZHr{w:Str}{T:String}(N:nsIn X.K jR c=xE (xE (.ref (Ae X.K c))))(G:XGet X.K (Ae X.K c))(hm:X.mg "isinstance"=xF)(mw:X.mg w=xF)(hv:jC w=xE (.type T))(k:Bt (kitOne X.K (.ref (Ae X.K c)) (.type T)) b=xG)(ha:QE X E e t)(hg:Gl X "isinstance":=by rfl)(gw:Gl X w:=by rfl)(hn:w≠"__name__":=by decide)(hd:(w==("__debug__":Str))=xH:=by decide)(he:notStar e=xG:=by rfl):
  QE X E (.Call (.Name "isinstance" p) [e,.Name w q] [] pos) (dUn (isx [(c,b)]) t):=
 ZCE (cv:=.ty T) (cu:=.type T) hg hm ha (ZBb gw mw hv rfl hn hd) (λu h=>h) (ZA6 N ⟨G,Lh k⟩) he rfl
theorem ZHl(T:ET X.K X.mg c f)(ha:QE X E e t)(hb:j8 e f X.env (eval e X.env)=eval e X.env:=by rfl):QE X E (.Attribute e f pos) (dUn (gtx [c] f) t):=
 ZGd ha (λc' hc C hC=>by cases qy.mp hc;rw[T.N]at hC;cases hC;exact⟨T.G,T.no⟩) hb
theorem ZFC(T:ET X.K X.mg c f)(FI:FnOk X.prog X.w X.K X.mg X.base CX0 k (Cz X.K (Ae X.K c) "__init__") (By X.K (Cz X.K (Ae X.K c) "__init__")) ["self",v] (spI (Ae X.K c) f))(hb:Binds X.K (By X.K (Cz X.K (Ae X.K c) "__init__")) ["self",v] [])(hr:Room j X.A)(ha:QA X E [a] tr)
  (hxe:∀e s,Ol X E e s->X.xe e s:=by exact λ_ _ h=>h) (hj:Nat.ble (k+1) j=xG:=by rfl) (hcalm:X.calm=xG:=by rfl) (hs:X.stack=X.env::X.outer:=by rfl) (hex:X.ex=[]:=by rfl) (hfr:X.env.frame=xE X.env.locals:=by rfl) (hg:Gl X c:=by rfl) (hdb:(c==("__debug__":Str))=xH:=by decide) (hst:notStar a=xG:=by rfl):
  QS X E (.Raise (xE (.Call (.Name c np) [a] [] cpos)) xF pos) (sRz c f tr):=
 ZGT T.N hcalm hs hex hfr hxe T.X T.i T.o FI (hr.mono (qD hj)) hb hg T.g T.k ha hdb hst
theorem ZGy{i:Nat}{fp cp ep hp:Pos}{b₀:j4}{suite:List j4}{hb:DS}{w:Str}(N:nsIn X.K jR c=xE (xE (.ref (Ae X.K c))))(hw:takes X.K (Ae X.K c) (Ae X.K w)=xG)(mw:X.mg w=xE (.ref (Ae X.K w)))(FF:FnX X.prog X.w X.K X.mg X.base k n ps F)(T:FT X.K X.mg n st ps)(hr:Room j X.A)
  (ha:QA X.nox E0 (a::es) tr) (hN:X.N.Nodup) (hh:∀ea,RoomH j (J1 X ea).A->QSs (J1 X ea) E0 (b₀::suite) hb) (hj:Nat.ble k j=xG:=by rfl) (hcalm:X.calm=xG:=by rfl) (hs:X.stack=X.env::X.outer:=by rfl) (hfr:X.env.frame=xE X.env.locals:=by rfl) (hg:Gl X n:=by rfl) (hgw:Gl X w:=by rfl) (hi:X.N[i]?=xE x:=by rfl) (hl:X.env.kindOf x=xE .local:=by rfl)
  (hdb:(n==("__debug__":Str))=xH:=by decide) (hdx:(w==("__debug__":Str))=xH:=by decide) (he:xQ (a::es) X.env=(xH,eval a X.env)::xQ es X.env:=by rfl) (hpl:(j9 cp (xQ es X.env)).any (·.1)=xH:=by rfl)
  (hsw:swapsWith (.Call (.Name n fp) (a::es) [] cp) xF ep.line X.env=pure xH:=by rfl):
  QS X E (.Try [.Expr (.Call (.Name n fp) (a::es) [] cp) ep] [.ExceptHandler (xE (.Name w np)) (xE x) (b₀::suite) hp] [] [] pos) (Jp [c] i F tr hb):=
 ZFu hcalm hs hfr FF (hr.mono (qD hj)) T.b hg T.m T.k ha hgw mw hN hi hl (λc' hc C hC=>by cases qy.mp hc;rw[N]at hC;cases hC;exact hw) (λea=>hh ea (RoomH.held (.of hr))) hdb hdx he hpl hsw
end
noncomputable def SR.nr:SR->SR
 |.err _ _=>.bad
 |r=>r
def sNr(t:DS):DS:=λS G=>(t S G).nr
@[simp]theorem ev_sNr{t:DS}{S:DSt}:sNr t S G=(t S G).nr:=id rfl
@[simp]theorem nr_nx{S:DSt}:(SR.nx S G).nr=.nx S G:=id rfl
@[simp]theorem nr_rt{d:D}:(SR.rt d G).nr=.rt d G:=id rfl
theorem ZJl{E:XK}{t:DS}{W:Ends}{σ:St}{H:Hp}(h:lS K E (sNr t) W σ H):lS K E0 t W σ H:=by
 obtain⟨a,S,G,hk,rfl,sm,r,h⟩:=h;refine⟨a,S,G,hk,rfl,sm,r,?_⟩;unfold sNr at h
 revert h
 cases t S G with
 |err x G1=>exact λh=>h.elim
 |nx S1 G1=>exact λh=>h
 |bk S1 G1=>exact λh=>h
 |ct S1 G1=>exact λh=>h
 |rt d G1=>exact λh=>h
 |bad=>exact λh=>h
theorem ZFG{X:Cx}{E:XK}{s:j4}{t:DS}(h:QS X E0 s t):QS X E s (sNr t):=PS.mono h λ_ _ _ z=>ZJl z
end _D
namespace _W
open PySem _L _D
noncomputable def top(i:Nat):j4:=PySem.Challenge.pw_sluiceway_k02_rivers_of_a_house.main.body.getD i (.Pass ⟨0,0,0,0⟩)
noncomputable def inC(s:j4)(j:Nat):j4:=match s with
 |.ClassDef _ _ _ body _ _ _ _ _ _ _=>body.getD j (.Pass ⟨0,0,0,0⟩)
 |_=>.Pass ⟨0,0,0,0⟩
noncomputable abbrev Y0:j4:=inC (top 3) 0
theorem ZFW:FnScope ["self","place"] ["self","place"] (Aw Y0):=⟨rfl,rfl,rfl,by decide +kernel,rfl,by decide +kernel,by decide +kernel⟩
noncomputable abbrev Uj:j4:=top 46
noncomputable abbrev ZBL:List Str:=["_law_script","_law_k"]
noncomputable abbrev Ul:List Str:=ZBL.take 2
theorem ZFy:FnScope ZBL Ul (Aw Uj):=⟨rfl,rfl,rfl,by decide +kernel,rfl,by decide +kernel,by decide +kernel⟩
noncomputable abbrev Nh:j4:=top 49
noncomputable abbrev Sy:List Str:=["_law_xs","_law_letters","_law_names_here","_law_x","_law_word","_law_rest","_law_j","_law_some"]
noncomputable abbrev W4:List Str:=Sy.take 1
theorem H8:FnScope Sy W4 (Aw Nh):=⟨rfl,rfl,rfl,by decide +kernel,rfl,by decide +kernel,by decide +kernel⟩
noncomputable abbrev Ze:j4:=top 48
noncomputable abbrev ZDY:List Str:=["_law_cell","_law_k","_law_many","_law_number_here","_law_left","_law_found","_law_j"]
noncomputable abbrev Wq:List Str:=ZDY.take 3
theorem Jg:FnScope ZDY Wq (Aw Ze):=⟨rfl,rfl,rfl,by decide +kernel,rfl,by decide +kernel,by decide +kernel⟩
noncomputable abbrev K6:j4:=top 50
noncomputable abbrev M7:List Str:=["_law_cell","_law_letters","_law_xs","_law_word","_law_turned","_law_other","_law_names_here","_law_k","_law_name","_law_size","_law_at","_law_sign"]
noncomputable abbrev W8:List Str:=M7.take 1
theorem Dt:FnScope M7 W8 (Aw K6):=⟨rfl,rfl,rfl,by decide +kernel,rfl,by decide +kernel,by decide +kernel⟩
noncomputable abbrev Wk:j4:=top 54
noncomputable abbrev ZBe:List Str:=["_law_x"]
noncomputable abbrev Vq:List Str:=ZBe.take 1
theorem ZFv:FnScope ZBe Vq (Aw Wk):=⟨rfl,rfl,rfl,by decide +kernel,rfl,by decide +kernel,by decide +kernel⟩
noncomputable abbrev Ym:j4:=top 51
noncomputable abbrev ZDZ:List Str:=["_law_x","_law_cell"]
noncomputable abbrev Z2:List Str:=ZDZ.take 2
theorem ZHv:FnScope ZDZ Z2 (Aw Ym):=⟨rfl,rfl,rfl,by decide +kernel,rfl,by decide +kernel,by decide +kernel⟩
noncomputable abbrev R7:j4:=top 55
noncomputable abbrev V8:List Str:=["_law_rule_here"]
noncomputable abbrev Vv:List Str:=V8.take 1
theorem ZHe:FnScope V8 Vv (Aw R7):=⟨rfl,rfl,rfl,by decide +kernel,rfl,by decide +kernel,by decide +kernel⟩
noncomputable abbrev Yd:j4:=top 52
noncomputable abbrev ZCl:List Str:=["_law_xs","_law_cell","_law_pumps","_law_steps","_law_top","_law_j","_law_height","_law_many","_law_way"]
noncomputable abbrev V1:List Str:=ZCl.take 3
theorem Ho:FnScope ZCl V1 (Aw Yd):=⟨rfl,rfl,rfl,by decide +kernel,rfl,by decide +kernel,by decide +kernel⟩
noncomputable abbrev W0:j4:=top 53
noncomputable abbrev ZCI:List Str:=["_law_xs","_law_cell","_law_year","_law_pumps","_law_seasons","_law_begin","_law_j"]
noncomputable abbrev Zb:List Str:=ZCI.take 4
theorem Mz:FnScope ZCI Zb (Aw W0):=⟨rfl,rfl,rfl,by decide +kernel,rfl,by decide +kernel,by decide +kernel⟩
noncomputable abbrev Wt:j4:=top 56
noncomputable abbrev ZA8:List Str:=["_law_names_here","_law_many","_law_k","_law_year","_law_cell","_law_xs","_law_down","_law_head","_law_pumps","_law_rule_here","_law_pump","_law_to"]
noncomputable abbrev Ys:List Str:=ZA8.take 5
theorem Gw:FnScope ZA8 Ys (Aw Wt):=⟨rfl,rfl,rfl,by decide +kernel,rfl,by decide +kernel,by decide +kernel⟩
noncomputable abbrev Ra:j4:=top 57
noncomputable abbrev W2:List Str:=["_law_script","_law_at","_law_many","_law_year","_law_names_here","_law_places"]
noncomputable abbrev Xr:List Str:=W2.take 2
theorem Mx:FnScope W2 Xr (Aw Ra):=⟨rfl,rfl,rfl,by decide +kernel,rfl,by decide +kernel,by decide +kernel⟩
noncomputable abbrev Yz:j4:=top 47
noncomputable abbrev ZCU:List Str:=["_law_found"]
noncomputable abbrev Ye:List Str:=ZCU.take 1
theorem ZIA:FnScope ZCU Ye (Aw Yz):=⟨rfl,rfl,rfl,by decide +kernel,rfl,by decide +kernel,by decide +kernel⟩
noncomputable abbrev Vi:j4:=top 43
noncomputable abbrev ZA1:List Str:=["house","name","number","place"]
noncomputable abbrev Wf:List Str:=ZA1.take 2
theorem Us:FnScope ZA1 Wf (Aw Vi):=⟨rfl,rfl,rfl,by decide +kernel,rfl,by decide +kernel,by decide +kernel⟩
noncomputable abbrev Yk:j4:=top 44
noncomputable abbrev ZB4:List Str:=["house","place","name"]
noncomputable abbrev Xd:List Str:=ZB4.take 2
theorem ZCc:FnScope ZB4 Xd (Aw Yk):=⟨rfl,rfl,rfl,by decide +kernel,rfl,by decide +kernel,by decide +kernel⟩
noncomputable abbrev Wv:j4:=top 59
noncomputable abbrev ZA0:List Str:=["_law_house_here","_law_k","_law_down","_law_places"]
noncomputable abbrev W6:List Str:=ZA0.take 2
theorem Xo:FnScope ZA0 W6 (Aw Wv):=⟨rfl,rfl,rfl,by decide +kernel,rfl,by decide +kernel,by decide +kernel⟩
noncomputable abbrev Y4:j4:=top 58
noncomputable abbrev ZC3:List Str:=["_law_house_here","_law_name","_law_caught","e","_law_others"]
noncomputable abbrev Yl:List Str:=ZC3.take 2
theorem Je:FnScope ZC3 Yl (Aw Y4):=⟨rfl,rfl,rfl,by decide +kernel,rfl,by decide +kernel,by decide +kernel⟩
noncomputable abbrev T8:j4:=top 33
noncomputable abbrev Z9:List Str:=["thing"]
noncomputable abbrev Wc:List Str:=Z9.take 1
theorem ZJc:FnScope Z9 Wc (Aw T8):=⟨rfl,rfl,rfl,by decide +kernel,rfl,by decide +kernel,by decide +kernel⟩
noncomputable abbrev Uo:j4:=top 38
noncomputable abbrev ZAv:List Str:=["pump","others"]
noncomputable abbrev Wg:List Str:=ZAv.take 2
theorem ZEZ:FnScope ZAv Wg (Aw Uo):=⟨rfl,rfl,rfl,by decide +kernel,rfl,by decide +kernel,by decide +kernel⟩
noncomputable abbrev Xl:j4:=top 36
noncomputable abbrev ZCN:List Str:=["place","later"]
noncomputable abbrev Wo:List Str:=ZCN.take 2
theorem ZHa:FnScope ZCN Wo (Aw Xl):=⟨rfl,rfl,rfl,by decide +kernel,rfl,by decide +kernel,by decide +kernel⟩
noncomputable abbrev Wy:j4:=top 40
noncomputable abbrev ZDc:List Str:=["rule","year","ahead","first","stairs"]
noncomputable abbrev Xp:List Str:=ZDc.take 2
theorem Ng:FnScope ZDc Xp (Aw Wy):=⟨rfl,rfl,rfl,by decide +kernel,rfl,by decide +kernel,by decide +kernel⟩
noncomputable abbrev W5:j4:=top 41
noncomputable abbrev ZBc:List Str:=["stairs","end","height","many","way"]
noncomputable abbrev Yq:List Str:=ZBc.take 1
theorem Ks:FnScope ZBc Yq (Aw W5):=⟨rfl,rfl,rfl,by decide +kernel,rfl,by decide +kernel,by decide +kernel⟩
noncomputable abbrev Pu:j4:=top 42
noncomputable abbrev Ue:List Str:=["stairs","pump","pumped"]
noncomputable abbrev Yv:List Str:=Ue.take 2
theorem ZB7:FnScope Ue Yv (Aw Pu):=⟨rfl,rfl,rfl,by decide +kernel,rfl,by decide +kernel,by decide +kernel⟩
noncomputable abbrev V3:j4:=top 39
noncomputable abbrev ZCB:List Str:=["rule","pump","year","first","stairs"]
noncomputable abbrev Vl:List Str:=ZCB.take 3
theorem Vc:FnScope ZCB Vl (Aw V3):=⟨rfl,rfl,rfl,by decide +kernel,rfl,by decide +kernel,by decide +kernel⟩
noncomputable abbrev Wm:j4:=top 37
noncomputable abbrev ZAu:List Str:=["place"]
noncomputable abbrev Yi:List Str:=ZAu.take 1
theorem ZJs:FnScope ZAu Yi (Aw Wm):=⟨rfl,rfl,rfl,by decide +kernel,rfl,by decide +kernel,by decide +kernel⟩
noncomputable abbrev N6:j4:=top 35
noncomputable abbrev Sv:List Str:=["house","number","places","place","ahead","later"]
noncomputable abbrev Uk:List Str:=Sv.take 2
theorem Mj:FnScope Sv Uk (Aw N6):=⟨rfl,rfl,rfl,by decide +kernel,rfl,by decide +kernel,by decide +kernel⟩
noncomputable abbrev Vk:j4:=top 34
noncomputable abbrev ZCn:List Str:=["house","places","number"]
noncomputable abbrev Yg:List Str:=ZCn.take 1
theorem Um:FnScope ZCn Yg (Aw Vk):=⟨rfl,rfl,rfl,by decide +kernel,rfl,by decide +kernel,by decide +kernel⟩
noncomputable abbrev G8:j4:=top 60
noncomputable abbrev ZAt:List Str:=["_law_script","_law_house_here","_law_names_here","_law_many","_law_told","_law_k","_law_found","_law_name"]
noncomputable abbrev Yj:List Str:=ZAt.take 1
theorem Ie:FnScope ZAt Yj (Aw G8):=⟨rfl,rfl,rfl,by decide +kernel,rfl,by decide +kernel,by decide +kernel⟩
def ZAw:DS:=(Ah (sIf (Av (dOp Gg (dV 1) (dFn Fg (Ab (dV 0) Ag)))) (sRt (dOp Ak (dV 0) (dV 1))) sNx) (sRt (dC (.int 0))))
def Gb:List D->DH->R D:=Bu 2 0 ZAw
def R3:DS:=(Ah (sAs (dOp Aq (dV 4) (dOp Ak (dV 1) (dOp Bd (dV 5) (dC (.int 26))))) (gV 4)) (sAs (dOp Dy (dV 5) (dC (.int 26))) (gV 5)))
def Ow:DE:=(dOp Aq (dC (.str "z")) (dV 0))
def R8:DE:=(dV 0)
def Pk:DB:=(K5 (Av (dOp Nk (dV 0) (dV 1))) (Av (dOp G7 (dV 0) (dC (.str "sea")))))
def Py:DS:=(Ah (sAs (dC (.str "")) (gV 4)) (Ah (sAs (dOp Dy (dV 3) (dC (.int 8))) (gV 5)) (Ah (Ds (Ef rng1 (Ab (dOp Aq (dC (.int 1)) (dOp Bd (dV 3) (dC (.int 8)))) Ag)) (gV 6) R3) (Ah (sAs (Ba (dOp Aq (Ba (dFn Ay (Ab (dV 4) Ag))) (Ba (Dw (Dr (dV 1)) 1 [] (gV 0) Cm Ow)))) (gV 7)) (sEx (K8 J6 (dV 2) (Ab (dOp Ak (Ba (Dw (Dr (dV 7)) 1 [2] (gV 0) Pk R8)) (dC (.int 0))) Ag)))))))
def ZBw:DS:=(Ah (sAs (dC (.str "abcdefghijklmnopqrstuvwxyz")) (gV 1)) (Ah (sAs (Ir (dFn Ay Ag)) (gV 2)) (Ah (Ds (Dr (dV 0)) (gV 3) Py) (sRt (dV 2)))))
def Qn:List D->DH->R D:=Bu 1 7 ZBw
def T6:DS:=(Ah (sAs (dOp Bd (dOp Aq (dOp Aq (dOp Cv (dV 3) (dV 3)) (dOp Cv (dC (.int 48271)) (dV 6))) (dC (.int 11))) (dC (.int 2147483647))) (gV 3)) (Ah (sEx (K8 J6 (dV 5) (Ab (dOp Ak (Ba (dFn Ay (Ab (dV 3) (Ab (dOp Bd (dV 4) (dOp Hw (dC (.int 10)) (dC (.int 42)))) Ag)))) (dFn Mr (Ab (dOp Hl (dV 4) (dC (.int 0))) Ag))) Ag))) (sAs (dOp Dy (dV 4) (dOp Hw (dC (.int 10)) (dC (.int 42)))) (gV 4))))
def ZCg:DS:=(Ah (sAs (dOp Bd (dOp Cv (dOp Aq (dOp Bd (dV 0) (dC (.int 999999937))) (dC (.int 2))) (dOp Aq (dOp Cv (dOp Cv (dC (.int 7919)) (dV 1)) (dV 1)) (dC (.int 48271)))) (dC (.int 2147483647))) (gV 3)) (Ah (sAs (dC (.int 0)) (gV 4)) (Ah (sIf (dOr (Av (dOp Gg (dV 0) (dC (.int 0)))) (Av (dOp Y9 (dV 0) (dOp Hw (dC (.int 10)) (dC (.int 18)))))) (sAs (dFn U5 (Ab (dV 0) (Ab (dOp Ft (dC (.int 0)) (dV 0)) Ag))) (gV 4)) sNx) (Ah (sAs (Ir (dFn Ay Ag)) (gV 5)) (Ah (Ds (Ef rng1 (Ab (dV 2) Ag)) (gV 6) T6) (sRt (dV 5)))))))
def Iw:List D->DH->R D:=Bu 3 4 ZCg
def R9:DE:=(dOp Ak (dV 1) (dOp Bd (dV 0) (dC (.int 26))))
def Rv:DE:=(Ba (dSl (dV 1) xF (xE (dOp Aq (dV 0) (dC (.int 1))))))
def Su:DE:=(Ba (dSl (dV 1) xF (xE (dOp Aq (dV 0) (dC (.int 1))))))
def Sx:DE:=(dOp Ak (Ba (dFn Ay (Ab (dV 0) (Ab (dC (.str "sa")) Ag)))) (dFn Mr (Ab (dOp Cd (dV 0) (dC (.str "sea"))) Ag)))
def Oh:DS:=(Ah (sAs (dOp Ak (dV 1) (dOp Bd (dOp Aq (dOp Ak (dV 2) (dC (.int 10))) (dOp Cv (dC (.int 5)) (dV 7))) (dC (.int 26)))) (gV 11)) (Ah (sAs (Ba (dOp Aq (Ba (dOp Aq (Ba (dSl (dV 3) xF (xE (dV 10)))) (dV 11))) (Ba (dSl (dV 3) (xE (dV 10)) (xE (dV 9)))))) (gV 8)) (Ah (sIf (Av (dOp Cd (dV 8) (dC (.str "sea")))) (sAs (dC (.str "seat")) (gV 8)) sNx) (sEx (K8 J6 (dV 6) (Ab (dV 8) Ag))))))
def ZC8:DS:=(sRt (dV 6))
def ZCF:DS:=(Ah (Ds (Ef rng1 (Ab (dC (.int 12)) Ag)) (gV 7) Oh) ZC8)
def ZCQ:DS:=(Ah (sAs (Ir (dFn Ay Ag)) (gV 6)) ZCF)
def ZBp:DS:=(Ah (sAs (dOp Bd (dOp Ak (dV 2) (dC (.int 9))) (dOp Aq (dV 9) (dC (.int 1)))) (gV 10)) ZCQ)
def ZDa:DS:=(Ah (sAs (dOp Bd (dOp Dy (dOp Ak (dV 2) (dC (.int 8))) (dC (.int 3))) (dC (.int 8))) (gV 9)) ZBp)
def Mt:DS:=(Ah (sIf (Av (dOp Cd (dOp Bd (dOp Ak (dV 2) (dC (.int 8))) (dC (.int 3))) (dC (.int 0)))) (Ah (sAs (dOp Bd (dOp Aq (dOp Aq (Rw Q0 (dV 1) (Ab (dOp Ak (dV 3) (dC (.int 0))) Ag)) (dC (.int 1))) (dOp Bd (dOp Ak (dV 2) (dC (.int 9))) (dC (.int 25)))) (dC (.int 26))) (gV 4)) (Ah (sAs (Ba (dOp Aq (dOp Ak (dV 1) (dV 4)) (Ba (dSl (dV 3) (xE (dC (.int 1))) xF)))) (gV 5)) (Ah (sAs (Dw (Ef rng1 (Ab (dC (.int 8)) Ag)) 1 [3] (gV 0) Cm Rv) (gV 6)) (Ah (sAs (Ir (dOp Aq (dV 6) (Ba (Dw (Ef rng1 (Ab (dC (.int 4)) Ag)) 1 [5] (gV 0) Cm Su)))) (gV 6)) (Ah (sAs (Dw (Dr (dV 6)) 1 [] (gV 0) Cm Sx) (gV 6)) (sRt (dOp Aq (Ba (dSl (dV 6) (xE (dOp Bd (dOp Ak (dV 2) (dC (.int 10))) (dC (.int 12)))) xF)) (Ba (dSl (dV 6) xF (xE (dOp Bd (dOp Ak (dV 2) (dC (.int 10))) (dC (.int 12))))))))))))) sNx) ZDa)
def Pg:DS:=(Ah (sIf (Av (dOp Cd (dOp Bd (dOp Dy (dOp Ak (dV 2) (dC (.int 10))) (dC (.int 26))) (dC (.int 4))) (dC (.int 0)))) (sAs (Ba (dSl (Ba (dOp Aq (dOp Ak (Ba (dFn Ay (Ab (dC (.str "sea")) (Ab (dC (.str "none")) Ag)))) (dOp Bd (dOp Dy (dOp Ak (dV 2) (dC (.int 10))) (dC (.int 104))) (dC (.int 2)))) (Ba (dSl (dV 3) (xE (dC (.int 3))) xF)))) xF (xE (dC (.int 8))))) (gV 3)) sNx) Mt)
def Qi:DS:=(Ah (sAs (Rw Kq (dC (.str "")) (Ab (Ba (Dw (Dr (Ba (dSl (dV 2) xF (xE (dC (.int 8)))))) 1 [1] (gV 0) Cm R9)) Ag)) (gV 3)) Pg)
def Oc:DS:=(Ah (sIf (Av (dOp Hl (dOp Ak (dV 2) (dC (.int 11))) (dC (.int 2147483647)))) (sRt (dFn Qn (Ab (Ba (dSl (dV 2) (xE (dC (.int 11))) (xE (dC (.int 23))))) Ag))) sNx) Qi)
def Og:DS:=(Ah (sAs (Ba (dFn Iw (Ab (dV 0) (Ab (dC (.int 0)) (Ab (dC (.int 24)) Ag))))) (gV 2)) Oc)
def Nf:DS:=(Ah (sAs (dC (.str "abcdefghijklmnopqrstuvwxyz")) (gV 1)) Og)
def Gn:List D->DH->R D:=Bu 1 11 Nf
def Vo:DS:=(Ah (sIf (Av (dOp Hl (dV 0) (dC (.int 2147483647)))) (sRt (dOp Cv (dOp Bd (dOp Dy (dV 0) (dC (.int 2))) (dOp Hw (dC (.int 10)) (dC (.int 38)))) (dOp Bd (dV 0) (dC (.int 2))))) sNx) (sRt (dOp Cv (dOp Bd (dV 0) (dC (.int 50))) (dOp Bd (dOp Dy (dV 0) (dC (.int 50))) (dC (.int 2))))))
def Om:List D->DH->R D:=Bu 1 0 Vo
def ZDQ:DS:=(Ah (sIf (Av (dOp Cd (dOp Bd (dV 0) (dC (.int 4))) (dC (.int 0)))) (sRt (dC (.int 0))) sNx) (Ah (sIf (K5 (Av (dOp Cd (dOp Bd (dV 0) (dC (.int 4))) (dC (.int 1)))) (Av (dOp Hl (dV 0) (dC (.int 2147483647))))) (sRt (dOp Bd (dOp Dy (dV 0) (dC (.int 4))) (dOp Hw (dC (.int 10)) (dC (.int 38))))) sNx) (Ah (sIf (Av (dOp Cd (dOp Bd (dV 0) (dC (.int 4))) (dC (.int 1)))) (sRt (dOp Bd (dOp Cv (dV 1) (dOp Aq (dOp Dy (dV 0) (dC (.int 4))) (dC (.int 2)))) (dOp Hw (dC (.int 10)) (dC (.int 38))))) sNx) (sRt (dOp Bd (dOp Dy (dV 0) (dC (.int 4))) (dC (.int 40)))))))
def Hu:List D->DH->R D:=Bu 2 0 ZDQ
def Rp:DE:=(dV 1)
def Tw:DB:=(Av (dOp Cd (dV 2) (dC (.str "pump"))))
def Q7:DE:=(dFn Ju (Ab (Ba (Dw (Dr (dV 1)) 3 [] (Cy 3 (Bk (gV 0) (Bk (gV 1) (Bk (gV 2) Df)))) Tw Rp)) Ag))
def ZCM:DS:=(sRt (dFn Ku (Ab (Ba (Dw (Dr (dV 0)) 2 [] (Cy 2 (Bk (gV 0) (Bk (gV 1) Df))) Cm Q7)) Ag)))
def U0:List D->DH->R D:=Bu 1 0 ZCM
def Ri:DS:=(Ah (sAs (dOp Aq (dV 4) (dFn Hu (Ab (dOp Ak (dV 0) (dOp Aq (dC (.int 1)) (dOp Cv (dC (.int 2)) (dV 5)))) (Ab (dV 1) Ag)))) (gV 6)) (Ah (sAs (dOp Aq (dC (.int 1)) (dFn Hu (Ab (dOp Ak (dV 0) (dOp Aq (dC (.int 2)) (dOp Cv (dC (.int 2)) (dV 5)))) (Ab (dV 1) Ag)))) (gV 7)) (Ah (sAs (dC (.str "river")) (gV 8)) (Ah (sIf (K5 (Av (dV 2)) (Av (dOp Cd (dOp Bd (dOp Dy (dOp Ak (dV 0) (dOp Aq (dC (.int 2)) (dOp Cv (dC (.int 2)) (dV 5)))) (dC (.int 160))) (dC (.int 2))) (dC (.int 0))))) (sAs (dC (.str "pump")) (gV 8)) sNx) (Ah (sEx (K8 J6 (dV 3) (Ab (dFn El (Ab (dV 6) (Ab (dV 7) (Ab (dV 8) Ag)))) Ag))) (sAs (dOp Aq (dV 6) (dV 7)) (gV 4)))))))
def ZBK:DS:=(Ah (sAs (Ir (dFn Ay Ag)) (gV 3)) (Ah (sAs (dC (.int 0)) (gV 4)) (Ah (Ds (Ef rng1 (Ab (dOp Bd (dOp Ak (dV 0) (dC (.int 0))) (dC (.int 4))) Ag)) (gV 5) Ri) (sRt (dFn Jc (Ab (dV 3) Ag))))))
def Tj:List D->DH->R D:=Bu 3 6 ZBK
def M6:DS:=(sIf (dOr (Av (dOp Cd (dV 6) (dC (.int 0)))) (K5 (Av (dOp Hl (dOp Bd (dOp Ak (dV 0) (dV 6)) (dC (.int 3))) (dC (.int 0)))) (Av (dOp Gg (dV 5) (dV 2))))) (Ah (sEx (K8 J6 (dV 4) (Ab (dFn El (Ab (dV 5) (Ab (dFn Tj (Ab (Ba (dSl (dV 0) (xE (dOp Aq (dC (.int 3)) (dOp Cv (dC (.int 7)) (dV 6)))) (xE (dOp Aq (dC (.int 10)) (dOp Cv (dC (.int 7)) (dV 6)))))) (Ab (dV 1) (Ab (dV 3) Ag)))) Ag))) Ag))) (sAs (dOp Aq (dOp Aq (dV 5) (dC (.int 1))) (dOp Bd (dOp Dy (dOp Ak (dV 0) (dV 6)) (dC (.int 3))) (dC (.int 9)))) (gV 5))) sNx)
def ZCv:DS:=(Ah (sAs (Ir (dFn Ay Ag)) (gV 4)) (Ah (sAs (dC (.int 0)) (gV 5)) (Ah (Ds (Ef rng1 (Ab (dC (.int 3)) Ag)) (gV 6) M6) (sRt (dFn Jc (Ab (dV 4) Ag))))))
def Sh:List D->DH->R D:=Bu 4 3 ZCv
def Vp:DS:=(sRt (dOp Aq (dOp Aq (dFn El (Ab (dC (.str "basin")) Ag)) (dV 7)) (dFn El (Ab (dFn Hu (Ab (dOp Ak (dV 5) (dC (.int 3))) (Ab (dV 4) Ag))) (Ab (dV 9) (Ab (dV 10) Ag))))))
def Uc:DS:=(Ah (sIf (Av (dV 8)) (Ah (sAs (dOp Bd (dOp Aq (dOp Aq (dV 2) (dC (.int 1))) (dOp Bd (dOp Ak (dV 5) (dC (.int 6))) (dOp Ft (dV 1) (dC (.int 1))))) (dV 1)) (gV 11)) (sAs (dFn El (Ab (dOp Ak (dV 0) (dV 11)) (Ab (dOp Aq (dC (.int 1)) (dOp Bd (dOp Ak (dV 5) (dC (.int 7))) (dC (.int 5)))) (Ab (dOp Aq (dFn U0 (Ab (dV 9) Ag)) (dFn Om (Ab (dOp Ak (dV 5) (dC (.int 4))) Ag))) Ag)))) (gV 10))) sNx) Vp)
def Vh:DS:=(Ah (sAs (dC .non) (gV 10)) Uc)
def Z5:DS:=(Ah (sAs (dFn Sh (Ab (Ba (dSl (dV 5) (xE (dC (.int 8))) (xE (dC (.int 32))))) (Ab (dV 4) (Ab (dV 3) (Ab (dV 8) Ag))))) (gV 9)) Vh)
def Z8:DS:=(Ah (sAs (J7 (dOp Hl (dV 1) (dC (.int 1))) (dOp Hl (dOp Bd (dOp Ak (dV 5) (dC (.int 5))) (dC (.int 3))) (dC (.int 0)))) (gV 8)) Z5)
def Qp:DS:=(Ah (sIf (Av (dOp Cd (dOp Bd (dOp Ak (dV 5) (dC (.int 2))) (dC (.int 5))) (dC (.int 1)))) (sRt (dOp Aq (dOp Aq (dFn El (Ab (dC (.str "town")) Ag)) (dV 7)) (dFn El (Ab (dFn Hu (Ab (dOp Ak (dV 5) (dC (.int 3))) (Ab (dV 4) Ag))) (Ab (dFn Hu (Ab (dOp Ak (dV 5) (dC (.int 4))) (Ab (dV 4) Ag))) Ag))))) sNx) Z8)
def M5:DS:=(Ah (sIf (Av (dOp Cd (dOp Bd (dOp Ak (dV 5) (dC (.int 2))) (dC (.int 5))) (dC (.int 0)))) (sRt (dOp Aq (dOp Aq (dFn El (Ab (dC (.str "mill")) Ag)) (dV 7)) (dFn El (Ab (dFn Hu (Ab (dOp Ak (dV 5) (dC (.int 3))) (Ab (dV 4) Ag))) Ag)))) sNx) Qp)
def Uy:DS:=(Ah (sAs (dFn El (Ab (dOp Ak (dV 0) (dV 2)) (Ab (dV 6) (Ab (dOp Bd (dOp Ak (dV 5) (dC (.int 1))) (dC (.int 6))) Ag)))) (gV 7)) M5)
def Y7:DS:=(Ah (sIf (Av (dOp Hl (dOp Bd (dOp Ak (dV 5) (dC (.int 0))) (dOp Ft (dV 1) (dV 2))) (dC (.int 0)))) (sAs (dOp Ak (dV 0) (dOp Aq (dV 2) (dOp Bd (dOp Ak (dV 5) (dC (.int 0))) (dOp Ft (dV 1) (dV 2))))) (gV 6)) sNx) Uy)
def Z0:DS:=(Ah (sAs (dC (.str "sea")) (gV 6)) Y7)
def Vr:DS:=(Ah (sAs (Ba (dFn Iw (Ab (dV 4) (Ab (dV 2) (Ab (dC (.int 33)) Ag))))) (gV 5)) Z0)
def Im:List D->DH->R D:=Bu 5 7 Vr
def Qu:DE:=(dFn Im (Ab (dV 5) (Ab (dV 3) (Ab (dV 0) (Ab (dV 4) (Ab (dFn Gb (Ab (dV 1) (Ab (dOp Aq (dOp Aq (dV 2) (dC (.int 3))) (dV 0)) Ag))) Ag))))))
def ZCi:DS:=(Ah (sAs (dOp Aq (dC (.int 1)) (dOp Bd (dFn Gb (Ab (dV 0) (Ab (dV 1) Ag))) (dC (.int 12)))) (gV 2)) (Ah (sAs (dOp Aq (dC (.int 1)) (dOp Bd (dFn Gb (Ab (dV 0) (Ab (dOp Aq (dV 1) (dC (.int 1))) Ag))) (dC (.int 24)))) (gV 3)) (Ah (sAs (Ba (dFn Gn (Ab (dFn Gb (Ab (dV 0) (Ab (dOp Aq (dV 1) (dC (.int 2))) Ag))) Ag))) (gV 4)) (Ah (sAs (Ba (Dw (Ef rng1 (Ab (dV 2) Ag)) 1 [0,1,2,3,4] (gV 0) Cm Qu)) (gV 5)) (sRt (dFn El (Ab (dV 3) (Ab (dFn Jc (Ab (dV 5) Ag)) Ag))))))))
def Lr:List D->DH->R D:=Bu 2 4 ZCi
def ZBE:DS:=(sRt (J7 (dFn Ja (Ab (dV 0) (Ab (dC (.ty "int")) Ag))) (T7 (dFn Ja (Ab (dV 0) (Ab (dC (.ty "bool")) Ag))))))
def Ma:List D->DH->R D:=Bu 1 0 ZBE
def Ij:DS:=(sIf (Av (dOp Cd (dOp Ak (dV 3) (dC (.int 1))) (dV 1))) (sRt (dV 2)) sNx)
def Yb:DS:=(Ah (sNr (Ds (Ef Od (Ab (dOp Ak (dV 0) (dC (.int 1))) Ag)) (Cy 2 (Bk (gV 2) (Bk (gV 3) Df))) Ij)) (sRz "NoName" "place" (Ab (dC .non) Ag)))
def Gp:List D->DH->R D:=Bu 2 2 Yb
def Zx:DS:=(Ah (sAs (dOp Ak (dOp Ak (dOp Ak (dV 0) (dC (.int 1))) (dV 1)) (dC (.int 2))) (gV 2)) (Ah (sIf (Av (dOp Cd (dV 2) (dC (.str "sea")))) (sRt (dC .non)) sNx) (sRt (dFn Gp (Ab (dV 0) (Ab (dV 2) Ag))))))
def Qd:List D->DH->R D:=Bu 2 1 Zx
def ZAY:DS:=(Ah (sAs (dFn Qd (Ab (dV 0) (Ab (dV 1) Ag))) (gV 2)) (Ah (sAs (dOp Ak (dV 0) (dC (.int 1))) (gV 3)) (Ah (sIf (Av (dOp Cd (dOp Ak (dOp Ak (dV 3) (dV 1)) (dC (.int 2))) (dC (.str "sea")))) (sRt (dOp Lx (dV 2) (dC .non))) sNx) (sRt (J7 (dFn Ma (Ab (dV 2) Ag)) (J7 (Gq Gg Gg (dV 1) (dV 2) (dFn Fg (Ab (dV 3) Ag))) (dOp Cd (dOp Ak (dOp Ak (dV 3) (dV 2)) (dC (.int 1))) (dOp Ak (dOp Ak (dV 3) (dV 1)) (dC (.int 2))))))))))
def Mi:List D->DH->R D:=Bu 2 2 ZAY
def Tr:DS:=(sAs (dV 3) (gV 2))
def ZCr:DS:=(sRt (T7 (dFn Lz (Ab (dV 4) Ag))))
def ZBA:DS:=(Ah (sAs (Ba (dOp Aq (dV 4) (Ba (dFn Ay (Ab (dUn (isx [("NoName",xH)]) (dV 2)) (Ab (dUn (isx [("NoName",xH)]) (dV 2)) (Ab (dUn (isx [("NoName",xH)]) (dV 2)) Ag))))))) (gV 4)) ZCr)
def Zu:DS:=(Ah (sAs (Ba (dOp Aq (dV 4) (Ba (dFn Ay (Ab (dUn (isx [("NoName",xH)]) (dV 2)) (Ab (dUn (isx [("NoName",xH)]) (dV 2)) (Ab (dUn (isx [("NoName",xH)]) (dV 2)) Ag))))))) (gV 4)) ZBA)
def ZAB:DS:=(Ah (sAs (Ba (dOp Aq (dV 4) (Ba (dFn Ay (Ab (dUn (isx [("NoName",xH)]) (dV 2)) (Ab (dUn (isx [("NoName",xH)]) (dV 2)) (Ab (dUn (isx [("NoName",xH)]) (dV 2)) Ag))))))) (gV 4)) Zu)
def ZDb:DS:=(Ah (sAs (Ba (dFn Ay (Ab (dUn (isx [("NoName",xH)]) (dV 2)) (Ab (dUn (isx [("NoName",xH)]) (dV 2)) (Ab (dUn (isx [("NoName",xH)]) (dV 2)) Ag))))) (gV 4)) ZAB)
def Wx:DS:=(Ah (sIf (dOr (Dc (Av (dUn (isx [("NoName",xG)]) (dV 2)))) (dOr (Dc (Av (dUn (isx [("NoName",xG)]) (dV 2)))) (Av (dOp Wa (dUn (gtx ["NoName"] "place") (dV 2)) (dC .non))))) (sRt (dC (.bl xH))) sNx) ZDb)
def ZDA:DS:=(Ah (Jp ["NoName"] 3 Gp (Ab (dV 0) (Ab (dV 1) Ag)) Tr) Wx)
def ZCD:DS:=(Ah (sAs (dC .non) (gV 2)) ZDA)
def Rg:List D->DH->R D:=Bu 2 3 ZCD
def Qj:DE:=(dOp Fx (dV 0) (dC (.str "abcdefghijklmnopqrstuvwxyz")))
def ZAR:DS:=(Ah (sIf (dOr (Av (dOp Cd (dV 0) (dC (.str "sea")))) (Dc (Av (Gq Fo Fo (dC (.int 1)) (dFn Fg (Ab (dV 0) Ag)) (dC (.int 8)))))) (sRt (dC (.bl xH))) sNx) (sRt (dFn Nz (Ab (Ba (Dw (Dr (dV 0)) 1 [] (gV 0) Cm Qj)) Ag))))
def Qs:List D->DH->R D:=Bu 1 0 ZAR
def ZDP:DS:=(Ah (sIf (Av (dOp Lx (dV 0) (dC .non))) (sRt (dC (.bl xG))) sNx) (sRt (J7 (dOp Fx (dOp Ak (dV 0) (dC (.int 0))) (dV 1)) (Gq Fo Fo (dC (.int 1)) (dOp Ak (dV 0) (dC (.int 1))) (dC (.int 5))))))
def Ry:List D->DH->R D:=Bu 2 0 ZDP
def ZAe:DS:=(sRt (J7 (Uw (dOp Cd (dOp Ak (dV 0) (dC (.int 2))) (dC (.str "sea"))) (dOp Fx (dOp Ak (dV 0) (dC (.int 2))) (dV 1))) (Gq Fo Fo (dC (.int 0)) (dOp Ak (dV 0) (dC (.int 3))) (dC (.int 5)))))
def Qe:List D->DH->R D:=Bu 2 0 ZAe
def Rb:DS:=(Ah (sIf (Dc (Av (Gq Gg Gg (dV 2) (dV 3) (dV 1)))) (sRt (dC (.bl xH))) sNx) (sAs (dV 3) (gV 2)))
def ZBU:DS:=(Ah (sIf (dOr (Av (dOp Cd (dFn Fg (Ab (dV 0) Ag)) (dC (.int 0)))) (Av (dOp G7 (dOp Ak (dOp Ak (dV 0) (dC (.int 0))) (dC (.int 0))) (dC (.int 0))))) (sRt (dC (.bl xH))) sNx) (Ah (sAs (dUn Ui (dC (.int 1))) (gV 2)) (Ah (Ds (Dr (dV 0)) (Cy 2 (Bk (gV 3) (Bk (gV 4) Df))) Rb) (sRt (dC (.bl xG))))))
def Mu:List D->DH->R D:=Bu 2 3 ZBU
def Qy:DS:=(Ah (sIf (dOr (Av (dOp Gg (dV 2) (dV 1))) (Av (dOp Gg (dV 3) (dC (.int 1))))) (sRt (dC (.bl xH))) sNx) (sAs (dOp Aq (dV 2) (dV 3)) (gV 1)))
def ZA2:DS:=(Ah (sAs (dC (.int 0)) (gV 1)) (Ah (Ds (Dr (dV 0)) (Cy 3 (Bk (gV 2) (Bk (gV 3) (Bk (gV 4) Df)))) Qy) (sRt (dC (.bl xG)))))
def Lq:List D->DH->R D:=Bu 1 4 ZA2
def Yw:DE:=(dV 1)
def Zn:DB:=(Av (dOp Cd (dV 2) (dC (.str "pump"))))
def W9:DS:=(Ah (sAs (Ba (Dw (Dr (dV 0)) 3 [] (Cy 3 (Bk (gV 0) (Bk (gV 1) (Bk (gV 2) Df)))) Zn Yw)) (gV 2)) (Ah (sIf (Av (dOp Lx (dV 1) (dC .non))) (sRt (dOp Cd (dFn Fg (Ab (dV 2) Ag)) (dC (.int 0)))) sNx) (sRt (dOp Fo (dFn Ju (Ab (dV 2) Ag)) (dOp Ak (dV 1) (dC (.int 2)))))))
def Jf:List D->DH->R D:=Bu 2 1 W9
def Pr:DS:=(sIf (dOr (Dc (Av (dFn Lq (Ab (dV 4) Ag)))) (Dc (Av (dFn Jf (Ab (dV 4) (Ab (dV 1) Ag)))))) (sRt (dC (.bl xH))) sNx)
def ZAQ:DS:=(Ah (sIf (Dc (Av (dFn Mu (Ab (dV 0) (Ab (dV 2) Ag))))) (sRt (dC (.bl xH))) sNx) (Ah (Ds (Dr (dV 0)) (Cy 2 (Bk (gV 3) (Bk (gV 4) Df))) Pr) (sRt (dC (.bl xG)))))
def Qq:List D->DH->R D:=Bu 3 2 ZAQ
def N7:DS:=(Ah (sIf (Av (dOp Cd (dOp Ak (dV 0) (dC (.int 0))) (dC (.str "town")))) (sRt (dFn Ay (Ab (dOp Ak (dV 0) (dC (.int 4))) (Ab (dOp Ak (dV 0) (dC (.int 5))) Ag)))) sNx) (Ah (sIf (Av (dOp Cd (dOp Ak (dV 0) (dC (.int 0))) (dC (.str "mill")))) (sRt (dFn Ay (Ab (dOp Ak (dV 0) (dC (.int 4))) Ag))) sNx) (Ah (sIf (Av (dOp Lx (dOp Ak (dV 0) (dC (.int 6))) (dC .non))) (sRt (dFn Ay (Ab (dOp Ak (dV 0) (dC (.int 4))) Ag))) sNx) (sRt (dFn Ay (Ab (dOp Ak (dV 0) (dC (.int 4))) (Ab (dOp Ak (dOp Ak (dV 0) (dC (.int 6))) (dC (.int 2))) Ag)))))))
def Ka:List D->DH->R D:=Bu 1 0 N7
def Ql:DE:=(dOp Ak (dV 0) (dC (.int 1)))
def Qv:DE:=(dOp Ak (dV 0) (dC (.int 1)))
def O8:DS:=(sIf (Av (dOp Cd (dOp Ak (dV 3) (dC (.int 0))) (dC (.str "basin")))) (Ah (sIf (Dc (Av (dFn Ry (Ab (dOp Ak (dV 3) (dC (.int 6))) (Ab (dOp Aq (dV 4) (dV 5)) Ag))))) Jw sNx) (sIf (Dc (Av (dFn Qq (Ab (dOp Ak (dV 3) (dC (.int 5))) (Ab (dOp Ak (dV 3) (dC (.int 6))) (Ab (dOp Ak (dV 0) (dC (.int 0))) Ag)))))) Jw sNx)) sNx)
def Zy:DS:=(Ah (sIf (Av (dOp Gg (dFn Ln (Ab (Ba (dFn Ka (Ab (dV 3) Ag))) Ag)) (dC (.int 0)))) Jw sNx) O8)
def ZAa:DS:=(Ah (sIf (Dc (Av (dFn Qe (Ab (dV 3) (Ab (dV 5) Ag))))) Jw sNx) Zy)
def ZDS:DS:=(Ah (sIf (dOr (Dc (Av (dFn Qs (Ab (dOp Ak (dV 3) (dC (.int 1))) Ag)))) (Av (dOp Fx (dOp Ak (dV 3) (dC (.int 1))) (dV 4)))) Jw sNx) ZAa)
def ZBW:DS:=(Ah (sAs (Ba (Dw (Dr (Ba (dSl (dV 2) (xE (dOp Aq (dV 1) (dC (.int 1)))) xF))) 1 [] (gV 0) Cm Qv)) (gV 5)) ZDS)
def ZA3:DS:=(Ah (sAs (Ba (Dw (Dr (Ba (dSl (dV 2) xF (xE (dV 1))))) 1 [] (gV 0) Cm Ql)) (gV 4)) ZBW)
def ZC5:DS:=(Ah (sAs (dOp Ak (dV 2) (dV 1)) (gV 3)) ZA3)
def ZCX:DS:=(Ah (sAs (dOp Ak (dV 0) (dC (.int 1))) (gV 2)) ZC5)
def K9:List D->DH->R D:=Bu 2 4 ZCX
def Mh:DS:=(sEx (dFn K9 (Ab (dV 0) (Ab (dV 2) Ag))))
def ZBo:DS:=(Ah (sAs (dOp Ak (dV 0) (dC (.int 1))) (gV 1)) (Ah (sIf (dOr (Dc (Av (Gq Fo Fo (dC (.int 1)) (dOp Ak (dV 0) (dC (.int 0))) (dC (.int 24))))) (Dc (Av (Gq Fo Fo (dC (.int 1)) (dFn Fg (Ab (dV 1) Ag)) (dC (.int 12)))))) Jw sNx) (Ah (Ds (Ef rng1 (Ab (dFn Fg (Ab (dV 1) Ag)) Ag)) (gV 2) Mh) (sRt (dV 0)))))
def Pb:List D->DH->R D:=Bu 1 2 ZBo
def Nr:DS:=(Ah (sAs (dFn Gp (Ab (dV 1) (Ab (dOp Ak (dV 2) (dV 5)) Ag))) (gV 6)) (sIf (dOr (Dc (Av (dFn Ma (Ab (dV 6) Ag)))) (dOr (Av (dOp G7 (dV 6) (dV 5))) (Dc (Av (dFn Mi (Ab (dV 1) (Ab (dV 5) Ag))))))) (sRt (dC (.bl xH))) sNx))
def N5:DS:=(sIf (dOr (Av (dOp G7 (dFn Gp (Ab (dV 1) (Ab (dOp Ak (dV 2) (dOp Ft (dOp Ft (dV 3) (dC (.int 1))) (dV 5))) Ag))) (dOp Ft (dOp Ft (dV 3) (dC (.int 1))) (dV 5)))) (Dc (Av (dFn Mi (Ab (dV 1) (Ab (dOp Ft (dOp Ft (dV 3) (dC (.int 1))) (dV 5)) Ag)))))) (sRt (dC (.bl xH))) sNx)
def Tc:DS:=(sIf (Dc (Av (dFn Rg (Ab (dV 1) (Ab (dV 7) Ag))))) (sRt (dC (.bl xH))) sNx)
def ZCY:DS:=(sRt (dOp Cd (dFn Gp (Ab (dV 1) (Ab (dOp Ak (dV 2) (dC (.int 0))) Ag))) (dC (.int 0))))
def ZCh:DS:=(Ah (Ds (Dr (Ba (dOp Aq (Ba (dSl (dV 2) (xE (dV 3)) xF)) (Ba (dFn Ay (Ab (dC (.str "sea")) (Ab (dC (.str "")) (Ab (dOp Aq (dOp Ak (dV 2) (dC (.int 0))) (dC (.str "abcdefgh"))) Ag)))))))) (gV 7) Tc) ZCY)
def ZBC:DS:=(Ah (Ds (Ef rng1 (Ab (dV 3) Ag)) (gV 5) N5) ZCh)
def ZB3:DS:=(Ah (Ds (Ef rng1 (Ab (dV 3) Ag)) (gV 5) Nr) ZBC)
def ZCS:DS:=(Ah (sIf (dOr (Dc (Av (dFn Ja (Ab (dV 4) (Ab (dC (.ty "tuple")) Ag))))) (Av (dOp G7 (dV 4) (dV 1)))) (sRt (dC (.bl xH))) sNx) ZB3)
def ZAk:DS:=(Ah (sAs (dFn Pb (Ab (dV 1) Ag)) (gV 4)) ZCS)
def ZBD:DS:=(Ah (sAs (dFn Fg (Ab (dOp Ak (dV 1) (dC (.int 1))) Ag)) (gV 3)) ZAk)
def ZBH:DS:=(Ah (sAs (Ba (dFn Gn (Ab (dFn Gb (Ab (dV 0) (Ab (dC (.int 2)) Ag))) Ag))) (gV 2)) ZBD)
def ZDL:DS:=(Ah (sAs (dFn Lr (Ab (dV 0) (Ab (dC (.int 0)) Ag))) (gV 1)) ZBH)
def Kc:List D->DH->R D:=Bu 1 7 ZDL
def Holds:Prop:=∀ns:List Int,ns.length<=63->(∀m∈ns,m.natAbs.log2<1048576)->∃G,Kc [.fl (ns.map D.int)] []=.ok (.bl xG) G
end _W
namespace _W
open PySem _L _D
variable{ns xs:List Int}{G:DH}{ds:List D}{k a i c d:Nat}{cell big yr:Int}{α:Type}{p:Bool}{l l' w:List Nat}{lo hi:Option Int}{x:Str}{nm:List Str}
noncomputable def cellAt(ns:List Int)(k:Int):Int:=ns.getD k.toNat 0
theorem Ny{k:Int}(hk:0<=k):Gb [.fl (ns.map D.int),.int k] G=.ok (.int (cellAt ns k)) G:=by
 unfold Gb ZAw cellAt;rw[Bp];by_cases h:k<ns.length
 ·simp[h];rw[Ez (d:=D.int (ns[k.toNat]'(by lia))) (k:=k.toNat) (by lia) (by rw[zF,zJ (by lia)];rfl)];simp[Bo,zJ (show k.toNat<ns.length by lia)]
 ·simp[h,Bo,zN (show ns.length<=k.toNat by lia)]
noncomputable def tab(n:Nat)(F:Nat->Int):List D:=(zx n).map λi=>D.int (F i)
theorem V7{A:DO}{L:DH}(h:bels (G.length+1) ds=xG):freeze (G++[A]) (.ok (.ref (G.length+1)) (G++A:: .lst ds::L))=.ok (.fl ds) (G++[A]):=by have:=Ce (G:=G++[A]) (ds:=ds) (L:=L) (by simpa using h);simpa using this
theorem ZKP{A:DO}{L:DH}(h:bels (G.length+1) ds=xG):tidy (G++[A]) (.ok (.ref (G.length+1)) (G++A:: .lst ds::L))=.ok (.ref (G.length+1)) (G++[A,.lst ds]):=by have:=G6 (G:=G++[A]) (ds:=ds) (L:=L) (by simpa using h);simpa using this
theorem pr:¬(("river":Str)="pump"):=by decide
structure Stp where
 h:Int
 m:Int
 r:Bool
variable{st:List Stp}
def wy(r:Bool):Str:=if r then "river" else "pump"
def Stp.enc(s:Stp):D:=.tup [.int s.h,.int s.m,.str (wy s.r)]
@[simp]theorem ZK8{n:Nat}:bels n (st.map Stp.enc)=xG:=Gk λs _=>by simp[Stp.enc]
@[simp]theorem ZKn{r:Bool}:(wy r="pump")=(r=xH):=by
 cases r
 ·exact propext ⟨λh=>rfl,λ_=>rfl⟩
 ·exact propext ⟨λh=>absurd h pr,λh=>by cases h⟩
noncomputable abbrev Ssn:=Int×List Stp
variable{r:List Ssn}
def Bl(s:Ssn):D:=.tup [.int s.1,.tup (s.2.map Stp.enc)]
@[simp]theorem ZKs{n:Nat}{ss:List Ssn}:bels n (ss.map Bl)=xG:=Gk λs _=>by simp[Bl]
inductive Kd where
 |basin (brim:Int) (rule:List Ssn) (pump:Option (Nat×Nat×Int))
 |town (need rank:Int)
 |mill (most:Int)
structure Pl where
 nm:Str
 dn:Option Nat
 dl:Nat
 kd:Kd
noncomputable def noPl:Pl:=⟨"",xF,0,.mill 0⟩
structure Hs where
 yr:Int
 ps:List Pl
variable{h:Hs}
noncomputable def Kd.txt:Kd->Str
 |.basin ..=>"basin"
 |.town ..=>"town"
 |.mill ..=>"mill"
noncomputable def Kd.isB:Kd->Bool
 |.basin ..=>xG
 |_=>xH
def Hs.pl(h:Hs)(k:Nat):Pl:=h.ps.getD k noPl
noncomputable def Hs.n(h:Hs):Nat:=h.ps.length
def Hs.dnT(h:Hs):Option Nat->Str
 |none=>"sea"
 |some d=>(h.pl d).nm
def Hs.Fv(h:Hs):Option (Nat×Nat×Int)->D
 |none=>.non
 |some (to,dl,m)=>.tup [.str (h.pl to).nm,.int dl,.int m]
def Hs.encP(h:Hs)(p:Pl):D:=match p.kd with
 |.basin b r q=>.tup [.str "basin",.str p.nm,.str (h.dnT p.dn),.int p.dl,.int b,.tup (r.map Bl),h.Fv q]
 |.town a b=>.tup [.str "town",.str p.nm,.str (h.dnT p.dn),.int p.dl,.int a,.int b]
 |.mill a=>.tup [.str "mill",.str p.nm,.str (h.dnT p.dn),.int p.dl,.int a]
def Hs.Cr(h:Hs):List D:=h.ps.map h.encP
def Hs.enc(h:Hs):D:=.tup [.int h.yr,.tup h.Cr]
def Good:Int->List Stp->Prop
 |_,[]=>True
 |t,s::r=>t<=s.h/\1<=s.m/\Good (s.h+s.m) r
structure GoodH (h:Hs):Prop where
 yr:0<h.yr
 len:h.n<=12
 inj:∀i j,i<h.n->j<h.n->(h.pl i).nm=(h.pl j).nm->i=j
 sea:∀i,i<h.n->(h.pl i).nm≠"sea"
 dn:∀k d,k<h.n->(h.pl k).dn=xE d->k<d/\d<h.n
 dl:∀k,k<h.n->(h.pl k).dl<=5
 pump:∀k b r to dl m,k<h.n->(h.pl k).kd=.basin b r (xE (to,dl,m))->to<h.n/\1<=dl/\dl<=5
 brim:∀k b r q,k<h.n->(h.pl k).kd=.basin b r q->0<=b/\∀s∈r,Good 0 s.2
 town:∀k a b,k<h.n->(h.pl k).kd=.town a b->0<=a/\0<=b
theorem Hs.J0:h.Cr.length=h.n:=by simp[Hs.Cr,Hs.n]
theorem Hs.ZDR(hk:k<h.n):h.Cr[k]?=xE (h.encP (h.pl k)):=by unfold Hs.Cr Hs.pl;rw[zF,zJ hk];simp[zB,zJ hk]
theorem Hs.Pq(hk:k<h.n):atI h.Cr (k:Int)=xE (h.encP (h.pl k)):=Ez rfl (Hs.ZDR hk)
theorem Hs.ZHz{n:Nat}{q:Option (Nat×Nat×Int)}:bel n (h.Fv q)=xG:=by
 cases q with
 |none=>rfl
 |some x=>obtain⟨a,b,c⟩:=x;simp[Hs.Fv]
@[simp]theorem Hs.Zf{n:Nat}{p:Pl}:bel n (h.encP p)=xG:=by
 unfold Hs.encP
 cases p.kd<;>simp[Hs.ZHz]
@[simp]theorem Hs.ZKj{n:Nat}:bels n h.Cr=xG:=Gk λ_ _=>Hs.Zf
@[simp]theorem Hs.ZLT{n:Nat}:bel n h.enc=xG:=by simp[Hs.enc]
section
variable{h:Hs}{p:Pl}{G:DH}
@[simp]theorem encP0:Ak (h.encP p) (.int 0) G=.ok (.str p.kd.txt) G:=by
 unfold Hs.encP
 cases p.kd<;>simp[Kd.txt]
@[simp]theorem encP1:Ak (h.encP p) (.int 1) G=.ok (.str p.nm) G:=by
 unfold Hs.encP
 cases p.kd<;>simp
@[simp]theorem encP2:Ak (h.encP p) (.int 2) G=.ok (.str (h.dnT p.dn)) G:=by
 unfold Hs.encP
 cases p.kd<;>simp
@[simp]theorem encP3:Ak (h.encP p) (.int 3) G=.ok (.int p.dl) G:=by
 unfold Hs.encP
 cases p.kd<;>simp
theorem Ii:Ak h.enc (.int 1) G=.ok (.tup h.Cr) G:=by unfold Hs.enc;simp
theorem ZAi:Ak h.enc (.int 0) G=.ok (.int h.yr) G:=by unfold Hs.enc;simp
theorem V6{k:Kd}:(k.txt="basin")=(k.isB=xG):=by cases k<;>simp[Kd.txt,Kd.isB]<;>decide
end
def number(x cell:Int):Int:=if x%4=0 then 0 else if x%4=1/\2147483647<x then x/4%10^38 else if x%4=1 then cell*(x/4+2)%10^38 else x/4%40
theorem Km{x:Int}(hx:0<=x):Hu [.int x,.int cell] G=.ok (.int (number x cell)) G:=by
 unfold Hu ZDQ number;rw[Bp];by_cases h0:x%4=0
 ·simp[h0,Bo]
 by_cases h1:x%4=1
 ·by_cases h2:2147483647<x
  ·simp[h1,h2,Bo]
  ·simp[h1,h2];rw[Qx (by lia) (by lia)];simp[Bo]
 ·simp[h0,h1,Bo]
theorem Jz{x:Int}:0<=number x cell:=by
 unfold number;split
 ·lia
 split
 ·exact qZ _ (by decide)
 split
 ·exact qZ _ (by decide)
 ·lia
def strm:Nat->Int->Int->Int->List Int
 |0,_,_,_=>[]
 |n+1,j,num,left=>(if 0<left then left%10^42 else(num*num+48271*j+11)%2147483647)::strm n (j+1) ((num*num+48271*j+11)%2147483647) (left/10^42)
theorem ZCJ:∀{n:Nat}{j num left:Int},(strm n j num left).length=n
 |0,_,_,_=>rfl
 |n+1,_,_,_=>by simp[strm,ZCJ]
theorem ZAb:∀{n:Nat}{j num left:Int},∀x∈strm n j num left,0<=x
 |0,_,_,_,x,h=>by cases h
 | n+1,j,num,left,x,h=>by
  simp only[strm,zz]at h;rcases h with rfl|h
  ·split
   ·exact qZ _ (by decide)
   ·exact qZ _ (by decide)
  ·exact ZAb x h
theorem ZDB{c k m:D}{G:DH}:∀{n:Nat}{j num left:Int}{acc:List Int}{e:Option D},0<=num->num<2147483647->0<=j->acc.length+n<=1000->∃a b d,Bw (gV 6) T6 (Ck j n) [xE c,xE k,xE m,xE (.int num),xE (.int left),xE (.ref G.length),e] (G++[.lst (acc.map D.int)])=
  .nx [xE c,xE k,xE m,a,b,xE (.ref G.length),d] (G++[.lst ((acc++strm n j num left).map D.int)])
 |0,j,num,left,acc,e,h1,h2,h3,h4=>⟨xE (.int num),xE (.int left),e,by rw[Jl,Ej];simp[strm]⟩
 | n+1,j,num,left,acc,e,h1,h2,h3,h4=>by
  obtain⟨a,b,d,ih⟩:=ZDB (c:=c) (k:=k) (m:=m) (G:=G) (n:=n) (j:=j+1) (num:=(num*num+48271*j+11)%2147483647) (left:=left/10^42) (acc:=acc++[if 0<left then left%10^42 else(num*num+48271*j+11)%2147483647]) (e:=xE (.int j)) (qZ _ (by decide)) (q0 _ (by decide)) (by lia) (by simp;lia);refine⟨a,b,d,?_⟩;have hb:T6 [xE c,xE k,xE m,xE (.int num),xE (.int left),xE (.ref G.length),xE (.int j)] (G++[.lst (acc.map D.int)])=
    .nx [xE c,xE k,xE m,xE (.int ((num*num+48271*j+11)%2147483647)),xE (.int (left/10^42)),xE (.ref G.length),xE (.int j)] (G++[.lst ((acc++[if 0<left then left%10^42 else(num*num+48271*j+11)%2147483647]).map D.int)]):=by
   have hl:acc.length<1000000:=by lia
   unfold T6
   by_cases hl0:0<left<;>simp[Kp (i:=num) (j:=num) (by lia) (by lia),Fe,Ce,hl0,hl,Hz]
  rw[Ib,Dj];simp only[Gi,R.Gu,qG,hb,Gx,ih];simp[strm]
theorem Ke{xs:List α}(h:a<=xs.length):cutD xs xF (xE (a:Int))=xs.take a:=by
 have:=(Hi xs.length (a:Int)).1;have e:HT.sIx xs.length xs.length (xE (a:Int))=a:=by lia
 unfold cutD;rw[e];simp[HT.sIx]
theorem O7{xs:List α}(h:a<=xs.length):cutD xs (xE (a:Int)) xF=xs.drop a:=by
 have:=(Hi xs.length (a:Int)).2;have e:HT.sIx xs.length 0 (xE (a:Int))=a:=by lia
 unfold cutD;rw[e];simp only[HT.sIx];exact List.take_of_length_le (by simp)
theorem Z4{te:DE}{S:DSt}{n:Nat}{F:Nat->D}(h:∀k:Nat,k<n->te (S.set 0 (xE (.int k))) G=.ok (F k) G):Cj (gV 0) Cm te S (Ck 0 n) G=.ok ((zx n).map F) G:=by
 have e:Ck 0 n=(zx n).map λ(i:Nat)=>D.int (i:Int):=by
  refine List.ext_getElem? λi=>?_
  simp[Ck]
 rw[P0 (F:=λd=>match d with | .int i=>xE (F i.toNat)|_=>xF) (λq hq=>?_)]
 ·congr 1
  rw[e,qB];show(zx n).filterMap (λ(i:Nat)=>xE (F ((i:Int).toNat)))=_;rw[List.filterMap_eq_map'];simp
 ·rw[e]at hq;obtain⟨i,hi,rfl⟩:=zD.mp hq;exact⟨S.set 0 (xE (.int i)),by simp,.inr ⟨rfl,F i,h i (zO.mp hi),by simp⟩⟩
def Ff(cell k:Int)(n:Nat):List Int:=strm n 0 ((cell%999999937+2)*(7919*k*k+48271)%2147483647) (if cell<0∨10^18<=cell then max cell (-cell)else 0)
theorem ZAz{k:Int}{n:Nat}:(Ff cell k n).length=n:=ZCJ
theorem ZCx{k:Int}{n:Nat}:∀x∈Ff cell k n,0<=x:=λx h=>ZAb x h
theorem ZFH{k:Int}{n:Nat}(hk:0<=k/\k<100)(hn:n<=1000)(G:DH):Iw [.int cell,.int k,.int n] G=.ok (.ref G.length) (G++[.lst ((Ff cell k n).map D.int)]):=by
 have hr:inR (n:Int):=Gz (by lia) (by lia);have h3:0<=7919*k*k:=Int.mul_nonneg (by lia) (by lia);have h2:7919*k*k<=791900*100:=Int.le_trans (Int.mul_le_mul_of_nonneg_right (c:=k) (by lia:7919*k<=791900) (by lia)) (Int.mul_le_mul_of_nonneg_left (by lia) (by lia));have hnum:(cell%999999937+2)*(7919*k*k+48271)%2147483647<2147483647:=q0 _ (by decide)
 obtain⟨a,b,d,h⟩:=ZDB (c:=.int cell) (k:=.int k) (m:=.int n) (G:=G) (n:=n) (j:=0) (num:=(cell%999999937+2)*(7919*k*k+48271)%2147483647) (left:=if cell<0∨10^18<=cell then max cell (-cell)else 0) (acc:=[]) (e:=xF) (qZ _ (by decide)) hnum (by lia) (by simp;lia);unfold Ff Iw ZCg;rw[Bp];simp at h;simp[Kp (i:=7919*k) (j:=k) (by lia) (by lia),Qx (i:=cell%999999937+2) (j:=7919*k*k+48271) (by lia) (by lia),ZFF,ZGO,ZEw,ite_int,G6,hr,h]
theorem Hf{m:Nat}:bels m (xs.map D.int)=xG:=Gk λ_ _=>rfl
theorem ZBx{k:Int}{n:Nat}(hk:0<=k/\k<100)(hn:n<=1000)(G:DH):freeze G (Iw [.int cell,.int k,.int n] G)=.ok (.fl ((Ff cell k n).map D.int)) G:=by rw[ZFH hk hn];exact Ce Hf
noncomputable def gx(xs:List Int)(i:Nat):Int:=xs.getD i 0
theorem Di(h:i<xs.length):atI (xs.map D.int) (i:Int)=xE (.int (gx xs i)):=Ez rfl (by rw[zF,zJ h];simp[gx,zB,h])
theorem Nq(hx:∀x∈xs,0<=x)(i:Nat):0<=gx xs i:=by
 unfold gx;rw[zB];by_cases h:i<xs.length
 ·rw[zJ h];exact hx _ (qW h)
 ·rw[zN (by lia)];exact jj _
theorem Y5{b:Nat}(hab:a<=b)(hb:b<=xs.length):cutD (xs.map D.int) (xE (a:Int)) (xE (b:Int))=((xs.drop a).take (b-a)).map D.int:=by
 have h1:=(Hi (xs.map D.int).length (a:Int)).2;have h2:=(Hi (xs.map D.int).length (b:Int)).1;have l:(xs.map D.int).length=xs.length:=by simp
 have e1:HT.sIx (xs.map D.int).length 0 (xE (a:Int))=a:=by lia
 have e2:HT.sIx (xs.map D.int).length (xs.map D.int).length (xE (b:Int))=b:=by lia
 unfold cutD;rw[e1,e2,List.map_take,List.map_drop]
def stF(xs:List Int)(big:Int)(p:Bool):Nat->Nat->Int->List Stp
 |0,_,_=>[]
 |n+1,j,top=>⟨top+number (gx xs (1+2*j)) big,1+number (gx xs (2+2*j)) big, !(p&&decide (gx xs (2+2*j)/160%2=0))⟩::stF xs big p n (j+1) (top+number (gx xs (1+2*j)) big+(1+number (gx xs (2+2*j)) big))
theorem ZBa{xs:List Int}{big:Int}{p:Bool}{G:DH}(hx:∀x∈xs,0<=x):∀(n j:Nat)(top:Int)(acc:List Stp)(a b d e:Option D),2*(j+n)<xs.length->acc.length+n<=1000->∃a' b' d' e' t',Bw (gV 5) Ri (Ck j n) [xE (.fl (xs.map D.int)),xE (.int big),xE (.bl p),xE (.ref G.length),xE (.int top),a,b,d,e] (G++[.lst (acc.map Stp.enc)])=
  .nx [xE (.fl (xs.map D.int)),xE (.int big),xE (.bl p),xE (.ref G.length),t',a',b',d',e'] (G++[.lst ((acc++stF xs big p n j top).map Stp.enc)])
 |0,j,top,acc,a,b,d,e,h1,h2=>⟨a,b,d,e,xE (.int top),by rw[Jl,Ej];simp[stF]⟩
 | n+1,j,top,acc,a,b,d,e,h1,h2=>by
  have x0:=Nq hx (1+2*j);have x1:=Nq hx (2+2*j);have a0:atI (xs.map D.int) (1+2*(j:Int))=xE (.int (gx xs (1+2*j))):=by have:=Di (xs:=xs) (i:=1+2*j) (by lia);rwa[show((1+2*j:Nat):Int)=1+2*(j:Int) by lia]at this
  have a1:atI (xs.map D.int) (2+2*(j:Int))=xE (.int (gx xs (2+2*j))):=by have:=Di (xs:=xs) (i:=2+2*j) (by lia);rwa[show((2+2*j:Nat):Int)=2+2*(j:Int) by lia]at this
  unfold stF;generalize gx xs (1+2*j)=u0 at*;generalize gx xs (2+2*j)=u1 at*;obtain⟨a',b',d',e',t',ih⟩:=ZBa (big:=big) (p:=p) (G:=G) hx n (j+1) (top+number u0 big+(1+number u1 big)) (acc++[⟨top+number u0 big,1+number u1 big, !(p&&decide (u1/160%2=0))⟩]) (xE (.int j)) (xE (.int (top+number u0 big))) (xE (.int (1+number u1 big))) (xE (.str (wy (!(p&&decide (u1/160%2=0)))))) (by lia) (by simp;lia)
  refine⟨a',b',d',e',t',?_⟩;have hb:Ri [xE (.fl (xs.map D.int)),xE (.int big),xE (.bl p),xE (.ref G.length),xE (.int top),xE (.int j),b,d,e] (G++[.lst (acc.map Stp.enc)])=
    .nx [xE (.fl (xs.map D.int)),xE (.int big),xE (.bl p),xE (.ref G.length),xE (.int (top+number u0 big+(1+number u1 big))),xE (.int j),xE (.int (top+number u0 big)),xE (.int (1+number u1 big)),xE (.str (wy (!(p&&decide (u1/160%2=0)))))] (G++[.lst ((acc++[(⟨top+number u0 big,1+number u1 big, !(p&&decide (u1/160%2=0))⟩:Stp)]).map Stp.enc)]):=by
   have hl:acc.length<1000000:=by lia
   have m2:∀G,Cv (.int 2) (.int (j:Int)) G=.ok (.int (2*(j:Int))) G:=λG=>Kp (by lia) (by lia)
   unfold Ri;cases p with
   |false=>simp[m2,a0,a1,Km x0,Km x1,Fe,hl,Hz,Stp.enc,wy]
   |true=>by_cases hz:u1/160%2=0<;>simp[m2,a0,a1,Km x0,Km x1,Fe,hl,Hz,Stp.enc,wy,hz]
  rw[Ib,Dj];simp only[Gi,R.Gu,qG,hb,Gx];have e1:((j:Int)+1)=((j+1:Nat):Int):=by lia
  rw[e1,ih];simp
theorem ZD6(hx:∀x∈xs,0<=x)(hl:xs.length=7)(G:DH):Tj [.fl (xs.map D.int),.int big,.bl p] G=.ok (.tup ((stF xs big p (gx xs 0%4).toNat 0 0).map Stp.enc)) G:=by have a0:atI (xs.map D.int) 0=xE (.int (gx xs 0)):=Di (i:=0) (by lia);obtain⟨n,hn⟩:∃n:Nat,gx xs 0%4=n:=⟨(gx xs 0%4).toNat,by lia⟩;obtain⟨a,b,d,e,t,h⟩:=ZBa (big:=big) (p:=p) (G:=G) hx n 0 0 [] xF xF xF xF (by lia) (by simp;lia);rw[hn];unfold Tj ZBK;rw[Bp];have hr:inR (n:Int):=Gz (by lia) (by lia);simp at h;simp[a0,hn,G6,hr,h,Fe,Qf]
def ruF(xs:List Int)(big yr:Int)(p:Bool):Nat->Nat->Int->List Ssn
 |0,_,_=>[]
 |m+1,j,b=>if j=0∨(0<gx xs j%3/\b<yr)then(b,stF ((xs.drop (3+7*j)).take 7) big p (gx ((xs.drop (3+7*j)).take 7) 0%4).toNat 0 0)::ruF xs big yr p m (j+1) (b+1+gx xs j/3%9)else ruF xs big yr p m (j+1) b
theorem X7{xs:List Int}{big yr:Int}{p:Bool}{G:DH}(hx:∀x∈xs,0<=x)(hl:xs.length=24):∀(m j:Nat)(b:Int)(acc:List Ssn)(x:Option D),j+m=3->acc.length+m<=1000->∃b' x',Bw (gV 6) M6 (Ck j m) [xE (.fl (xs.map D.int)),xE (.int big),xE (.int yr),xE (.bl p),xE (.ref G.length),xE (.int b),x] (G++[.lst (acc.map Bl)])=
  .nx [xE (.fl (xs.map D.int)),xE (.int big),xE (.int yr),xE (.bl p),xE (.ref G.length),b',x'] (G++[.lst ((acc++ruF xs big yr p m j b).map Bl)])
 |0,j,b,acc,x,e,h2=>⟨xE (.int b),x,by rw[Jl,Ej];simp[ruF]⟩
 | m + 1,j,b,acc,x,e,h2=>by
  have e1:((j:Int)+1)=((j+1:Nat):Int):=by lia
  have a0:atI (xs.map D.int) (j:Int)=xE (.int (gx xs j)):=Di (by lia);have m7:∀G,Cv (.int 7) (.int (j:Int)) G=.ok (.int (7*(j:Int))) G:=λG=>Kp (by lia) (by lia)
  have cu:cutD (xs.map D.int) (xE (3+7*(j:Int))) (xE (10+7*(j:Int)))=((xs.drop (3+7*j)).take 7).map D.int:=by have:=Y5 (xs:=xs) (a:=3+7*j) (b:=10+7*j) (by lia) (by lia);rwa[show((3+7*j:Nat):Int)=3+7*(j:Int) by lia,show((10+7*j:Nat):Int)=10+7*(j:Int) by lia,show 10+7*j-(3+7*j)=7 by lia]at this
  have cs:=λG=>ZD6 (xs:=(xs.drop (3+7*j)).take 7) (big:=big) (p:=p) (λx h=>hx x (qI (qJ h))) (by simp;lia) G
  have hal:acc.length<1000000:=by lia
  unfold ruF;generalize((xs.drop (3+7*j)).take 7)=zs at*;generalize stF zs big p (gx zs 0%4).toNat 0 0=st at*;have fz:∀A:DO,freeze (G++[A]) (.ok (.ref (G.length+1)) (G++[A,.lst (zs.map D.int)]))=.ok (.fl (zs.map D.int)) (G++[A]):=λA=>V7 Hf
  by_cases hc:j=0∨(0<gx xs j%3/\b<yr)
  ·rw [if_pos hc];obtain⟨b',x',ih⟩:=X7 (big:=big) (yr:=yr) (p:=p) (G:=G) hx hl m (j+1) (b+1+gx xs j/3%9) (acc++[(b,st)]) (xE (.int j)) (by lia) (by simp;lia);refine⟨b',x',?_⟩;have hb:M6 [xE (.fl (xs.map D.int)),xE (.int big),xE (.int yr),xE (.bl p),xE (.ref G.length),xE (.int b),xE (.int j)] (G++[.lst (acc.map Bl)])=
     .nx [xE (.fl (xs.map D.int)),xE (.int big),xE (.int yr),xE (.bl p),xE (.ref G.length),xE (.int (b+1+gx xs j/3%9)),xE (.int j)] (G++[.lst ((acc++[(b,st)]).map Bl)]):=by
    unfold M6;rcases hc with h0|⟨h3,h4⟩
    ·have h0':(j:Int)=0:=by lia
     subst h0;simp at cu m7 a0;simp[m7,a0,cu,fz,cs,Fe,hal,Hz,Bl]
    ·by_cases h0:j=0
     ·subst h0;simp at cu m7 a0;simp[m7,a0,cu,fz,cs,Fe,hal,Hz,Bl]
     ·have h0':¬(j:Int)=0:=by lia
      simp[h0,h0',h3,h4,m7,a0,cu,fz,cs,Fe,hal,Hz,Bl]
   rw[Ib,Dj];simp only[Gi,R.Gu,qG,hb,Gx];rw[e1,ih];simp
  ·rw[if_neg hc];obtain⟨b',x',ih⟩:=X7 (big:=big) (yr:=yr) (p:=p) (G:=G) hx hl m (j+1) b acc (xE (.int j)) (by lia) (by lia);refine⟨b',x',?_⟩;have hb:M6 [xE (.fl (xs.map D.int)),xE (.int big),xE (.int yr),xE (.bl p),xE (.ref G.length),xE (.int b),xE (.int j)] (G++[.lst (acc.map Bl)])=
     .nx [xE (.fl (xs.map D.int)),xE (.int big),xE (.int yr),xE (.bl p),xE (.ref G.length),xE (.int b),xE (.int j)] (G++[.lst (acc.map Bl)]):=by
    have h0:¬j=0:=λz=>hc (.inl z)
    have h0':¬(j:Int)=0:=by lia
    unfold M6;by_cases h3:0<gx xs j%3
    ·have h4:¬b<yr:=λz=>hc (.inr ⟨h3,z⟩)
     simp[h0,h0',a0,h3,h4]
    ·simp[h0,h0',a0,h3]
   rw[Ib,Dj];simp only[Gi,R.Gu,qG,hb,Gx];rw[e1,ih]
theorem ZFb(hx:∀x∈xs,0<=x)(hl:xs.length=24)(G:DH):Sh [.fl (xs.map D.int),.int big,.int yr,.bl p] G=.ok (.tup ((ruF xs big yr p 3 0 0).map Bl)) G:=by obtain⟨b',x',h⟩:=X7 (big:=big) (yr:=yr) (p:=p) (G:=G) hx hl 3 0 0 [] xF (by lia) (by simp);have hr:inR 3:=Gz (by lia) (by lia);unfold Sh ZCv;rw[Bp];simp at h;simp[G6,hr,h,Fe,Qf]
theorem ZE3:∃s r,ruF xs big yr p 3 0 0=s::r:=by unfold ruF;rw[if_pos (.inl rfl)];exact⟨_,_,rfl⟩
noncomputable def pmps(st:List Stp):List Int:=(st.filter λs=> !s.r).map Stp.m
theorem ZGn{b:D}(hst:st.length<=1000)(G:DH):Q7 [xE b,xE (.tup (st.map Stp.enc))] G=.ok (.int (pmps st).sum) G:=by
 have hc:Cj (Cy 3 (Bk (gV 0) (Bk (gV 1) (Bk (gV 2) Df)))) Tw Rp [xF,xF,xF] (st.map Stp.enc) G=.ok ((pmps st).map D.int) G:=by
  clear hst
  induction st with
  |nil=>rfl
  | cons s st ih=>
   have e0:Stp.enc s=.tup [.int s.h,.int s.m,.str (wy s.r)]:=rfl;have h1:Tw [xE (.int s.h),xE (.int s.m),xE (.str (wy s.r))] G=.ok (!s.r) G:=by
    unfold Tw
    cases s.r<;>simp
   have h2:Rp [xE (.int s.h),xE (.int s.m),xE (.str (wy s.r))] G=.ok (.int s.m) G:=by unfold Rp;simp
   rw[zj,Ji,e0];cases hs:s.r
   ·rw[hs]at h1 h2;simp[h1,h2,ih,pmps,hs]
   ·rw[hs]at h1;simp[h1,ih,pmps,hs]
 have fz:freeze G (.ok (.ref G.length) (G++[.lst ((pmps st).map D.int)]))=.ok (.fl ((pmps st).map D.int)) G:=Ce Hf;have hcs:∀S:DSt,Bf 3 [] S=[xF,xF,xF]:=λS=>rfl
 unfold Q7;have hl:(pmps st).length<=1000000:=by
  have:(pmps st).length<=st.length:=by unfold pmps;rw[zw];exact jV _ _
  lia
 simp[hcs,hc,hl,fz]
theorem ZCp:∀(n j:Nat)(top:Int),(stF xs big p n j top).length=n
 |0,j,top=>rfl
 |n+1,j,top=>by simp[stF,ZCp n]
theorem Rz{xs:List Int}{big yr:Int}{p:Bool}:∀(m j:Nat)(b:Int),(ruF xs big yr p m j b).length<=m/\∀s∈ruF xs big yr p m j b,s.2.length<=1000
 |0,j,b=>⟨zK _,λs h=>by cases h⟩
 | m+1,j,b=>by
  unfold ruF;split
  ·have ih:=Rz (xs:=xs) (big:=big) (yr:=yr) (p:=p) m (j+1) (b+1+gx xs j/3%9);refine⟨by simp[ih.1],λs h=>?_⟩;rcases zz.mp h with rfl|h
   ·show(stF _ _ _ _ _ _).length<=1000;rw[ZCp];lia
   ·exact ih.2 s h
  ·have ih:=Rz (xs:=xs) (big:=big) (yr:=yr) (p:=p) m (j+1) b;exact⟨by lia,ih.2⟩
theorem ZDN{te:DE}{E X Y F:α->D}(hE:∀a,E a=.tup [X a,Y a]):∀{l:List α},(∀a∈l,te [xE (X a),xE (Y a)] G=.ok (F a) G)->Cj (Cy 2 (Bk (gV 0) (Bk (gV 1) Df))) Cm te [xF,xF] (l.map E) G=.ok (l.map F) G
 |[],_=>rfl
 |a::l,h=>by
  have ih:=ZDN hE (l:=l) λb hb=>h b (zX _ hb)
  rw[zj,Ji,hE];simp[h a (by simp),ih]
theorem ZAW:∀(l:List Int)(a:Int),a<=l.foldl max a/\∀x∈l,x<=l.foldl max a
 |[],a=>⟨jj _,λx h=>nomatch h⟩
 | y::l,a=>by
  obtain⟨h1,h2⟩:=ZAW l (max a y);refine⟨?_,λx hx=>?_⟩
  ·rw[q9];lia
  ·rw[q9];rcases zz.mp hx with rfl|hx
   ·lia
   ·exact h2 x hx
theorem ZD1(hr:r.length<=1000)(h:∀s∈r,s.2.length<=1000)(hne:∃s r',r=s::r'):∃v:Int,(∀s∈r,(pmps s.2).sum<=v)/\∀G,U0 [.tup (r.map Bl)] G=.ok (.int v) G:=by
 obtain⟨s,r',rfl⟩:=hne;refine⟨(r'.map λs=>(pmps s.2).sum).foldl max (pmps s.2).sum,λz hz=>?_,λG=>?_⟩
 ·obtain⟨h1,h2⟩:=ZAW (r'.map λs=>(pmps s.2).sum) (pmps s.2).sum;rcases zz.mp hz with rfl|hz
  ·exact h1
  ·exact h2 _ (zD.mpr ⟨z,hz,rfl⟩)
 have hc:Cj (Cy 2 (Bk (gV 0) (Bk (gV 1) Df))) Cm Q7 [xF,xF] ((s::r').map Bl) G=.ok (((s::r').map λs=>(pmps s.2).sum).map D.int) G:=by rw[q8];exact ZDN (X:=λs:Ssn=>.int s.1) (Y:=λs:Ssn=>.tup (s.2.map Stp.enc)) (F:=D.int ∘ λs:Ssn=>(pmps s.2).sum) (λ_=>rfl) λa ha=>ZGn (h a ha) G
 have hl:((s::r').map λs=>(pmps s.2).sum).length<=1000000:=by rw[zw];lia
 have hm:Ku [.fl (((s::r').map λs=>(pmps s.2).sum).map D.int)] G=.ok (.int ((r'.map λs=>(pmps s.2).sum).foldl max (pmps s.2).sum)) G:=ZHf (by rw[zj];rfl);have fz:freeze G (.ok (.ref G.length) (G++[.lst (((s::r').map λs=>(pmps s.2).sum).map D.int)]))=.ok (.fl (((s::r').map λs=>(pmps s.2).sum).map D.int)) G:=Ce Hf;have hcs:∀S:DSt,Bf 2 [] S=[xF,xF]:=λS=>rfl
 generalize((s::r').map λs=>(pmps s.2).sum)=zs at*;generalize(s::r').map Bl=rs at*;unfold U0 ZCM;rw[Bp];simp[hcs,hc,hl,fz,hm,Bo]
theorem ZHu{x:Int}(hx:0<=x):∃v:Int,0<=v/\∀G,Om [.int x] G=.ok (.int v) G:=by
 by_cases h:2147483647<x
 ·have m:=λG=>Qx (i:=x/2%100000000000000000000000000000000000000) (j:=x%2) (G:=G) (by lia) (by lia)
  exact⟨x/2%100000000000000000000000000000000000000*(x%2),Int.mul_nonneg (by lia) (by lia),λG=>by unfold Om Vo;rw[Bp];simp[h,m,Bo]⟩
 ·have m:=λG=>Qx (i:=x%50) (j:=x/50%2) (G:=G) (by lia) (by lia)
  exact⟨x%50*(x/50%2),Int.mul_nonneg (by lia) (by lia),λG=>by unfold Om Vo;rw[Bp];simp[h,m,Bo]⟩
noncomputable def Al(l:List Nat):Str:=⟨l.toArray⟩
theorem ZJG:Al l++Al l'=Al (l++l'):=by show Str.append _ _=_;unfold Str.append Al;simp
noncomputable def Jo:List Nat:=("abcdefghijklmnopqrstuvwxyz":Str).cps.toList
theorem ZIl:∀i,i<26->Jo[i]?=xE (97+i):=by decide +kernel
theorem ZJ2:("abcdefghijklmnopqrstuvwxyz":Str).length<=1000000:=by decide +kernel
theorem Rc{i:Int}(h0:0<=i)(h1:i<26)(G:DH):Ak (.str ("abcdefghijklmnopqrstuvwxyz":Str)) (.int i) G=.ok (.str (Al [97+i.toNat])) G:=by
 rw[Io,if_pos ZJ2]
 show(match atI Jo i with |some c=>R.ok (sgn c) G|none=>.bad)=_
 rw[Ez (k:=i.toNat) (by lia) (ZIl _ (by lia))]
 rfl
theorem add_str(h:l.length+l'.length<=1000000)(G:DH):Aq (.str (Al l)) (.str (Al l')) G=.ok (.str (Al (l++l'))) G:=by
 have e:Aq (.str (Al l)) (.str (Al l')) G=if(Al l).length+(Al l').length<=1000000 then .ok (.str (Al l++Al l')) G else .bad:=rfl
 rw[e,if_pos (by show l.toArray.size+l'.toArray.size<=1000000;simpa using h),ZJG]
theorem Ik(h:l.length<=1000000)(G:DH):I9 (.str (Al l)) lo hi G=.ok (.str (Al (cutD l lo hi))) G:=by
 rw[Iv,if_pos (by show l.toArray.size<=1000000;simpa using h)]
 rfl
theorem ZIi(h:(c::l).length<=1000000)(G:DH):Ak (.str (Al (c::l))) (.int 0) G=.ok (.str (Al [c])) G:=by
 rw[Io,if_pos (by show(c::l).toArray.size<=1000000;simpa using h)]
 show(match atI (c::l) 0 with |some c=>R.ok (sgn c) G|none=>.bad)=_
 have h0:atI (c::l) (0:Int)=xE c:=Ez (k:=0) rfl rfl;rw[h0]
 rfl
theorem Jv(G:DH):freeze G (.ok (.str x) G)=.ok (.str x) G:=Yx rfl
theorem Eu{m:Nat}{l:List Str}:bels m (l.map D.str)=xG:=Gk λ_ _=>rfl
theorem pigeon[DecidableEq α]:∀(zs l:List α),zs.Nodup->l.length<zs.length->∃z,z∈zs/\z∉l
 |[],l,_,h=>by simp at h
 | z::zs,l,hn,h=>by
  by_cases hz:z∈l
  ·have hn':=qT.mp hn;have hl:(l.erase z).length=l.length-1:=List.length_erase_of_mem hz;have hp:0<l.length:=List.length_pos_of_mem hz;obtain⟨y,hy,hny⟩:=pigeon zs (l.erase z) hn'.2 (by simp only[qw]at h;lia);have hne:y≠z:=λe=>hn'.1 (e▸hy)
   exact⟨y,zX _ hy,λhm=>hny ((List.mem_erase_of_ne hne).mpr hm)⟩
  ·exact⟨z,by simp,hz⟩
def zsL:List Str:=Jo.map λc=>Al [122,c]
theorem ZIv:zsL.Nodup:=by decide +kernel
theorem Ld:zsL.length=26:=by decide +kernel
theorem ZFY:∀z∈zsL,z≠"sea":=by decide +kernel
theorem Q6:∀l:List Str,Hx (l.map D.str)=xE (l.map V.str)
 |[]=>rfl
 |a::l=>by
  rw[zj,Hx,Q6 l]
  rfl
theorem Qc(x:Str):∀l:List Str,inV (.str x) (l.map V.str)=decide (x∈l)
 |[]=>by simp[inV]
 | a::l=>by
  show(eqV (.str a) (.str x)||inV (.str x) (l.map V.str))=_;rw[Qc x l];show((a==x)||decide (x∈l))=_;by_cases e:a=x
  ·subst e;simp
  ·have e2:¬x=a:=λz=>e z.symm
   simp[e,e2]
theorem ZFa{l:List Str}(h:G[i]?=xE (.lst (l.map D.str))):Nk (.str x) (.ref i) G=.ok (.bl (!decide (x∈l))) G:=by
 have hs:Bs (.ref i) G=xE (l.map D.str):=by simp[h]
 have key:inD (.str x) (.ref i) G=xE (decide (x∈l)):=by
  show(match Bs (.ref i) G,Jt (.str x)with |some xs,xE v=>(Hx xs).map λvs=>inV v vs|_,_=>xF)=_
  rw[hs];show(Hx (l.map D.str)).map (λvs=>inV (.str x) vs)=_;rw[Q6];show xE (inV _ _)=_;rw[Qc]
 unfold Nk;rw[key]
def wdF:Nat->Int->List Nat->List Nat
 |0,_,w=>w
 |m+1,rest,w=>wdF m (rest/26) (w++[97+(rest%26).toNat])
theorem Zh:∀(m:Nat)(rest:Int)(w:List Nat),(wdF m rest w).length=w.length+m
 |0,_,_=>rfl
 |m+1,rest,w=>by unfold wdF;rw[Zh m];simp;lia
theorem ZBr{s0 s2 s3 s7:Option D}{G:DH}:∀(m:Nat)(j rest:Int)(w:List Nat)(x:Option D),w.length+m<=1000->∃r y,Bw (gV 6) R3 (Ck j m) [s0,xE (.str ("abcdefghijklmnopqrstuvwxyz":Str)),s2,s3,xE (.str (Al w)),xE (.int rest),x,s7] G=.nx [s0,xE (.str ("abcdefghijklmnopqrstuvwxyz":Str)),s2,s3,xE (.str (Al (wdF m rest w))),r,y,s7] G
 |0,j,rest,w,x,h=>⟨xE (.int rest),x,by rw[Jl,Ej];rfl⟩
 | m+1,j,rest,w,x,h=>by
  obtain⟨r,y,ih⟩:=ZBr (s0:=s0) (s2:=s2) (s3:=s3) (s7:=s7) (G:=G) m (j+1) (rest/26) (w++[97+(rest%26).toNat]) (xE (.int j)) (by simp;lia);refine⟨r,y,?_⟩;have hb:R3 [s0,xE (.str ("abcdefghijklmnopqrstuvwxyz":Str)),s2,s3,xE (.str (Al w)),xE (.int rest),xE (.int j),s7] G=.nx [s0,xE (.str ("abcdefghijklmnopqrstuvwxyz":Str)),s2,s3,xE (.str (Al (w++[97+(rest%26).toNat]))),xE (.int (rest/26)),xE (.int j),s7] G:=by
   have hi:=λG=>Rc (i:=rest%26) (by lia) (by lia) G
   have ha:=λG=>add_str (l:=w) (l':=[97+(rest%26).toNat]) (by simp;lia) G
   generalize Al [97+(rest%26).toNat]=z at hi ha;generalize("abcdefghijklmnopqrstuvwxyz":Str)=AB at hi;unfold R3;simp[-Io,-Hn,hi,ha]
  rw[Ib,Dj];simp only[Gi,R.Gu,qG,hb,Gx];exact ih
theorem ZHd(G:DH):Cj (gV 0) Cm Ow [xF] (Jo.map sgn) G=.ok (zsL.map D.str) G:=by
 unfold zsL;rw[q8];generalize Jo=l
 induction l with
 |nil=>rfl
 | cons c l ih=>
  have he:Ow [xE (sgn c)] G=.ok (.str (Al [122,c])) G:=by
   have ha:=add_str (l:=[122]) (l':=[c]) (by simp) G;have e1:Al [122]=("z":Str):=by decide +kernel
   rw[e1]at ha;have e2:sgn c=.str (Al [c]):=rfl;unfold Ow;rw[e2];simp[-Hn,ha]
  rw[zj,Ji];simp[he,ih]
theorem ZC2{names:List Str}(hG:G[i]?=xE (.lst (names.map D.str))):∀l:List Str,Cj (gV 0) Pk R8 [xF,xE (.ref i)] (l.map D.str) G=.ok ((l.filter λx=>decide (x∉names)&&decide (x≠"sea")).map D.str) G
 |[]=>rfl
 | a::l=>by
  have ih:=ZC2 hG l;have h1:=ZFa (x:=a) hG;have ht:Pk [xE (.str a),xE (.ref i)] G=.ok (decide (a∉names)&&decide (a≠"sea")) G:=by
   unfold Pk;by_cases h:a∈names
   ·simp[h1,h]
   ·by_cases h2:a="sea"
    ·have h3:(a="sea")=True:=by simp[h2]
     simp[h1,h,h3]
    ·simp[h1,h,h2]
  have he:R8 [xE (.str a),xE (.ref i)] G=.ok (.str a) G:=by unfold R8;simp
  rw[zj,Ji];simp only[Gi,R.ZCb,qG,ht,he,ih];rw[List.filter_cons]
  cases(decide (a∉names)&&decide (a≠"sea"))<;>simp
def LL(l:List Nat):Prop:=1<=l.length/\l.length<=8/\∀c∈l,97<=c/\c<123
def Wd(z:Str):Prop:=∃l:List Nat,z=Al l/\LL l
theorem ZC0:∀(m:Nat)(rest:Int)(w:List Nat),(∀c∈w,97<=c/\c<123)->∀c∈wdF m rest w,97<=c/\c<123
 |0,_,_,h=>h
 | m+1,rest,w,h=>by
  unfold wdF;exact ZC0 m _ _ λc hc=>by
   rcases zP.mp hc with hc|hc
   ·exact h c hc
   ·rw[qy.mp hc];lia
theorem ZEJ:∀c∈Jo,97<=c/\c<123:=by decide +kernel
theorem ZE9:∀z∈zsL,Wd z:=λz hz=>by
 obtain⟨c,hc,rfl⟩:=zD.mp hz;refine⟨[122,c],rfl,by simp,by simp,λx hx=>?_⟩;rcases zz.mp hx with rfl|hx
 ·lia
 ·rw[qy.mp hx];exact ZEJ c hc
theorem ZIx{names:List Str}{x:Int}(hx:0<=x)(hl:names.length<26):∃nm:Str,(nm∉names/\nm≠"sea"/\Wd nm)/\∀(G:DH)(s0 x4 x5 x6 x7:Option D),∃y4 y5 y6 y7,
  Py [s0,xE (.str ("abcdefghijklmnopqrstuvwxyz":Str)),xE (.ref G.length),xE (.int x),x4,x5,x6,x7] (G++[.lst (names.map D.str)])=
   .nx [s0,xE (.str ("abcdefghijklmnopqrstuvwxyz":Str)),xE (.ref G.length),xE (.int x),y4,y5,y6,y7] (G++[.lst ((names++[nm]).map D.str)]):=by
 obtain⟨m,hm⟩:∃m:Nat,1+x%8=m:=⟨(1+x%8).toNat,by lia⟩;have hm8:m<=8:=by lia
 obtain⟨w,ew⟩:∃w:Str,Al (wdF m (x/8) [])=w:=⟨_,rfl⟩;obtain⟨z,hz,hzn⟩:=pigeon zsL names ZIv (by rw[Ld];exact hl);have hne:∃a r,((w::zsL).filter λx=>decide (x∉names)&&decide (x≠"sea"))=a::r:=by
  have:z∈((w::zsL).filter λx=>decide (x∉names)&&decide (x≠"sea")):=qS.mpr ⟨zX _ hz,by simp[hzn,ZFY z hz]⟩;cases e:((w::zsL).filter λx=>decide (x∉names)&&decide (x≠"sea"))with
  |nil=>rw[e]at this;cases this
  |cons a r=>exact⟨a,r,rfl⟩
 obtain⟨a,r,har⟩:=hne;have ha:a∉names/\a≠"sea"/\Wd a:=by
  have h1:a∈((w::zsL).filter λx=>decide (x∉names)&&decide (x≠"sea")):=by rw[har];exact zk
  have h2:a∉names/\a≠"sea":=by simpa using(qS.mp h1).2
  refine⟨h2.1,h2.2,?_⟩;rcases zz.mp (qS.mp h1).1 with h3|h3
  ·rw[h3,<-ew]
   refine⟨_,rfl,?_,?_,ZC0 m _ [] (λc hc=>nomatch hc)⟩
   ·rw[Zh];simp;lia
   ·rw[Zh];simp;lia
  ·exact ZE9 a h3
 refine⟨a,ha,λG s0 x4 x5 x6 x7=>?_⟩;obtain⟨r5,y6,hw⟩:=ZBr (s0:=s0) (s2:=xE (.ref G.length)) (s3:=xE (.int x)) (s7:=x7) (G:=G++[.lst (names.map D.str)]) m 0 (x/8) [] x6 (by simp;lia);refine⟨xE (.str w),r5,y6,xE (.fl ((w::zsL).map D.str)),?_⟩;have hz0:=λG=>ZHd G
 have hk:=ZC2 (names:=names) (i:=G.length) (G:=G++[.lst (names.map D.str)]) (by rw[Fe];rfl) (w::zsL);rw[har]at hk;have hlow:Fd (.str ("abcdefghijklmnopqrstuvwxyz":Str)) (G++[DO.lst (names.map D.str)])=.ok (.pure (Jo.map sgn)) (G++[DO.lst (names.map D.str)]):=rfl;have hzl:(zsL.map D.str).length<=1000000:=by rw[zw,Ld];decide
 have hzl4:1+(zsL.map D.str).length<=1000000:=by rw[zw,Ld];decide
 have hzl2:zsL.length<=999999:=by rw[Ld];decide
 have hzl3:zsL.length<=1000000:=by rw[Ld];decide
 have e0:Al []=("":Str):=by decide +kernel
 have fz1:∀ls:List Str,freeze (G++[.lst (names.map D.str)]) (.ok (.ref (G.length+1)) (G++[.lst (names.map D.str),.lst (ls.map D.str)]))=.ok (.fl (ls.map D.str)) (G++[.lst (names.map D.str)]):=λls=>V7 Eu
 have fza:=fz1 [w];have fzb:=fz1 zsL;have fzc:=fz1 (w::zsL);have fzd:=fz1 (a::r);have hrl:r.length<=1000000/\r.length<=999999:=by
  have h1:(a::r).length<=(w::zsL).length:=by rw[<-har];exact jV _ _
  simp only[qw,Ld]at h1;lia
 have hnl:names.length<1000000:=by lia
 have hr:inR (m:Int):=Gz (by lia) (by lia);rw[e0,ew]at hw;have hcs1:∀S:DSt,Bf 1 [] S=[xF]:=λS=>rfl
 have hcs2:∀(a b c d e f g h:Option D),Bf 1 [2] [a,b,c,d,e,f,g,h]=[xF,c]:=λ_ _ _ _ _ _ _ _=>rfl
 simp only[zj,qj]at fza fzc fzd hk⊢;generalize zsL.map D.str=Z at*;generalize("abcdefghijklmnopqrstuvwxyz":Str)=AB at*;generalize Jo.map sgn=LS at*;unfold Py;simp[-ZEe,hm,hr,hw,hlow,hcs1,hz0,fza,hzl,fzb,fzc,hcs2,hk,hrl,fzd,Fe,Hz,hnl,hzl4]
theorem ZJz{l:List Str}{a:Str}(h:l.Nodup)(ha:a∉l):(l++[a]).Nodup:=by rw[List.nodup_append];refine⟨h,by simp,λx hx y hy e=>?_⟩;rw[qy.mp hy]at e;exact ha (e▸hx)
theorem ZBz:∀(xs:List Int)(acc:List Str),(∀x∈xs,0<=x)->acc.length+xs.length<26->∃nm:List Str,nm.length=xs.length/\(acc.Nodup->(acc++nm).Nodup)/\(∀z∈nm,z≠"sea"/\Wd z)/\∀(G:DH)(s0 x3 x4 x5 x6 x7:Option D),∃y3 y4 y5 y6 y7,
  Bw (gV 3) Py (xs.map D.int) [s0,xE (.str ("abcdefghijklmnopqrstuvwxyz":Str)),xE (.ref G.length),x3,x4,x5,x6,x7] (G++[.lst (acc.map D.str)])=
   .nx [s0,xE (.str ("abcdefghijklmnopqrstuvwxyz":Str)),xE (.ref G.length),y3,y4,y5,y6,y7] (G++[.lst ((acc++nm).map D.str)])
 |[],acc,_,_=>⟨[],rfl,(λh=>by rw[zU];exact h),(λz hz=>nomatch hz),λG s0 x3 x4 x5 x6 x7=>⟨x3,x4,x5,x6,x7,by rw[qj,Ej,zU]⟩⟩
 | x::xs,acc,hx,hl=>by
  simp only[qw]at hl;obtain⟨a,ha0,ha⟩:=ZIx (names:=acc) (x:=x) (hx x (by simp)) (by lia);obtain⟨nm,hn,hd,hs,ih⟩:=ZBz xs (acc++[a]) (λy hy=>hx y (zX _ hy)) (by simp;lia);refine⟨a::nm,by simp[hn],λh=>?_,λz hz=>?_,λG s0 x3 x4 x5 x6 x7=>?_⟩
  ·have h1:=hd (ZJz h ha0.1);rwa[List.append_assoc]at h1
  ·rcases zz.mp hz with rfl|hz
   ·exact ha0.2
   ·exact hs z hz
  obtain⟨z4,z5,z6,z7,hb⟩:=ha G s0 x4 x5 x6 x7;obtain⟨y3,y4,y5,y6,y7,hL⟩:=ih G s0 (xE (.int x)) z4 z5 z6 z7;refine⟨y3,y4,y5,y6,y7,?_⟩;rw[zj,Dj];simp only[Gi,R.Gu,qG,hb,Gx];rw[hL,List.append_assoc]
  rfl
theorem ZEb(hx:∀x∈xs,0<=x)(hl:xs.length<26):∃nm:List Str,nm.length=xs.length/\nm.Nodup/\(∀z∈nm,z≠"sea"/\Wd z)/\∀G,Qn [.fl (xs.map D.int)] G=.ok (.ref G.length) (G++[.lst (nm.map D.str)]):=by obtain⟨nm,hn,hd,hs,h⟩:=ZBz xs [] hx (by simpa using hl);refine⟨nm,hn,hd List.nodup_nil,hs,λG=>?_⟩;obtain⟨y3,y4,y5,y6,y7,hL⟩:=h G (xE (.fl (xs.map D.int))) xF xF xF xF xF;simp only[qj,List.nil_append]at hL;have td:=G6 (G:=G) (ds:=nm.map D.str) (L:=[]) Eu;unfold Qn ZBw;rw[Bp];generalize("abcdefghijklmnopqrstuvwxyz":Str)=AB at*;simp[Ay,G6,hL,td]
def nmS(l:List Nat):Str:=if Al l="sea" then "seat" else Al l
def nmF(xs:List Int)(w:List Nat)(sz a:Nat)(k:Nat):List Nat:=cutD w xF (xE (a:Int))++[97+((gx xs 10+5*(k:Int))%26).toNat]++cutD w (xE (a:Int)) (xE (sz:Int))
theorem ZBO(hxl:xs.length=24)(hw:w.length<=1000){sz a:Nat}{s0 s4 s5:Option D}{G:DH}:∀(m k:Nat)(acc:List Str)(x7 x8 x11:Option D),k+m<=12->acc.length+m<=1000->∃y7 y8 y11,
  Bw (gV 7) Oh (Ck k m) [s0,xE (.str ("abcdefghijklmnopqrstuvwxyz":Str)),xE (.fl (xs.map D.int)),xE (.str (Al w)),s4,s5,xE (.ref G.length),x7,x8,xE (.int sz),xE (.int a),x11] (G++[.lst (acc.map D.str)])=
   .nx [s0,xE (.str ("abcdefghijklmnopqrstuvwxyz":Str)),xE (.fl (xs.map D.int)),xE (.str (Al w)),s4,s5,xE (.ref G.length),y7,y8,xE (.int sz),xE (.int a),y11] (G++[.lst ((acc++(qx k m).map λk=>nmS (nmF xs w sz a k)).map D.str)])
 |0,k,acc,x7,x8,x11,e,h=>⟨x7,x8,x11,by rw[Jl,Ej];simp⟩
 | m+1,k,acc,x7,x8,x11,e,h=>by
  obtain⟨y7,y8,y11,ih⟩:=ZBO hxl hw (sz:=sz) (a:=a) (s0:=s0) (s4:=s4) (s5:=s5) (G:=G) m (k+1) (acc++[nmS (nmF xs w sz a k)]) (xE (.int k)) (xE (.str (nmS (nmF xs w sz a k)))) (xE (.str (Al [97+((gx xs 10+5*(k:Int))%26).toNat]))) (by lia) (by simp;lia);refine⟨y7,y8,y11,?_⟩;have a10:atI (xs.map D.int) 10=xE (.int (gx xs 10)):=Di (i:=10) (by lia);have m5:∀G,Cv (.int 5) (.int (k:Int)) G=.ok (.int (5*(k:Int))) G:=λG=>Kp (by lia) (by lia)
  have hi:=λG=>Rc (i:=(gx xs 10+5*(k:Int))%26) (by lia) (by lia) G
  have l1:=S9 w xF (xE (a:Int));have l2:=S9 w (xE (a:Int)) (xE (sz:Int));have h1:=λG=>Ik (l:=w) (lo:=xF) (hi:=xE (a:Int)) (by lia) G
  have h2:=λG=>Ik (l:=w) (lo:=xE (a:Int)) (hi:=xE (sz:Int)) (by lia) G
  have h3:=λG=>add_str (l:=cutD w xF (xE (a:Int))) (l':=[97+((gx xs 10+5*(k:Int))%26).toNat]) (by simp;lia) G
  have h4:=λG=>add_str (l:=cutD w xF (xE (a:Int))++[97+((gx xs 10+5*(k:Int))%26).toNat]) (l':=cutD w (xE (a:Int)) (xE (sz:Int))) (by simp;lia) G
  have hb:Oh [s0,xE (.str ("abcdefghijklmnopqrstuvwxyz":Str)),xE (.fl (xs.map D.int)),xE (.str (Al w)),s4,s5,xE (.ref G.length),xE (.int k),x8,xE (.int sz),xE (.int a),x11] (G++[.lst (acc.map D.str)])=
    .nx [s0,xE (.str ("abcdefghijklmnopqrstuvwxyz":Str)),xE (.fl (xs.map D.int)),xE (.str (Al w)),s4,s5,xE (.ref G.length),xE (.int k),xE (.str (nmS (nmF xs w sz a k))),xE (.int sz),xE (.int a),xE (.str (Al [97+((gx xs 10+5*(k:Int))%26).toNat]))] (G++[.lst ((acc++[nmS (nmF xs w sz a k)]).map D.str)]):=by
   have hal:acc.length<1000000:=by lia
   unfold nmF nmS;generalize Al (cutD w xF (xE (a:Int))++[97+((gx xs 10+5*(k:Int))%26).toNat]++cutD w (xE (a:Int)) (xE (sz:Int)))=nm at*;generalize Al (cutD w xF (xE (a:Int))++[97+((gx xs 10+5*(k:Int))%26).toNat])=nm1 at*;generalize Al (cutD w xF (xE (a:Int)))=nm2 at*;generalize Al [97+((gx xs 10+5*(k:Int))%26).toNat]=nm3 at*;generalize Al (cutD w (xE (a:Int)) (xE (sz:Int)))=nm4 at*
   generalize Al w=W at*;generalize("abcdefghijklmnopqrstuvwxyz":Str)=AB at*;unfold Oh;by_cases hs:nm="sea"
   ·have hs':(nm="sea")=True:=by simp[hs]
    simp[-Io,-Hn,-Iv,a10,m5,hi,h1,h2,h3,h4,Jv,Fe,Hz,hal,hs']
   ·simp[-Io,-Hn,-Iv,a10,m5,hi,h1,h2,h3,h4,Jv,Fe,Hz,hal,hs]
  rw[Ib,Dj];simp only[Gi,R.Gu,qG,hb,Gx];have e1:((k:Int)+1)=((k+1:Nat):Int):=by lia
  rw[e1,ih,List.range'_succ,zj,List.append_assoc]
  rfl
noncomputable def wd0(xs:List Int):List Nat:=(xs.take 8).map λx=>97+(x%26).toNat
theorem ZIu(l:List Int)(G:DH):Cj (gV 0) Cm R9 [xF,xE (.str ("abcdefghijklmnopqrstuvwxyz":Str))] (l.map D.int) G=.ok ((l.map λx=>97+(x%26).toNat).map sgn) G:=by
 induction l with
 |nil=>rfl
 |cons x l ih=>
  have hi:=Rc (i:=x%26) (by lia) (by lia) G;have he:R9 [xE (.int x),xE (.str ("abcdefghijklmnopqrstuvwxyz":Str))] G=.ok (sgn (97+(x%26).toNat)) G:=by have e2:sgn (97+(x%26).toNat)=.str (Al [97+(x%26).toNat]):=rfl;rw[e2];generalize("abcdefghijklmnopqrstuvwxyz":Str)=AB at*;unfold R9;simp[-Io,hi]
  rw[zj,Ji];simp[-Io,he,ih]
theorem ZEh{cs:List Nat}(h:cs.length<=1000)(G:DH):Kq (.str ("":Str)) [.fl (cs.map sgn)] G=.ok (.str (Al cs)) G:=by
 have h1:=ZGF (sep:=("":Str)) (ys:=cs.map λc=>(⟨#[c]⟩:Str)) (G:=G) (by
  have e:("":Str).length=0:=by decide +kernel
  rw[e]
  have:∀l:List Nat,((l.map λc=>(⟨#[c]⟩:Str)).map (·.length)).sum=l.length:=λl=>by
   induction l with
   |nil=>rfl
   |cons a l ih=>
    simp only[zj,List.sum_cons,ih,qw];show 1+l.length=_;lia
  rw[this];lia)
 rw[ZG5,q8]at h1;exact h1
theorem addR{p:Nat}{xs ys:List D}(h:G[p]?=xE (.lst xs))(hl:xs.length+ys.length<=1000000):Aq (.ref p) (.fl ys) G=.ok (.ref G.length) (G++[.lst (xs++ys)]):=by simp[Aq,Hh,h,hl]
theorem slR{p:Nat}{xs:List D}(h:G[p]?=xE (.lst xs)):I9 (.ref p) lo hi G=.ok (.ref G.length) (G++[.lst (cutD xs lo hi)]):=by simp[I9,Hh,h]
def sea2(x:Str):Str:=if x="sea" then "sa" else x
structure NmOk (nm:List Str):Prop where
 nd:nm.Nodup
 sea:∀z∈nm,z≠"sea"
 wd:∀z∈nm,Wd z
theorem Gd(h:Al l=Al l'):l=l':=by have h1:l.toArray=l'.toArray:=congrArg Str.cps h;simpa using h1
theorem Kl:("sea":Str)=Al [115,101,97]:=by decide +kernel
theorem Vf:("sa":Str)=Al [115,97]:=by decide +kernel
theorem Uh:("seat":Str)=Al [115,101,97,116]:=by decide +kernel
theorem ZIm(h:sea2 (Al l)=sea2 (Al l'))(hp:∀a b,l=[115,a,b]->l'≠[115,97]∨a=97)(hp':∀a b,l'=[115,a,b]->l≠[115,97]∨a=97):l=l':=by
 unfold sea2 at h;split at h
 ·rename_i h1;rw[Kl]at h1;have e:=Gd h1;split at h
  ·rename_i h2;rw[Kl]at h2;rw[e,Gd h2]
  ·rw[Vf]at h;have e2:=Gd h;rcases hp _ _ e with z|z
   ·exact absurd e2.symm z
   ·cases z
 ·split at h
  ·rename_i h2;rw[Kl]at h2;have e:=Gd h2;rw[Vf]at h;have e2:=Gd h;rcases hp' _ _ e with z|z
   ·exact absurd e2 z
   ·cases z
  ·exact Gd h
theorem ZHB(x:Str):sea2 x≠"sea":=by
 unfold sea2;split
 ·decide +kernel
 ·assumption
theorem ZJL(h:NmOk nm)(r:Nat):NmOk (nm.drop r++nm.take r):=by
 have p:List.Perm (nm.drop r++nm.take r) nm:=by have:=List.perm_append_comm (l₁:=nm.drop r) (l₂:=nm.take r);rwa[List.take_append_drop]at this
 exact⟨p.nodup_iff.mpr h.nd,λz hz=>h.sea z (p.mem_iff.mp hz),λz hz=>h.wd z (p.mem_iff.mp hz)⟩
theorem ZBt{l:List α}(h:∀i j(hi:i<l.length)(hj:j<l.length),l[i]=l[j]->i=j):l.Nodup:=by rw[List.nodup_iff_pairwise_ne,List.pairwise_iff_getElem];intro i j hi hj hij e;have:=h i j hi hj e;lia
theorem ZCa{l:List α}(h:l.Nodup){j:Nat}(hi:i<l.length)(hj:j<l.length)(e:l[i]=l[j]):i=j:=by
 rw[List.nodup_iff_pairwise_ne,List.pairwise_iff_getElem]at h;rcases Nat.lt_trichotomy i j with z|z|z
 ·exact absurd e (h i j hi hj z)
 ·exact z
 ·exact absurd e.symm (h j i hj hi z)
theorem Uq{x:Nat}{r:List Nat}:∀{m:Nat},(x::w).take m=a::r->x=a
 |0,h=>by cases h
 |m+1,h=>by rw[List.take_succ_cons]at h;exact(List.cons.inj h).1
theorem ZBG(h:LL l):Wd (sea2 (Al l)):=by
 unfold sea2;split
 ·exact⟨[115,97],Vf,by simp,by simp,by decide⟩
 ·exact⟨l,rfl,h⟩
theorem ZIR(h:LL l):Wd (nmS l):=by
 unfold nmS;split
 ·exact⟨[115,101,97,116],Uh,by simp,by simp,by decide⟩
 ·exact⟨l,rfl,h⟩
theorem ZAF(hc:97<=c/\c<123)(hw:∀x∈w,97<=x/\x<123)(hk:k<8):LL ((c::w).take (k+1)):=by
 refine⟨?_,?_,λx hx=>?_⟩
 ·rw[qV,qw];lia
 ·rw[qV];lia
 ·rcases zz.mp (qJ hx)with rfl|hx
  ·exact hc
  ·exact hw x hx
theorem ZKK(hw:w.length=7)(hcd:c≠d)(hc':97<=c/\c<123)(hd':97<=d/\d<123)(hww:∀x∈w,97<=x/\x<123):NmOk ((((zx 8).map λk=>Al ((c::w).take (k+1)))++(zx 4).map λk=>Al ((d::w).take (k+1))).map sea2):=by
 refine⟨ZBt λi j hi hj e=>?_,λz hz=>?_,λz hz=>?_⟩
 ·clear hc' hd' hww;simp only[zw,qK,List.length_range]at hi hj;have g:∀i(h:i<((((zx 8).map λk=>Al ((c::w).take (k+1)))++(zx 4).map λk=>Al ((d::w).take (k+1))).map sea2).length),
    ((((zx 8).map λk=>Al ((c::w).take (k+1)))++(zx 4).map λk=>Al ((d::w).take (k+1))).map sea2)[i]=sea2 (Al (if i<8 then c::w.take i else d::w.take (i-8))):=λi h=>by
   rw[List.getElem_map];by_cases h8:i<8
   ·rw[List.getElem_append_left (by simpa using h8),if_pos h8];simp
   ·rw[List.getElem_append_right (by simp;lia),if_neg h8];simp
  rw[g,g]at e;have key:=ZIm e ?_ ?_
  ·split at key<;>split at key
   ·have:=congrArg List.length (List.cons.inj key).2;simp at this;lia
   ·exact absurd (List.cons.inj key).1 hcd
   ·exact absurd (List.cons.inj key).1.symm hcd
   ·have:=congrArg List.length (List.cons.inj key).2;simp at this;lia
  all_goals
   intro a b h1;cases w with
   |nil=>cases hw
   | cons x w=>
    refine Classical.or_iff_not_imp_right.mpr λha h2=>?_
    have key:∀p q:Nat,(if p<8 then c::(x::w).take p else d::(x::w).take (p-8))=[115,a,b]->(if q<8 then c::(x::w).take q else d::(x::w).take (q-8))=[115,97]->False:=λp q z1 z2=>by
     have t1:∀m r,(x::w).take m=a::r->x=a:=λm r z=>Uq z
     split at z1<;>split at z2<;>exact ha ((Uq (List.cons.inj z1).2).symm.trans (Uq (List.cons.inj z2).2))
    exact key _ _ h1 h2
 ·obtain⟨x,_,rfl⟩:=zD.mp hz;exact ZHB x
 ·obtain⟨x,hx,rfl⟩:=zD.mp hz;rcases zP.mp hx with hx|hx
  ·obtain⟨k,hk,rfl⟩:=zD.mp hx;have:=zO.mp hk;exact ZBG (ZAF hc' hww this)
  ·obtain⟨k,hk,rfl⟩:=zD.mp hx;have:=zO.mp hk;exact ZBG (ZAF hd' hww (by lia))
theorem ZIK(hl:l.length=l'.length)(h:nmS l=nmS l'):l=l':=by
 unfold nmS at h;split at h
 ·rename_i h1;rw[Kl]at h1;have e:=Gd h1;split at h
  ·rename_i h2;rw[Kl]at h2;rw[e,Gd h2]
  ·rw[Uh]at h;rw[e,<-Gd h]at hl;cases hl
 ·split at h
  ·rename_i h2;rw[Kl]at h2;rw[Uh]at h;rw[Gd h2,Gd h]at hl;cases hl
  ·exact Gd h
theorem ZED(l:List Nat):nmS l≠"sea":=by
 unfold nmS;split
 ·decide +kernel
 ·assumption
theorem ZD7{X Y:List Nat}{g:Int}(hl:X.length+Y.length<=7)(hX:∀x∈X,97<=x/\x<123)(hY:∀x∈Y,97<=x/\x<123):NmOk ((qx 0 12).map λk:Nat=>nmS (X++[97+((g+5*(k:Int))%26).toNat]++Y)):=by
 refine⟨ZBt λi j hi hj e=>?_,λz hz=>?_,λz hz=>?_⟩
 ·clear hl hX hY;simp only[zw,List.length_range']at hi hj;simp only[List.getElem_map,List.getElem_range',Nat.zero_add,Nat.one_mul]at e;have e1:=ZIK (by simp) e;have e2:=List.append_cancel_right e1;have e3:=List.append_cancel_left e2;have e4:97+((g+5*(i:Int))%26).toNat=97+((g+5*(j:Int))%26).toNat:=(List.cons.inj e3).1;omega +splitNatSub
 ·obtain⟨x,_,rfl⟩:=zD.mp hz;exact ZED _
 ·obtain⟨x,_,rfl⟩:=zD.mp hz;refine ZIR ⟨by simp;lia,by simp;lia,λy hy=>?_⟩;rcases zP.mp hy with hy|hy
  ·rcases zP.mp hy with hy|hy
   ·exact hX y hy
   ·rw[qy.mp hy];lia
  ·exact hY y hy
theorem ZF4:∀i,i<26->Txt.find ("abcdefghijklmnopqrstuvwxyz":Str) (Al [97+i])=(i:Int):=by decide +kernel
theorem ZH0{p:Nat}{l:List Str}(h:G[p]?=xE (.lst (l.map D.str))):Ew p (gV 0) Cm Sx [xF] l.length 0 G=.ok ((l.map sea2).map D.str) G:=by
 have h1:=ZHm (g:=gV 0) (c:=Cm) (te:=Sx) (S:=[xF]) (F:=λd=>match d with
  |.str x=>xE (.str (sea2 x))
  | _=>xF) h (λx hx=>by
   obtain⟨y,_,rfl⟩:=zD.mp hx;refine⟨[xE (.str y)],rfl,.inr ⟨rfl,.str (sea2 y),?_,rfl⟩⟩;have fz:freeze G (.ok (.ref G.length) (G++[.lst [.str y,.str "sa"]]))=.ok (.fl [.str y,.str "sa"]) G:=Ce rfl;unfold Sx sea2;by_cases hs:y="sea"
   ·have hs':(y="sea")=True:=by simp[hs]
    simp[fz,hs']
   ·simp[fz,hs])
 rw[zw]at h1;rw[h1,qB,q8]
 congr 1
 show List.filterMap (λx=>xE ((D.str∘sea2) x)) l=_;rw[List.filterMap_eq_map']
theorem ZEn(hw:w.length<=1000)(n:Nat)(G:DH):Cj (gV 0) Cm Rv [xF,xE (.str (Al w))] (Ck 0 n) G=.ok (((zx n).map λk:Nat=>Al (cutD w xF (xE ((k:Int)+1)))).map D.str) G:=by
 rw[q8];exact Z4 (te:=Rv) (S:=[xF,xE (.str (Al w))]) λk _=>by have h:=Ik (l:=w) (lo:=xF) (hi:=xE ((k:Int)+1)) (by lia) G;unfold Rv;simp[-Iv,h,Jv]
theorem ZG1(hw:w.length<=1000)(n:Nat)(G:DH):Cj (gV 0) Cm Su [xF,xE (.str (Al w))] (Ck 0 n) G=.ok (((zx n).map λk:Nat=>Al (cutD w xF (xE ((k:Int)+1)))).map D.str) G:=by
 rw[q8];exact Z4 (te:=Su) (S:=[xF,xE (.str (Al w))]) λk _=>by have h:=Ik (l:=w) (lo:=xF) (hi:=xE ((k:Int)+1)) (by lia) G;unfold Su;simp[-Iv,h,Jv]
theorem T3{xs:List α}{x:α}(h:x∈cutD xs lo hi):x∈xs:=by unfold cutD at h;exact qI (qJ h)
theorem ZGY{xs:List α}{b:Nat}(hab:a<=b)(hb:b<=xs.length):cutD xs (xE (a:Int)) (xE (b:Int))=(xs.drop a).take (b-a):=by
 have h1:=(Hi xs.length (a:Int)).2;have h2:=(Hi xs.length (b:Int)).1;have e1:HT.sIx xs.length 0 (xE (a:Int))=a:=by lia
 have e2:HT.sIx xs.length xs.length (xE (b:Int))=b:=by lia
 unfold cutD;rw[e1,e2]
theorem ZGL(hxl:xs.length=24)(hx:∀x∈xs,0<=x)(hw8:w.length=7)(hc:97<=c/\c<123)(hww:∀x∈w,97<=x/\x<123):∃nm:List Str,nm.length=12/\NmOk nm/\∀(G:DH)(s0:Option D),∃k L,
  Mt [s0,xE (.str ("abcdefghijklmnopqrstuvwxyz":Str)),xE (.fl (xs.map D.int)),xE (.str (Al (c::w))),xF,xF,xF,xF,xF,xF,xF,xF] G=.rt (.ref (G.length+k)) (G++L)/\L[k]?=xE (.lst (nm.map D.str)):=by
 have hw:(c::w).length<=100:=by simp[hw8]
 have a8:atI (xs.map D.int) 8=xE (.int (gx xs 8)):=Di (i:=8) (by lia);have a9:atI (xs.map D.int) 9=xE (.int (gx xs 9)):=Di (i:=9) (by lia);have a10:atI (xs.map D.int) 10=xE (.int (gx xs 10)):=Di (i:=10) (by lia);by_cases h8:gx xs 8%3=0
 ·obtain⟨t,et⟩:∃t:Int,(Txt.find ("abcdefghijklmnopqrstuvwxyz":Str) (Al [c])+1+gx xs 9%25)%26=t:=⟨_,rfl⟩;have ht:0<=t/\t<26:=by lia
  let o:List Nat:=[97+t.toNat]++cutD (c::w) (xE 1) xF;obtain⟨r,hr⟩:∃r:Nat,gx xs 10%12=r:=⟨(gx xs 10%12).toNat,by lia⟩;have hr12:r<12:=by lia
  obtain⟨A,hA⟩:∃A:List Str,((zx 8).map λk:Nat=>Al (cutD (c::w) xF (xE ((k:Int)+1))))=A:=⟨_,rfl⟩;obtain⟨B,hB⟩:∃B:List Str,((zx 4).map λk:Nat=>Al (cutD o xF (xE ((k:Int)+1))))=B:=⟨_,rfl⟩;have lA:A.length=8:=by rw[<-hA];simp
  have lB:B.length=4:=by rw[<-hB];simp
  have eA:A=(zx 8).map λk=>Al ((c::w).take (k+1)):=by
   rw[<-hA];refine List.map_congr_left λk hk=>?_
   have hk':=zO.mp hk;have e:(k:Int)+1=((k+1:Nat):Int):=by lia
   rw[e,Ke (by simp[hw8];lia)]
  have eo:o=(97+t.toNat)::w:=by
   show[97+t.toNat]++cutD (c::w) (xE 1) xF=_;have e:cutD (c::w) (xE ((1:Nat):Int)) xF=(c::w).drop 1:=O7 (by simp);have e':cutD (c::w) (xE 1) xF=w:=e;rw[e']
   rfl
  have eB:B=(zx 4).map λk=>Al (((97+t.toNat)::w).take (k+1)):=by
   rw[<-hB,eo];refine List.map_congr_left λk hk=>?_
   have hk':=zO.mp hk;have e:(k:Int)+1=((k+1:Nat):Int):=by lia
   rw[e,Ke (by simp[hw8];lia)]
  have hcd:c≠97+t.toNat:=by have hf:=ZF4 (c-97) (by lia);rw[show 97+(c-97)=c by lia]at hf;rw[hf]at et;lia
  have hok:NmOk (((A++B).map sea2).drop r++((A++B).map sea2).take r):=ZJL (by rw[eA,eB];exact ZKK hw8 hcd hc (by lia) hww) r;refine⟨((A++B).map sea2).drop r++((A++B).map sea2).take r,by simp[lA,lB];lia,hok,λG s0=>?_⟩;clear hok eA eB eo;have l1:=S9 (c::w) (xE 1) xF;have c1:=λG=>ZEn (w:=c::w) (by lia) 8 G
  have c2:=λG=>ZG1 (w:=o) (by simp[o];lia) 4 G
  rw[hA]at c1;rw[hB]at c2;have hi:=λG=>Rc (i:=t) ht.1 ht.2 G
  have h0:=λG=>ZIi (c:=c) (l:=w) (by lia) G
  have h1:=λG=>Ik (l:=c::w) (lo:=xE 1) (hi:=xF) (by lia) G
  have h2:=λG=>add_str (l:=[97+t.toNat]) (l':=cutD (c::w) (xE 1) xF) (by simp;lia) G
  have e2:Al ([97+t.toNat]++cutD (c::w) (xE 1) xF)=Al o:=rfl;rw[e2]at h2
  clear_value o
  have r8:inR 8:=Gz (by lia) (by lia);have r4:inR 4:=Gz (by lia) (by lia);have lA':(A.map D.str).length<=1000000:=by simp[lA]
  have lB':(B.map D.str).length<=1000000:=by simp[lB]
  have hAB:A.map D.str++B.map D.str=(A++B).map D.str:=by simp
  have lAB:(A.map D.str).length+(B.map D.str).length<=1000000:=by simp[lA,lB]
  have ad:=addR (p:=G.length) (xs:=A.map D.str) (ys:=B.map D.str) (G:=G++[.lst (A.map D.str)]) (by rw[Fe];rfl) lAB;rw[hAB]at ad;have fzB:freeze (G++[.lst (A.map D.str)]) (.ok (.ref (G.length+1)) (G++[.lst (A.map D.str),.lst (B.map D.str)]))=.ok (.fl (B.map D.str)) (G++[.lst (A.map D.str)]):=V7 Eu;have td1:tidy (G++[.lst (A.map D.str)]) (.ok (.ref (G.length+1)) (G++[.lst (A.map D.str),.lst ((A++B).map D.str)]))=.ok (.ref (G.length+1)) (G++[.lst (A.map D.str),.lst ((A++B).map D.str)]):=ZKP Eu
  have g2:(G++[DO.lst (A.map D.str),DO.lst ((A++B).map D.str)])[G.length+1]?=xE (.lst ((A++B).map D.str)):=by simp
  have sc:=ZH0 g2;have lC:((A++B).map D.str).length=(A++B).length:=by simp
  have lS:((A++B).map sea2).length=12:=by simp[lA,lB]
  have lAB2:(A++B).length=12:=by simp[lA,lB]
  generalize(A++B).map sea2=C at sc lS⊢;generalize A++B=Q at*;have lC':(C.map D.str).length<=1000000:=by simp[lS]
  have ct:cutD (C.map D.str) xF (xE (r:Int))=(C.take r).map D.str:=by rw[Ke (by simp;lia),List.map_take]
  have cd:cutD (C.map D.str) (xE (r:Int)) xF=(C.drop r).map D.str:=by rw[O7 (by simp;lia),List.map_drop]
  have sl1:=λlo hi=>slR (p:=G.length+2) (xs:=C.map D.str) (lo:=lo) (hi:=hi) (G:=G++[.lst (A.map D.str),.lst (Q.map D.str),.lst (C.map D.str)]) (by simp)
  have fz3:∀ls:List Str,freeze (G++[.lst (A.map D.str),.lst (Q.map D.str),.lst (C.map D.str)]) (.ok (.ref (G.length+3)) (G++[.lst (A.map D.str),.lst (Q.map D.str),.lst (C.map D.str),.lst (ls.map D.str)]))=.ok (.fl (ls.map D.str)) (G++[.lst (A.map D.str),.lst (Q.map D.str),.lst (C.map D.str)]):=λls=>by have:=Ce (G:=G++[.lst (A.map D.str),.lst (Q.map D.str),.lst (C.map D.str)]) (ds:=ls.map D.str) (L:=[]) Eu;simpa using this
  have lcc:((C.drop r).map D.str).length+((C.take r).map D.str).length<=1000000:=by simp[lS];lia
  have fzd:=fz3 (C.drop r);have fzt:=fz3 (C.take r);refine⟨3,[.lst (A.map D.str),.lst (Q.map D.str),.lst (C.map D.str),.lst ((C.drop r++C.take r).map D.str)],?_,rfl⟩;rw[List.map_append];generalize(C.drop r).map D.str=X1 at*;generalize(C.take r).map D.str=X2 at*;generalize C.map D.str=X3 at*;have it2:Fd (.ref (G.length+1)) (G++[DO.lst (A.map D.str),DO.lst (Q.map D.str)])=.ok (.mt (G.length+1)) (G++[DO.lst (A.map D.str),DO.lst (Q.map D.str)]):=by simp[Fd]
  rw[lAB2]at sc;have lQ:(Q.map D.str).length=12:=by rw[zw,lAB2]
  generalize Q.map D.str=X4 at*;generalize A.map D.str=X5 at*;generalize B.map D.str=X6 at*;have cs1:∀a b c d e f' g h i j k' l:Option D,Bf 1 [3] [a,b,c,d,e,f',g,h,i,j,k',l]=[xF,d]:=λ_ _ _ _ _ _ _ _ _ _ _ _=>rfl
  have cs2:∀a b c d e f' g h i j k' l:Option D,Bf 1 [5] [a,b,c,d,e,f',g,h,i,j,k',l]=[xF,f']:=λ_ _ _ _ _ _ _ _ _ _ _ _=>rfl
  have cs3:∀S:DSt,Bf 1 [] S=[xF]:=λ_=>rfl
  generalize Al o=O at*;generalize Al (cutD (c::w) (xE 1) xF)=O1 at*;generalize Al [97+t.toNat]=O2 at*;generalize Al (c::w)=O3 at*;generalize Al [c]=O4 at*;generalize("abcdefghijklmnopqrstuvwxyz":Str)=AL at*;unfold Mt;simp[-Io,-Hn,-Iv,a8,a9,a10,h8,h0,et,hi,h1,Jv,h2,r8,cs1,c1,lA',r4,cs2,c2,lB',fzB,ad,td1,it2,g2,lQ,cs3,sc,lC',hr,sl1,ct,cd,fzd,fzt,lcc]
 ·obtain⟨sz,hsz⟩:∃sz:Nat,gx xs 8/3%8=sz:=⟨(gx xs 8/3%8).toNat,by lia⟩;obtain⟨a,ha⟩:∃a:Nat,gx xs 9%((sz:Int)+1)=a:=⟨(gx xs 9%((sz:Int)+1)).toNat,by have:=qZ (gx xs 9) (show((sz:Int)+1)≠0 by lia);lia⟩
  have hasz:a<=sz:=by have:=q0 (gx xs 9) (show(0:Int)<(sz:Int)+1 by lia);lia
  refine⟨(qx 0 12).map λk=>nmS (nmF xs (c::w) sz a k),by simp,ZD7 (by have h1:(cutD (c::w) xF (xE (a:Int)))=(c::w).take a:=Ke (by simp[hw8];lia);have h2:=ZGY (xs:=c::w) (a:=a) (b:=sz) (by lia) (by simp[hw8];lia);rw[h1,h2];simp;lia) (λx hx=>by have:=T3 hx;rcases zz.mp this with rfl|h;exact hc;exact hww x h) (λx hx=>by have:=T3 hx;rcases zz.mp this with rfl|h;exact hc;exact hww x h),λG s0=>?_⟩
  obtain⟨y7,y8,y11,hL⟩:=ZBO hxl (w:=c::w) (by lia) (sz:=sz) (a:=a) (s0:=s0) (s4:=xF) (s5:=xF) (G:=G) 12 0 [] xF xF xF (by lia) (by simp);have hL':Bw (gV 7) Oh (Ck 0 12) [s0,xE (.str ("abcdefghijklmnopqrstuvwxyz":Str)),xE (.fl (xs.map D.int)),xE (.str (Al (c::w))),xF,xF,xE (.ref G.length),xF,xF,xE (.int sz),xE (.int a),xF] (G++[.lst []])=_:=hL;rw[List.nil_append]at hL'
  refine⟨0,[.lst (((qx 0 12).map λk=>nmS (nmF xs (c::w) sz a k)).map D.str)],?_,rfl⟩;generalize((qx 0 12).map λk=>nmS (nmF xs (c::w) sz a k)).map D.str=Z at*;generalize Al (c::w)=W at*;generalize("abcdefghijklmnopqrstuvwxyz":Str)=AL at*;have r12:inR 12:=Gz (by lia) (by lia);have hp:(0:Int)<(sz:Int)+1:=by lia
  unfold Mt ZDa ZBp ZCQ ZCF ZC8;simp[a8,a9,h8,hsz,hp,ha,Ay,G6,r12,hL']
theorem ZGE:∃nm:List Str,nm.length=12/\NmOk nm/\∀G,Gn [.int cell] G=.ok (.ref G.length) (G++[.lst (nm.map D.str)]):=by
 have hst:∀G,freeze G (Iw [.int cell,.int 0,.int 24] G)=.ok (.fl ((Ff cell 0 24).map D.int)) G:=λG=>ZBx (cell:=cell) (k:=0) (n:=24) (by lia) (by lia) G
 have hxl:(Ff cell 0 24).length=24:=ZAz;have hx:∀x∈Ff cell 0 24,0<=x:=ZCx;generalize Ff cell 0 24=xs at*;have a10:atI (xs.map D.int) 10=xE (.int (gx xs 10)):=Di (i:=10) (by lia);have a11:atI (xs.map D.int) 11=xE (.int (gx xs 11)):=Di (i:=11) (by lia);by_cases h11:2147483647<gx xs 11
 ·obtain⟨nm,hn,hnd,hns,hf⟩:=ZEb (xs:=(xs.drop 11).take (23-11)) (λx h=>hx x (qI (qJ h))) (by simp;lia);refine⟨nm,by rw[hn];simp;lia,⟨hnd,λz h=>(hns z h).1,λz h=>(hns z h).2⟩,λG=>?_⟩;have cu:=Y5 (xs:=xs) (a:=11) (b:=23) (by lia) (by lia);have cu':cutD (xs.map D.int) (xE 11) (xE 23)=((xs.drop 11).take (23-11)).map D.int:=cu;generalize(xs.drop 11).take (23-11)=ys at*
  have fz:freeze G (.ok (.ref G.length) (G++[.lst (ys.map D.int)]))=.ok (.fl (ys.map D.int)) G:=Ce Hf;have td:=G6 (G:=G) (ds:=nm.map D.str) (L:=[]) Eu;generalize nm.map D.str=N at*;unfold Gn Nf Og Oc;rw[Bp];simp[hst,a11,h11,cu',fz,hf,td]
 ·have cu':cutD (xs.map D.int) xF (xE 8)=(xs.take 8).map D.int:=by rw[List.map_take];exact Ke (a:=8) (by simp;lia)
  have lw:(wd0 xs).length=8:=by simp[wd0];lia
  have wd_let:∀x∈wd0 xs,97<=x/\x<123:=λx hx=>by obtain⟨y,_,rfl⟩:=zD.mp hx;lia
  have wc:=λG=>ZIu (xs.take 8) G
  have jw:=λG=>ZEh (cs:=wd0 xs) (by lia) G
  have fz:∀G:DH,freeze G (.ok (.ref G.length) (G++[.lst ((wd0 xs).map sgn)]))=.ok (.fl ((wd0 xs).map sgn)) G:=λG=>Ce (Gk λ_ _=>rfl)
  have fzi:∀G:DH,freeze G (.ok (.ref G.length) (G++[.lst ((xs.take 8).map D.int)]))=.ok (.fl ((xs.take 8).map D.int)) G:=λG=>Ce Hf
  have ew:(xs.take 8).map (λx=>97+(x%26).toNat)=wd0 xs:=rfl;rw[ew]at wc;have cs1:∀a b c d e f' g h i j k' l:Option D,Bf 1 [1] [a,b,c,d,e,f',g,h,i,j,k',l]=[xF,b]:=λ_ _ _ _ _ _ _ _ _ _ _ _=>rfl
  have lw2:(wd0 xs).length<=1000000:=by lia
  generalize(xs.take 8).map D.int=X8 at*;have fin:∃(c:Nat)(w:List Nat),w.length=7/\(97<=c/\c<123)/\(∀x∈w,97<=x/\x<123)/\∀G,Gn [.int cell] G=tidy G (Mt [xE (.int cell),xE (.str ("abcdefghijklmnopqrstuvwxyz":Str)),xE (.fl (xs.map D.int)),xE (.str (Al (c::w))),xF,xF,xF,xF,xF,xF,xF,xF] G).ret:=by
   by_cases h10:gx xs 10/26%4=0
   ·have l5:(cutD (wd0 xs) (xE 3) xF).length=5:=by have:=O7 (xs:=wd0 xs) (a:=3) (by lia);have e3:cutD (wd0 xs) (xE 3) xF=(wd0 xs).drop 3:=this;rw[e3,qA,lw]
    have s3:=λG=>Ik (l:=wd0 xs) (lo:=xE 3) (hi:=xF) (by lia) G
    have fz2:∀G:DH,freeze G (.ok (.ref G.length) (G++[.lst [.str "sea",.str "none"]]))=.ok (.fl [.str "sea",.str "none"]) G:=λG=>Ce rfl
    have key:∀(c:Nat)(l0:List Nat),l0.length=2∨l0.length=3->∀G,Aq (.str (Al (c::l0))) (.str (Al (cutD (wd0 xs) (xE 3) xF))) G=.ok (.str (Al (c::(l0++cutD (wd0 xs) (xE 3) xF)))) G/\I9 (.str (Al (c::(l0++cutD (wd0 xs) (xE 3) xF)))) xF (xE 8) G=.ok (.str (Al (c::(l0++cutD (wd0 xs) (xE 3) xF).take 7))) G:=λc l0 h0 G=>by
     refine⟨add_str (l:=c::l0) (l':=cutD (wd0 xs) (xE 3) xF) (by simp[l5];lia) G,?_⟩;rw[Ik (by simp[l5];lia)];have:=Ke (xs:=c::(l0++cutD (wd0 xs) (xE 3) xF)) (a:=8) (by simp[l5];lia);have e8:cutD (c::(l0++cutD (wd0 xs) (xE 3) xF)) xF (xE 8)=(c::(l0++cutD (wd0 xs) (xE 3) xF)).take 8:=this;rw[e8,List.take_succ_cons]
    rcases(by lia:gx xs 10/104%2=0∨gx xs 10/104%2=1)with z|z
    ·have es:("sea":Str)=Al (115::[101,97]):=by decide +kernel
     have k1:=λG=>(key 115 [101,97] (by simp) G).1
     have k2:=λG=>(key 115 [101,97] (by simp) G).2
     refine⟨115,([101,97]++cutD (wd0 xs) (xE 3) xF).take 7,by simp[l5],by lia,(λx hx=>by rcases zP.mp (qJ hx)with h|h;(simp at h;lia);exact wd_let x (T3 h)),λG=>?_⟩;rw[<-es]at k1;generalize Al (115::([101,97]++cutD (wd0 xs) (xE 3) xF))=Q1 at*;generalize Al (115::([101,97]++cutD (wd0 xs) (xE 3) xF).take 7)=Q2 at*;generalize Al (cutD (wd0 xs) (xE 3) xF)=Q3 at*
     generalize Al (wd0 xs)=Q4 at*;unfold Gn Nf Og Oc Qi Pg;rw[Bp];generalize("abcdefghijklmnopqrstuvwxyz":Str)=AL at*;simp[-Hn,-Iv,hst,a11,h11,cu',fzi,cs1,wc,lw2,fz,jw,a10,h10,z,fz2,s3,Jv,k1,k2]
    ·have es:("none":Str)=Al (110::[111,110,101]):=by decide +kernel
     have k1:=λG=>(key 110 [111,110,101] (by simp) G).1
     have k2:=λG=>(key 110 [111,110,101] (by simp) G).2
     refine⟨110,([111,110,101]++cutD (wd0 xs) (xE 3) xF).take 7,by simp[l5],by lia,(λx hx=>by rcases zP.mp (qJ hx)with h|h;(simp at h;lia);exact wd_let x (T3 h)),λG=>?_⟩;rw[<-es]at k1;generalize Al (110::([111,110,101]++cutD (wd0 xs) (xE 3) xF))=Q1 at*;generalize Al (110::([111,110,101]++cutD (wd0 xs) (xE 3) xF).take 7)=Q2 at*;generalize Al (cutD (wd0 xs) (xE 3) xF)=Q3 at*
     generalize Al (wd0 xs)=Q4 at*;unfold Gn Nf Og Oc Qi Pg;rw[Bp];generalize("abcdefghijklmnopqrstuvwxyz":Str)=AL at*;simp[-Hn,-Iv,hst,a11,h11,cu',fzi,cs1,wc,lw2,fz,jw,a10,h10,z,fz2,s3,Jv,k1,k2]
   ·cases hcw:wd0 xs with
    |nil=>rw[hcw]at lw;cases lw
    | cons c w=>
     have hc97:97<=c/\c<123:=by
      have hm:c∈wd0 xs:=by rw[hcw];exact zk
      obtain⟨y,_,rfl⟩:=zD.mp hm;lia
     refine⟨c,w,by rw[hcw]at lw;simpa using lw,hc97,(λx hx=>wd_let x (by rw[hcw];exact zX _ hx)),λG=>?_⟩;rw[<-hcw];generalize Al (wd0 xs)=Q4 at*;unfold Gn Nf Og Oc Qi Pg;rw[Bp];generalize("abcdefghijklmnopqrstuvwxyz":Str)=AL at*;simp[hst,a11,h11,cu',fzi,cs1,wc,lw2,fz,jw,a10,h10]
  obtain⟨c,w,hw,hc,hww,hf⟩:=fin;obtain⟨nm,hn,hok,ht⟩:=ZGL hxl hx hw hc hww;refine⟨nm,hn,hok,λG=>?_⟩;obtain⟨k,L,h1,h2⟩:=ht G (xE (.int cell));rw[hf,h1];exact Zt L h2 Eu
noncomputable def Ey(nm:List Str)(k:Nat):Str:=nm.getD k ""
theorem Np(h:k<nm.length):nm[k]=Ey nm k:=by simp[Ey,zB,zJ h]
def Nm(nm:List Str):Option Nat->Str
 |none=>"sea"
 |some d=>(Ey nm d)
def Ms(nm:List Str):Option (Nat×Nat×Int)->D
 |none=>.non
 |some (to,dl,m)=>.tup [.str ((Ey nm to)),.int dl,.int m]
def Gy(nm:List Str)(p:Pl):D:=match p.kd with
 |.basin b r q=>.tup [.str "basin",.str p.nm,.str (Nm nm p.dn),.int p.dl,.int b,.tup (r.map Bl),Ms nm q]
 |.town a b=>.tup [.str "town",.str p.nm,.str (Nm nm p.dn),.int p.dl,.int a,.int b]
 |.mill a=>.tup [.str "mill",.str p.nm,.str (Nm nm p.dn),.int p.dl,.int a]
structure PlG (n k:Nat) (p:Pl):Prop where
 dn:∀d,p.dn=xE d->k<d/\d<n
 dl:p.dl<=5
 pump:∀b r to dl m,p.kd=.basin b r (xE (to,dl,m))->to<n/\1<=dl/\dl<=5
 brim:∀b r q,p.kd=.basin b r q->0<=b/\∀s∈r,Good 0 s.2
 town:∀a b,p.kd=.town a b->0<=a/\0<=b
 nop:∀b r,p.kd=.basin b r xF->∀s∈r,∀t∈s.2,t.r=xG
def Asc(yr:Int):Int->List Ssn->Prop
 |_,[]=>True
 |a,s::r=>a<s.1/\s.1<yr/\Asc yr s.1 r
structure PlW (yr:Int) (k:Nat) (p:Pl):Prop where
 mill:∀a,p.kd=.mill a->0<=a
 asc:∀b r q,p.kd=.basin b r q->Asc yr (-1) r/\(∃st r',r=(0,st)::r')/\(∀s∈r,s.2.length<=1000)
 pq:∀b r to dl m,p.kd=.basin b r (xE (to,dl,m))->to≠k/\0<=m/\∀s∈r,(pmps s.2).sum<=m
theorem ZDM:∀{st:List Stp}{t:Int},Good t st->0<=(pmps st).sum
 |[],_,_=>jj _
 |s::st,t,h=>by
  have ih:=ZDM h.2.2;unfold pmps at ih⊢;rw[List.filter_cons];split
  ·rw[zj,List.sum_cons];have:=h.2.1;lia
  ·exact ih
theorem Q5:∀(m j:Nat)(b a:Int),a<b->(j=0->b<yr)->Asc yr a (ruF xs big yr p m j b)
 |0,_,_,_,_,_=>trivial
 | m+1,j,b,a,h,hj=>by
  unfold ruF;split
  ·rename_i hc;refine⟨h,?_,Q5 m (j+1) _ _ ?_ (λz=>by lia)⟩
   ·rcases hc with z|z
    ·exact hj z
    ·exact z.2
   ·show b<b+1+gx xs j/3%9;lia
  ·exact Q5 m (j+1) b a h λz=>by lia
theorem ZCL:∃st r',ruF xs big yr p 3 0 0=(0,st)::r':=by unfold ruF;rw[if_pos (.inl rfl)];exact⟨_,_,rfl⟩
theorem ZIg{n:Nat}{g:Int}(hn:1<n)(hk:k<n){t:Nat}(e:((k:Int)+1+g%((n:Int)-1))%(n:Int)=t):t≠k:=λz=>by
 subst z;have h1:=qZ g (show(n:Int)-1≠0 by lia);have h2:=q0 g (show(0:Int)<(n:Int)-1 by lia);generalize g%((n:Int)-1)=q at*;by_cases hq:(t:Int)+1+q<n
 ·rw[Int.emod_eq_of_lt (by lia) hq]at e;lia
 ·have e2:((t:Int)+1+q)%n=(t:Int)+1+q-n:=by rw[<-Int.sub_emod_right,Int.emod_eq_of_lt (by lia) (by lia)]
  lia
theorem ZB6{xs:List Int}{big:Int}{p:Bool}:∀(n j:Nat)(top:Int),Good top (stF xs big p n j top)/\(p=xH->∀t∈stF xs big p n j top,t.r=xG)
 |0,_,_=>⟨trivial,λ_ t h=>nomatch h⟩
 | n+1,j,top=>by
  have ih:=ZB6 (xs:=xs) (big:=big) (p:=p) n (j+1) (top+number (gx xs (1+2*j)) big+(1+number (gx xs (2+2*j)) big));have h1:=Jz (x:=gx xs (1+2*j)) (cell:=big);have h2:=Jz (x:=gx xs (2+2*j)) (cell:=big);refine⟨⟨?_,?_,ih.1⟩,λhp t ht=>?_⟩
  ·show top<=top+number (gx xs (1+2*j)) big;lia
  ·show 1<=1+number (gx xs (2+2*j)) big;lia
  ·rcases zz.mp ht with rfl|ht
   ·rw[hp];rfl
   ·exact ih.2 hp t ht
theorem Ou:∀(m j:Nat)(b:Int),∀s∈ruF xs big yr p m j b,Good 0 s.2/\(p=xH->∀t∈s.2,t.r=xG)
 |0,_,_,s,h=>nomatch h
 | m+1,j,b,s,h=>by
  unfold ruF at h;split at h
  ·rcases zz.mp h with rfl|h
   ·exact ZB6 _ _ _
   ·exact Ou m _ _ s h
  ·exact Ou m _ _ s h
theorem Qh(h:i<nm.length):atI (nm.map D.str) (i:Int)=xE (.str nm[i]):=Ez rfl (by rw[zF,zJ h];rfl)
theorem add3{t nm dn:Str}{dl:Int}(h:ds.length<=100)(G:DH):Aq (.tup [.str t]) (.tup [.str nm,.str dn,.int dl]) G=.ok (.tup [.str t,.str nm,.str dn,.int dl]) G/\Aq (.tup [.str t,.str nm,.str dn,.int dl]) (.tup ds) G=.ok (.tup (.str t:: .str nm:: .str dn:: .int dl::ds)) G:=by
 refine⟨rfl,?_⟩;rw[Lb,if_pos ⟨by simp,by simp;lia⟩]
 rfl
theorem ZFN(hnm:nm.length=12){n:Nat}(hn:n<=12)(hk:k<n)(hyr:0<yr):∃p:Pl,p.nm=(Ey nm k)/\(PlG n k p/\PlW yr k p)/\∀G,Im [.fl (nm.map D.str),.int n,.int k,.int yr,.int cell] G=.ok (Gy nm p) G:=by
 have hst:∀G,freeze G (Iw [.int cell,.int (k:Int),.int 33] G)=.ok (.fl ((Ff cell k 33).map D.int)) G:=λG=>ZBx (cell:=cell) (k:=k) (n:=33) (by lia) (by lia) G
 have hxl:(Ff cell k 33).length=33:=ZAz;have hx:∀x∈Ff cell k 33,0<=x:=ZCx;generalize Ff cell k 33=xs at*;have a0:atI (xs.map D.int) 0=xE (.int (gx xs 0)):=Di (i:=0) (by lia);have a1:atI (xs.map D.int) 1=xE (.int (gx xs 1)):=Di (i:=1) (by lia);have a2:atI (xs.map D.int) 2=xE (.int (gx xs 2)):=Di (i:=2) (by lia);have a3:atI (xs.map D.int) 3=xE (.int (gx xs 3)):=Di (i:=3) (by lia);have a4:atI (xs.map D.int) 4=xE (.int (gx xs 4)):=Di (i:=4) (by lia)
 have a5:atI (xs.map D.int) 5=xE (.int (gx xs 5)):=Di (i:=5) (by lia);have a6:atI (xs.map D.int) 6=xE (.int (gx xs 6)):=Di (i:=6) (by lia);have a7:atI (xs.map D.int) 7=xE (.int (gx xs 7)):=Di (i:=7) (by lia);have n3:=λG=>Km (cell:=cell) (G:=G) (Nq hx 3)
 have n4:=λG=>Km (cell:=cell) (G:=G) (Nq hx 4)
 have hp:(0:Int)<(n:Int)-(k:Int):=by lia
 have hnk:atI (nm.map D.str) (k:Int)=xE (.str (nm[k]'(by lia))):=Qh (by lia);obtain⟨s,es⟩:∃s:Nat,gx xs 0%((n:Int)-(k:Int))=s:=⟨(gx xs 0%((n:Int)-(k:Int))).toNat,by have:=qZ (gx xs 0) (show(n:Int)-(k:Int)≠0 by lia);lia⟩
 have hs:k+s<n:=by have:=q0 (gx xs 0) hp;lia
 have hns:atI (nm.map D.str) ((k:Int)+(s:Int))=xE (.str (nm[k+s]'(by lia))):=by have:=Qh (nm:=nm) (i:=k+s) (by lia);rwa[show((k+s:Nat):Int)=(k:Int)+(s:Int) by lia]at this
 obtain⟨dn,o,eo,ho,hd⟩:∃(dn:Str)(o:Option Nat),Nm nm o=dn/\(∀d,o=xE d->k<d/\d<n)/\∀G,Im [.fl (nm.map D.str),.int n,.int k,.int yr,.int cell] G=tidy G (M5 [xE (.fl (nm.map D.str)),xE (.int n),xE (.int k),xE (.int yr),xE (.int cell),xE (.fl (xs.map D.int)),xE (.str dn),xE (.tup [.str (nm[k]'(by lia)),.str dn,.int (gx xs 1%6)]),xF,xF,xF,xF] G).ret:=by
  by_cases h0:0<s
  ·refine⟨nm[k+s]'(by lia),xE (k+s),(Np (by lia)).symm,λd hd=>by cases hd;lia,λG=>?_⟩;have h0':(0:Int)<(s:Int):=by lia
   unfold Im Vr Z0 Y7 Uy;rw[Bp];simp[hk,hst,a0,hp,es,h0,h0',hns,hnk,a1]
  ·refine⟨"sea",xF,rfl,λd hd=>(nomatch hd),λG=>?_⟩
   have h0':¬(0:Int)<(s:Int):=by lia
   unfold Im Vr Z0 Y7 Uy;rw[Bp];simp[hk,hst,a0,hp,es,h0,h0',hnk,a1]
 have emk:nm[k]'(by lia)=(Ey nm k):=Np (by lia);rw[emk]at hnk;obtain⟨dl,edl⟩:∃dl:Nat,gx xs 1%6=dl:=⟨(gx xs 1%6).toNat,by lia⟩;have hdl:dl<=5:=by lia
 have hd:=hd;rw[emk]at hd;clear emk;generalize hmk:(Ey nm k)=mk at*;by_cases h2:gx xs 2%5=0
 ·refine⟨⟨mk,o,dl,.mill (number (gx xs 3) cell)⟩,rfl,⟨⟨ho,hdl,(λ_ _ _ _ _ z=>nomatch z),(λ_ _ _ z=>nomatch z),(λ_ _ z=>nomatch z),(λ_ _ z=>nomatch z)⟩,⟨(λa z=>by cases z;exact Jz),(λ_ _ _ z=>nomatch z),(λ_ _ _ _ _ z=>nomatch z)⟩⟩,λG=>?_⟩
  have ad:=add3 (t:="mill") (nm:=mk) (dn:=dn) (dl:=gx xs 1%6) (ds:=[.int (number (gx xs 3) cell)]) (by simp);rw[hd];unfold M5;simp[-Lb,a2,h2,a3,n3,ad,Gy,eo,<-edl,Bo]
 ·by_cases h3:gx xs 2%5=1
  ·refine⟨⟨mk,o,dl,.town (number (gx xs 3) cell) (number (gx xs 4) cell)⟩,rfl,⟨⟨ho,hdl,(λ_ _ _ _ _ z=>nomatch z),(λ_ _ _ z=>nomatch z),(λa b z=>by cases z;exact⟨Jz,Jz⟩),(λ_ _ z=>nomatch z)⟩,⟨(λ_ z=>nomatch z),(λ_ _ _ z=>nomatch z),(λ_ _ _ _ _ z=>nomatch z)⟩⟩,λG=>?_⟩
   have ad:=add3 (t:="town") (nm:=mk) (dn:=dn) (dl:=gx xs 1%6) (ds:=[.int (number (gx xs 3) cell),.int (number (gx xs 4) cell)]) (by simp);rw[hd];unfold M5 Qp;simp[-Lb,a2,h2,h3,a3,a4,n3,n4,ad,Gy,eo,<-edl,Bo]
  ·have cu':cutD (xs.map D.int) (xE 8) (xE 32)=((xs.drop 8).take (32-8)).map D.int:=Y5 (xs:=xs) (a:=8) (b:=32) (by lia) (by lia);have hr:=λ(p:Bool)(G:DH)=>ZFb (xs:=(xs.drop 8).take (32-8)) (big:=cell) (yr:=yr) (p:=p) (λx h=>hx x (qI (qJ h))) (by simp;lia) G
   generalize(xs.drop 8).take (32-8)=ys at*;have fz:∀G:DH,freeze G (.ok (.ref G.length) (G++[.lst (ys.map D.int)]))=.ok (.fl (ys.map D.int)) G:=λG=>Ce Hf
   by_cases hpm:1<n/\0<gx xs 5%3
   ·have hn1:(1:Int)<(n:Int):=by lia
    have hrt:=hr xG;have ln:=Rz (xs:=ys) (big:=cell) (yr:=yr) (p:=xG) 3 0 0;obtain⟨v,hvb,hv⟩:=ZD1 (r:=ruF ys cell yr xG 3 0 0) (by lia) ln.2 ZE3;obtain⟨v2,hvn,hv2⟩:=ZHu (Nq hx 4);obtain⟨t,et⟩:∃t:Nat,((k:Int)+1+gx xs 6%((n:Int)-1))%(n:Int)=t:=⟨(((k:Int)+1+gx xs 6%((n:Int)-1))%(n:Int)).toNat,by have:=qZ ((k:Int)+1+gx xs 6%((n:Int)-1)) (show(n:Int)≠0 by lia);lia⟩
    have ht:t<n:=by have:=q0 ((k:Int)+1+gx xs 6%((n:Int)-1)) (show(0:Int)<(n:Int) by lia);lia
    have hnt:atI (nm.map D.str) (t:Int)=xE (.str (nm[t]'(by lia))):=Qh (by lia);have hp1:(0:Int)<(n:Int)-1:=by lia
    have hp2:(0:Int)<(n:Int):=by lia
    have hp3:0<n:=by lia
    have emt:nm[t]'(by lia)=(Ey nm t):=Np (by lia);rw[emt]at hnt;obtain⟨pd,epd⟩:∃pd:Nat,1+gx xs 7%5=pd:=⟨(1+gx xs 7%5).toNat,by lia⟩;have hrg:=Ou (xs:=ys) (big:=cell) (yr:=yr) (p:=xG) 3 0 0;have has:=Q5 (xs:=ys) (big:=cell) (yr:=yr) (p:=xG) 3 0 0 (-1) (by lia) (λ_=>hyr);have hze:=ZCL (xs:=ys) (big:=cell) (yr:=yr) (p:=xG);have hto:=ZIg hpm.1 hk et;generalize ruF ys cell yr xG 3 0 0=r at*
    refine⟨⟨mk,o,dl,.basin (number (gx xs 3) cell) r (xE (t,pd,v+v2))⟩,rfl,⟨⟨ho,hdl,(λb r' to d m z=>by cases z;lia),(λb r' q z=>by cases z;exact⟨Jz,λs hs=>(hrg s hs).1⟩),(λ_ _ z=>nomatch z),(λ_ _ z=>nomatch z)⟩,⟨(λ_ z=>nomatch z),(λb r' q z=>by cases z;exact⟨has,hze,ln.2⟩),(λb r' to d m z=>by cases z;obtain⟨st,r2,e0⟩:=hze;have h0:=hvb (0,st) (by rw[e0];exact zk);have h1:=ZDM (hrg (0,st) (by rw[e0];exact zk)).1;exact⟨hto,by lia,λs hs=>by have:=hvb s hs;lia⟩)⟩⟩,λG=>?_⟩
    have ad:=add3 (t:="basin") (nm:=mk) (dn:=dn) (dl:=gx xs 1%6) (ds:=[.int (number (gx xs 3) cell),.tup (r.map Bl),.tup [.str ((Ey nm t)),.int (1+gx xs 7%5),.int (v+v2)]]) (by simp);rw[hd];unfold M5 Qp Z8 Z5 Vh Uc Vp;simp[-Lb,a2,h2,h3,hn1,hpm,a5,cu',fz,hrt,a6,hp1,hp2,hp3,et,hnt,a7,hv,a4,hv2,a3,n3,ad,Gy,Ms,eo,<-edl,<-epd,Bo]
   ·have hrt:=hr xH;have hrg:=Ou (xs:=ys) (big:=cell) (yr:=yr) (p:=xH) 3 0 0;have has:=Q5 (xs:=ys) (big:=cell) (yr:=yr) (p:=xH) 3 0 0 (-1) (by lia) (λ_=>hyr);have hze:=ZCL (xs:=ys) (big:=cell) (yr:=yr) (p:=xH);have ln:=Rz (xs:=ys) (big:=cell) (yr:=yr) (p:=xH) 3 0 0;generalize ruF ys cell yr xH 3 0 0=r at*
    refine⟨⟨mk,o,dl,.basin (number (gx xs 3) cell) r xF⟩,rfl,⟨⟨ho,hdl,(λb r' to d m z=>nomatch z),(λb r' q z=>by cases z;exact⟨Jz,λs hs=>(hrg s hs).1⟩),(λ_ _ z=>nomatch z),(λb r' z=>by cases z;exact λs hs=>(hrg s hs).2 rfl)⟩,⟨(λ_ z=>nomatch z),(λb r' q z=>by cases z;exact⟨has,hze,ln.2⟩),(λb r' to d m z=>nomatch z)⟩⟩,λG=>?_⟩
    have ad:=add3 (t:="basin") (nm:=mk) (dn:=dn) (dl:=gx xs 1%6) (ds:=[.int (number (gx xs 3) cell),.tup (r.map Bl),.non]) (by simp);rw[hd];unfold M5 Qp Z8 Z5 Vh Uc Vp;by_cases hn1:1<n
    ·have hn1':(1:Int)<(n:Int):=by lia
     have h5:¬0<gx xs 5%3:=λz=>hpm ⟨hn1,z⟩
     simp[-Lb,a2,h2,h3,hn1,hn1',h5,a5,cu',fz,hrt,a3,n3,ad,Gy,Ms,eo,<-edl,Bo]
    ·have hn1':¬(1:Int)<(n:Int):=by lia
     simp[-Lb,a2,h2,h3,hn1,hn1',cu',fz,hrt,a3,n3,ad,Gy,Ms,eo,<-edl,Bo]
theorem ZKR{at_:Nat}(hat:at_<=1000)(G:DH):∃h:Hs,GoodH h/\1<=h.n/\(∀k,k<h.n->PlG h.n k (h.pl k)/\PlW h.yr k (h.pl k))/\h.yr<=24/\(∃nm:List Str,nm.length=12/\NmOk nm/\(∀k,k<h.n->(h.pl k).nm=Ey nm k)/\∀G,Gn [.int (cellAt ns ((at_:Int)+2))] G=.ok (.ref G.length) (G++[.lst (nm.map D.str)]))/\Lr [.fl (ns.map D.int),.int at_] G=.ok h.enc G:=by
 have ca:=λ(k:Nat)(G:DH)=>Ny (ns:=ns) (k:=(k:Int)) (G:=G) (by lia)
 have c0:=ca at_;have c1:∀G,Gb [.fl (ns.map D.int),.int ((at_:Int)+1)] G=.ok (.int (cellAt ns ((at_:Int)+1))) G:=λG=>Ny (by lia)
 have c2:∀G,Gb [.fl (ns.map D.int),.int ((at_:Int)+2)] G=.ok (.int (cellAt ns ((at_:Int)+2))) G:=λG=>Ny (by lia)
 have c3:∀(k:Nat)G,Gb [.fl (ns.map D.int),.int ((at_:Int)+3+k)] G=.ok (.int (cellAt ns ((at_:Int)+3+k))) G:=λk G=>Ny (by lia)
 obtain⟨n,en⟩:∃n:Nat,1+cellAt ns (at_:Int)%12=n:=⟨(1+cellAt ns (at_:Int)%12).toNat,by lia⟩;have hn:n<=12/\1<=n:=by lia
 obtain⟨nm,hnm,nok,hc⟩:=ZGE (cell:=cellAt ns ((at_:Int)+2));obtain⟨y,ey⟩:∃y:Int,1+cellAt ns ((at_:Int)+1)%24=y:=⟨_,rfl⟩;have ex:∀k:Nat,∃p:Pl,k<n->(p.nm=(Ey nm k)/\(PlG n k p/\PlW y k p)/\∀G,Im [.fl (nm.map D.str),.int n,.int k,.int y,.int (cellAt ns ((at_:Int)+3+k))] G=.ok (Gy nm p) G):=λk=>by
  by_cases hk:k<n
  ·obtain⟨p,hp⟩:=ZFN hnm hn.1 hk (yr:=y) (cell:=cellAt ns ((at_:Int)+3+k)) (by lia);exact⟨p,λ_=>hp⟩
  ·exact⟨noPl,λz=>absurd z hk⟩
 let P:Nat->Pl:=λk=>(ex k).choose
 have hP:∀k,k<n->((P k).nm=(Ey nm k)/\(PlG n k (P k)/\PlW y k (P k))/\∀G,Im [.fl (nm.map D.str),.int n,.int k,.int y,.int (cellAt ns ((at_:Int)+3+k))] G=.ok (Gy nm (P k)) G):=λk hk=>(ex k).choose_spec hk
 clear_value P
 have hpl:∀k,k<n->(Hs.pl ⟨y,(zx n).map P⟩ k)=P k:=λk hk=>by unfold Hs.pl;simp[zB,hk]
 have hnn:Hs.n ⟨y,(zx n).map P⟩=n:=by simp[Hs.n]
 have nmk:∀k(hk:k<n),(Ey nm k)=nm[k]'(by lia):=λk hk=>(Np (by lia)).symm
 have edn:∀(k:Nat)(o:Option Nat),(∀d,o=xE d->k<d/\d<n)->Hs.dnT ⟨y,(zx n).map P⟩ o=Nm nm o:=λk o ho=>by
  cases o with
  |none=>rfl
  |some d=>
   have:=(ho d rfl).2;show(Hs.pl _ d).nm=(Ey nm d);rw[hpl d this,(hP d this).1]
 have eenc:∀k,k<n->Hs.encP ⟨y,(zx n).map P⟩ (P k)=Gy nm (P k):=λk hk=>by
  have g:=(hP k hk).2.1.1;have e1:=edn k (P k).dn g.dn;unfold Hs.encP Gy;cases ek:(P k).kd with
  | basin b r q=>
   have e2:Hs.Fv ⟨y,(zx n).map P⟩ q=Ms nm q:=by
    cases q with
    |none=>rfl
    |some z=>
     obtain⟨to,dl,m⟩:=z;have ht:=(g.pump b r to dl m ek).1;show D.tup [.str (Hs.pl _ to).nm,.int dl,.int m]=_;rw[hpl to ht,(hP to ht).1]
     rfl
   simp only[e1,e2]
  |town a b=>simp only[e1]
  |mill a=>simp only[e1]
 refine⟨⟨y,(zx n).map P⟩,⟨?_,?_,?_,?_,?_,?_,?_,?_,?_⟩,?_,?_,?_,⟨nm,hnm,nok,?_,hc⟩,?_⟩
 ·show 0<y;lia
 ·rw[hnn];lia
 ·intro i j hi hj e;rw[hnn]at hi hj;rw[hpl i hi,hpl j hj,(hP i hi).1,(hP j hj).1,nmk i hi,nmk j hj]at e;exact ZCa nok.nd _ _ e
 ·intro i hi;rw[hnn]at hi;rw[hpl i hi,(hP i hi).1,nmk i hi];exact nok.sea _ (qW _)
 ·intro k d hk e;rw[hnn]at hk⊢;rw[hpl k hk]at e;exact(hP k hk).2.1.1.dn d e
 ·intro k hk;rw[hnn]at hk;rw[hpl k hk];exact(hP k hk).2.1.1.dl
 ·intro k b r to dl m hk e;rw[hnn]at hk⊢;rw[hpl k hk]at e;exact(hP k hk).2.1.1.pump b r to dl m e
 ·intro k b r q hk e;rw[hnn]at hk;rw[hpl k hk]at e;exact(hP k hk).2.1.1.brim b r q e
 ·intro k a b hk e;rw[hnn]at hk;rw[hpl k hk]at e;exact(hP k hk).2.1.1.town a b e
 ·rw[hnn];lia
 ·intro k hk;rw[hnn]at hk⊢;rw[hpl k hk];exact(hP k hk).2.1
 ·show y<=24;lia
 ·intro k hk;rw[hnn]at hk;rw[hpl k hk];exact(hP k hk).1
 ·have fzn:∀G:DH,freeze G (.ok (.ref G.length) (G++[.lst (nm.map D.str)]))=.ok (.fl (nm.map D.str)) G:=λG=>Ce Eu
  have cp:Cj (gV 0) Cm Qu [xF,xE (.fl (ns.map D.int)),xE (.int at_),xE (.int n),xE (.int y),xE (.fl (nm.map D.str))] (Ck 0 n) G=.ok (((zx n).map P).map (Hs.encP ⟨y,(zx n).map P⟩)) G:=by
   rw[q8];exact Z4 (te:=Qu) (S:=[xF,xE (.fl (ns.map D.int)),xE (.int at_),xE (.int n),xE (.int y),xE (.fl (nm.map D.str))]) λk hk=>by unfold Qu;simp[c3,(hP k hk).2.2,eenc k hk]
  have lp:((zx n).map P).length<=1000000:=by simp;lia
  clear nmk eenc edn hpl hnn hP;generalize(zx n).map P=ps at*;generalize hen:ps.map (Hs.encP ⟨y,ps⟩)=es at*;have les:es.length<=1000000:=by rw[<-hen];simpa using lp
  have bes:∀m,bels m es=xG:=λm=>by rw[<-hen];exact Gk λ_ _=>Hs.Zf
  have fzp:freeze G (.ok (.ref G.length) (G++[.lst (es)]))=.ok (.fl (es)) G:=Ce (bes _);have cs:∀a b c d e f':Option D,Bf 1 [0,1,2,3,4] [a,b,c,d,e,f']=[xF,a,b,c,d,e]:=λ_ _ _ _ _ _=>rfl
  have hr:inR (n:Int):=Gz (by lia) (by lia);have bp:bels G.length (es)=xG:=bes _;show Lr _ G=.ok (.tup [.int y,.tup (ps.map (Hs.encP ⟨y,ps⟩))]) G;rw[hen];unfold Lr ZCi;rw[Bp];simp[c0,en,c1,ey,c2,hc,fzn,hr,cs,cp,les,fzp,bp,Bo]
noncomputable def ZAm:List Nat:=("abcdefghijklmnopqrstuvwxyz":Str).cps.toList
theorem ZER(c:Nat):c∈ZAm↔97<=c/\c<=122:=by
 have e:ZAm=qx 97 26:=by decide +kernel
 rw[e,List.mem_range'_1];lia
noncomputable def small(c:Nat):Bool:=decide (97<=c/\c<=122)
theorem ZID:Fx (sgn c) (.str "abcdefghijklmnopqrstuvwxyz") G=.ok (.bl (small c)) G:=by
 have h:=contains1 ("abcdefghijklmnopqrstuvwxyz":Str) c;unfold Fx inD sgn;simp only;rw[h];simp only[small]
 congr 3
 exact propext (ZER c)
noncomputable def Nv:List Nat:=[115,101,97]
theorem ZIQ:("sea":Str).cps.toList=Nv:=by decide +kernel
def isN(cs:List Nat):Bool:=decide (¬cs=Nv)&&decide (1<=cs.length/\cs.length<=8)&&cs.all small
theorem ZEC{z:Str}(hz:z.length<=1000):Qs [.str z] G=.ok (.bl (isN z.cps.toList)) G:=by
 have hl:(z.length:Int)=z.cps.toList.length:=by simp[Str.length]
 have hz':z.length<=1000000:=by lia
 have hc:Cj (gV 0) Cm Qj [xF] (signs z) G=.ok ((z.cps.toList.map small).map D.bl) G:=by
  have:=P0 (g:=gV 0) (c:=Cm) (te:=Qj) (S:=[xF]) (G:=G) (F:=λd=>match d with | .str x=>xE (.bl (small (x.cps.getD 0 0)))|_=>xF) (xs:=signs z) (λx hx=>by obtain⟨c,_,rfl⟩:=zD.mp hx;refine⟨[xE (sgn c)],rfl,.inr ⟨rfl,.bl (small c),?_,rfl⟩⟩;unfold Qj;simp[ZID])
  rw[this]
  congr 1
  unfold signs
  induction z.cps.toList with
  |nil=>rfl
  |cons c r ih=>simp only[zj,zH,sgn,ih];rfl
 have hlen:((z.cps.toList.map small).map D.bl).length<=1000000:=by simp;simpa[Str.length]using hz'
 have hb:bels G.length ((z.cps.toList.map small).map D.bl)=xG:=ZDz;have ha:= @ZHk G (z.cps.toList.map small);unfold Qs ZAR;rw[Bp];have hs:decide (z=("sea":Str))=decide (z.cps.toList=Nv):=by rw[<-ZIQ];exact decide_eq_decide.mpr ZI7
 generalize hA:((z.cps.toList.map small).map D.bl)=bs at*;by_cases h1:z.cps.toList=Nv
 ·simp[hs,h1,Bo,isN]
 ·by_cases h2:1<=z.length/\z.length<=8
  ·have h3:(1:Int)<=z.length/\(z.length:Int)<=8:=by lia
   have h4:1<=z.cps.toList.length/\z.cps.toList.length<=8:=by lia
   simp[hs,h1,hz',h3.1,h3.2,h2.1,h2.2,Bf,hc,hlen,Ce,hb,ha,Bo];simp only[isN,h1,h4,not_false_eq_true,decide_true,and_self,Bool.true_and,List.all_map];simp
  ·have h4:¬(1<=z.cps.toList.length/\z.cps.toList.length<=8):=by lia
   have hn:isN z.cps.toList=xH:=by simp only[isN,h4,decide_false,Bool.and_false,Bool.false_and]
   rw[hn];by_cases h5:1<=z.length
   ·have h6:¬z.length<=8:=λh=>h2 ⟨h5,h⟩
    have h7:¬(z.length:Int)<=8:=by lia
    have h8:(1:Int)<=z.length:=by lia
    simp[hs,h1,hz',h5,h6,h7,h8,Bo]
   ·have h8:¬(1:Int)<=z.length:=by lia
    simp[hs,h1,hz',h5,h8,Bo]
theorem Td{z:Str}(h:Wd z)(hs:z≠"sea"):isN z.cps.toList=xG/\z.length<=8/\1<=z.length:=by
 obtain⟨l,rfl,h1,h2,h3⟩:=h;have e:(Al l).cps.toList=l:=by simp[Al]
 have el:(Al l).length=l.length:=by simp[Al,Str.length]
 refine⟨?_,by lia,by lia⟩;rw[e];unfold isN;have n1:¬l=Nv:=λz=>hs (by rw[z];decide +kernel)
 have n2:l.all small=xG:=zS.mpr λc hc=>by have:=h3 c hc;unfold small;exact decide_eq_true (by lia)
 simp[n1,h1,h2,n2]
theorem ZCP{h:Hs}{G:DH}:∀l:List Pl,Cj (gV 0) Cm Ql [xF] (l.map h.encP) G=.ok ((l.map Pl.nm).map D.str) G
 |[]=>by rw[qj,ZAN];rfl
 |p::l=>by
  have he:Ql [xE (h.encP p)] G=.ok (.str p.nm) G:=by unfold Ql;simp
  have ih:=ZCP (h:=h) (G:=G) l;rw[zj,Ji];simp[he,ih]
theorem ZCH{h:Hs}{G:DH}:∀l:List Pl,Cj (gV 0) Cm Qv [xF] (l.map h.encP) G=.ok ((l.map Pl.nm).map D.str) G
 |[]=>by rw[qj,ZAN];rfl
 |p::l=>by
  have he:Qv [xE (h.encP p)] G=.ok (.str p.nm) G:=by unfold Qv;simp
  have ih:=ZCH (h:=h) (G:=G) l;rw[zj,Ji];simp[he,ih]
theorem ZCu{l:List Str}:Fx (.str x) (.fl (l.map D.str)) G=.ok (.bl (decide (x∈l))) G:=by
 unfold Fx inD;dsimp only
 rw[show Bs (.fl (l.map D.str)) G=xE (l.map D.str)from rfl,show Jt (.str x)=xE (.str x)from rfl]
 dsimp only;rw[Q6,jz,Qc]
theorem ZKV{l:List Str}(h:G[i]?=xE (.lst (l.map D.str))):Fx (.str x) (.ref i) G=.ok (.bl (decide (x∈l))) G:=by
 unfold Fx inD;dsimp only
 rw[show Bs (.ref i) G=xE (l.map D.str) by simp[Bs,h],show Jt (.str x)=xE (.str x)from rfl]
 dsimp only;rw[Q6,jz,Qc]
theorem ZJN{p:Pl}{l:List Str}(hd:p.dn=xF∨∃d,p.dn=xE d/\(h.pl d).nm∈l/\(h.pl d).nm≠"sea")(hl:p.dl<=5)(G:DH):Qe [h.encP p,.fl (l.map D.str)] G=.ok (.bl xG) G:=by
 have h5:(p.dl:Int)<=5:=by lia
 unfold Qe ZAe;rw[Bp];rcases hd with e|⟨d,e,hm,hs⟩
 ·have es:h.dnT p.dn="sea":=by rw[e];rfl
  simp[es,h5,Bo]
 ·have es:h.dnT p.dn=(h.pl d).nm:=by rw[e];rfl
  have hi:=ZCu (x:=(h.pl d).nm) (l:=l) (G:=G);rw[decide_eq_true hm]at hi;generalize l.map D.str=L at*;simp[es,hs,hi,h5,Bo]
theorem ZAC{yr:Int}{s0:Option D}{G:DH}:∀(r:List Ssn)(a:Int)(x y:Option D),Asc yr a r->∃a' x' y',Bw (Cy 2 (Bk (gV 3) (Bk (gV 4) Df))) Rb (r.map Bl) [s0,xE (.int yr),xE (.int a),x,y] G=.nx [s0,xE (.int yr),a',x',y'] G
 |[],a,x,y,_=>⟨xE (.int a),x,y,by rw[qj,Ej]⟩
 |s::r,a,x,y,h=>by
  obtain⟨a',x',y',ih⟩:=ZAC (yr:=yr) (s0:=s0) (G:=G) r s.1 (xE (.int s.1)) (xE (.tup (s.2.map Stp.enc))) h.2.2;refine⟨a',x',y',?_⟩;have hb:Rb [s0,xE (.int yr),xE (.int a),xE (.int s.1),xE (.tup (s.2.map Stp.enc))] G=.nx [s0,xE (.int yr),xE (.int s.1),xE (.int s.1),xE (.tup (s.2.map Stp.enc))] G:=by unfold Rb;simp[h.1,h.2.1]
  have es:Bl s=.tup [.int s.1,.tup (s.2.map Stp.enc)]:=rfl;rw[zj,Dj,es];generalize s.2.map Stp.enc=Z at*;simp[hb,ih]
theorem ZJY(h:Asc yr (-1) r)(hz:∃st r',r=(0,st)::r')(G:DH):Mu [.tup (r.map Bl),.int yr] G=.ok (.bl xG) G:=by
 obtain⟨a',x',y',hL⟩:=ZAC (yr:=yr) (s0:=xE (.tup (r.map Bl))) (G:=G) r (-1) xF xF h;obtain⟨st,r',e⟩:=hz;have hl:¬r.map Bl=[]:=by rw[e];simp
 have hl':¬(((r.map Bl).length:Int)=0):=by rw[e];simp;lia
 have h0:atI (r.map Bl) 0=xE (Bl (0,st)):=by rw[e];exact Ez (k:=0) rfl rfl
 have h1:∀G,Ak (Bl (0,st)) (.int 0) G=.ok (.int 0) G:=λG=>by unfold Bl;simp
 generalize Bl (0,st)=Z at*;generalize r.map Bl=R at*;unfold Mu ZBU;rw[Bp];simp[hl,hl',h0,h1,hL,Bo]
theorem ZAK{s0:Option D}{G:DH}:∀(st:List Stp)(a:Int)(x y z:Option D),Good a st->∃a' x' y' z',Bw (Cy 3 (Bk (gV 2) (Bk (gV 3) (Bk (gV 4) Df)))) Qy (st.map Stp.enc) [s0,xE (.int a),x,y,z] G=.nx [s0,a',x',y',z'] G
 |[],a,x,y,z,_=>⟨xE (.int a),x,y,z,by rw[qj,Ej]⟩
 |s::st,a,x,y,z,h=>by
  obtain⟨a',x',y',z',ih⟩:=ZAK (s0:=s0) (G:=G) st (s.h+s.m) (xE (.int s.h)) (xE (.int s.m)) (xE (.str (wy s.r))) h.2.2;refine⟨a',x',y',z',?_⟩;have h1:¬s.h<a:=by have:=h.1;lia
  have h2:¬s.m<1:=by have:=h.2.1;lia
  have hb:Qy [s0,xE (.int a),xE (.int s.h),xE (.int s.m),xE (.str (wy s.r))] G=.nx [s0,xE (.int (s.h+s.m)),xE (.int s.h),xE (.int s.m),xE (.str (wy s.r))] G:=by unfold Qy;simp[h1,h2]
  have es:Stp.enc s=.tup [.int s.h,.int s.m,.str (wy s.r)]:=rfl;rw[zj,Dj,es];generalize wy s.r=Z at*;simp[hb,ih]
theorem ZI6(h:Good 0 st)(G:DH):Lq [.tup (st.map Stp.enc)] G=.ok (.bl xG) G:=by obtain⟨a',x',y',z',hL⟩:=ZAK (s0:=xE (.tup (st.map Stp.enc))) (G:=G) st 0 xF xF xF h;generalize st.map Stp.enc=Z at*;unfold Lq ZA2;rw[Bp];simp[hL,Bo]
theorem ZCk:Cj (Cy 3 (Bk (gV 0) (Bk (gV 1) (Bk (gV 2) Df)))) Zn Yw [xF,xF,xF] (st.map Stp.enc) G=.ok ((pmps st).map D.int) G:=by
 rw[P0 (F:=λd=>match d with | .tup [_,m,.str w]=>if w="pump" then xE m else xF|_=>xF) λy hy=>?_]
 ·congr 1
  unfold pmps
  induction st with
  |nil=>rfl
  |cons s st ih=>
   rw[zj,zH,ih,List.filter_cons];have es:Stp.enc s=.tup [.int s.h,.int s.m,.str (wy s.r)]:=rfl;rw[es];cases hr:s.r with
   |true=>simp[wy,pr]
   |false=>simp[wy]
 ·obtain⟨s,_,rfl⟩:=zD.mp hy;have es:Stp.enc s=.tup [.int s.h,.int s.m,.str (wy s.r)]:=rfl;rw[es];refine⟨[xE (.int s.h),xE (.int s.m),xE (.str (wy s.r))],by simp,?_⟩;unfold Zn Yw;cases hr:s.r with
  |true=>exact .inl ⟨by simp[wy,pr],by simp[wy,pr]⟩
  |false=>exact .inr ⟨by simp[wy],.int s.m,by simp,by simp[wy]⟩
theorem ZJf:(pmps st).length<=st.length:=by unfold pmps;rw[zw];exact jV _ _
theorem ZJt(hl:st.length<=1000)(hr:∀t∈st,t.r=xG)(G:DH):Jf [.tup (st.map Stp.enc),.non] G=.ok (.bl xG) G:=by
 have hc:=ZCk (st:=st) (G:=G);have e0:pmps st=[]:=by unfold pmps;rw[List.map_eq_nil_iff,List.filter_eq_nil_iff];intro t ht;rw[hr t ht];simp
 rw[e0]at hc;have hcs:∀S:DSt,Bf 3 [] S=[xF,xF,xF]:=λ_=>rfl
 have fz:freeze G (.ok (.ref G.length) (G++[.lst []]))=.ok (.fl []) G:=Ce rfl;generalize st.map Stp.enc=Z at*;unfold Jf W9;rw[Bp];simp[hcs,hc,Ay,fz,Es,Bo]
theorem ZJ3{a b m:D}{v:Int}(hl:st.length<=1000)(hs:(pmps st).sum<=v)(G:DH):Jf [.tup (st.map Stp.enc),.tup [a,b,.int v]] G=.ok (.bl xG) G:=by
 have hc:=ZCk (st:=st) (G:=G);have hcs:∀S:DSt,Bf 3 [] S=[xF,xF,xF]:=λ_=>rfl
 have fz:freeze G (.ok (.ref G.length) (G++[.lst ((pmps st).map D.int)]))=.ok (.fl ((pmps st).map D.int)) G:=Ce Hf;have hle:((pmps st).map D.int).length<=1000000:=by have:=ZJf (st:=st);rw[zw];lia
 have hsm:Ju [.fl ((pmps st).map D.int)] G=.ok (.int (pmps st).sum) G:=ZDi;generalize(pmps st).map D.int=P at*;generalize st.map Stp.enc=Z at*;unfold Jf W9;rw[Bp];simp[hcs,hc,Ay,hle,fz,Es,hsm,hs,Bo]
theorem ZCe{s0 s2:Option D}{q:D}{G:DH}:∀(r:List Ssn)(x y:Option D),(∀s∈r,(∀G,Lq [.tup (s.2.map Stp.enc)] G=.ok (.bl xG) G)/\∀G,Jf [.tup (s.2.map Stp.enc),q] G=.ok (.bl xG) G)->∃x' y',Bw (Cy 2 (Bk (gV 3) (Bk (gV 4) Df))) Pr (r.map Bl) [s0,xE q,s2,x,y] G=.nx [s0,xE q,s2,x',y'] G
 |[],x,y,_=>⟨x,y,by rw[qj,Ej]⟩
 |s::r,x,y,h=>by
  obtain⟨x',y',ih⟩:=ZCe (s0:=s0) (s2:=s2) (q:=q) (G:=G) r (xE (.int s.1)) (xE (.tup (s.2.map Stp.enc))) λz hz=>h z (zX _ hz)
  refine⟨x',y',?_⟩;obtain⟨h1,h2⟩:=h s zk;have hb:Pr [s0,xE q,s2,xE (.int s.1),xE (.tup (s.2.map Stp.enc))] G=.nx [s0,xE q,s2,xE (.int s.1),xE (.tup (s.2.map Stp.enc))] G:=by generalize s.2.map Stp.enc=Z at*;unfold Pr;simp[h1,h2]
  have es:Bl s=.tup [.int s.1,.tup (s.2.map Stp.enc)]:=rfl;rw[zj,Dj,es];generalize s.2.map Stp.enc=Z at*;simp[hb,ih]
theorem ZIL{q:D}(h1:∀G,Mu [.tup (r.map Bl),.int yr] G=.ok (.bl xG) G)(h2:∀s∈r,(∀G,Lq [.tup (s.2.map Stp.enc)] G=.ok (.bl xG) G)/\∀G,Jf [.tup (s.2.map Stp.enc),q] G=.ok (.bl xG) G)(G:DH):Qq [.tup (r.map Bl),q,.int yr] G=.ok (.bl xG) G:=by obtain⟨x',y',hL⟩:=ZCe (s0:=xE (.tup (r.map Bl))) (s2:=xE (.int yr)) (q:=q) (G:=G) r xF xF h2;generalize r.map Bl=R at*;unfold Qq ZAQ;rw[Bp];simp[h1,hL,Bo]
theorem Px(hi:i<h.n):h.pl i=h.ps[i]'hi:=by
 unfold Hs.pl;rw[zB,zJ hi]
 rfl
theorem ZDF:(x∈(h.ps.take k).map Pl.nm)↔∃i,i<k/\i<h.n/\(h.pl i).nm=x:=by
 rw[zD];constructor
 ·rintro⟨p,hp,rfl⟩;obtain⟨j,hj,rfl⟩:=List.mem_take_iff_getElem.mp hp;have h2:j<h.n:=zZ hj (Nat.min_le_right _ _);exact⟨j,zZ hj (Nat.min_le_left _ _),h2,by rw[Px h2];rfl⟩
 ·rintro⟨i,h1,h2,rfl⟩;exact⟨h.pl i,List.mem_take_iff_getElem.mpr ⟨i,Nat.lt_min.mpr ⟨h1,h2⟩,(Px h2).symm⟩,rfl⟩
theorem ZGQ:(x∈(h.ps.drop k).map Pl.nm)↔∃i,k<=i/\i<h.n/\(h.pl i).nm=x:=by
 rw[zD];constructor
 ·rintro⟨p,hp,rfl⟩;obtain⟨j,hj,rfl⟩:=qR.mp hp;have h2:k+j<h.n:=by show k+j<h.ps.length;lia
  exact⟨k+j,by lia,h2,by rw[Px h2];rfl⟩
 ·rintro⟨i,h1,h2,rfl⟩;have h3:i<h.ps.length:=h2;exact⟨h.pl i,qR.mpr ⟨i-k,by lia,by rw[Px h2];congr 1;lia⟩,rfl⟩
theorem ZJH{n:Nat}{p:Pl}(g:PlG n k p)(w:PlW yr k p):∃(a:Int)(as:List Int),0<=as.foldl min a/\as.length<=10/\∀G,Ka [h.encP p] G=.ok (.ref G.length) (G++[.lst ((a::as).map D.int)]):=by
 cases e:p.kd with
 |town a b=>
  obtain⟨h1,h2⟩:=g.town a b e;refine⟨a,[b],by simp only[q9,List.foldl_nil];lia,by simp,λG=>?_⟩;have e4:∀G,Ak (h.encP p) (.int 4) G=.ok (.int a) G:=λG=>by unfold Hs.encP;rw[e];simp
  have e5:∀G,Ak (h.encP p) (.int 5) G=.ok (.int b) G:=λG=>by unfold Hs.encP;rw[e];simp
  have et:p.kd.txt="town":=by rw[e];rfl
  have tn:tidy G (.ok (.ref G.length) (G++[.lst [.int a,.int b]]))=.ok (.ref G.length) (G++[.lst [.int a,.int b]]):=G6 (by simp);unfold Ka N7;rw[Bp];simp[et,e4,e5,Ay,tn]
 |mill a=>
  have h1:=w.mill a e;refine⟨a,[],by simpa using h1,by simp,λG=>?_⟩;have e4:∀G,Ak (h.encP p) (.int 4) G=.ok (.int a) G:=λG=>by unfold Hs.encP;rw[e];simp
  have et:p.kd.txt="mill":=by rw[e];rfl
  have nt:¬(("mill":Str)="town"):=by decide
  have tn:tidy G (.ok (.ref G.length) (G++[.lst [.int a]]))=.ok (.ref G.length) (G++[.lst [.int a]]):=G6 (by simp);unfold Ka N7;rw[Bp];simp[et,nt,e4,Ay,tn]
 | basin b r q=>
  have h1:=(g.brim b r q e).1;have e4:∀G,Ak (h.encP p) (.int 4) G=.ok (.int b) G:=λG=>by unfold Hs.encP;rw[e];simp
  have e6:∀G,Ak (h.encP p) (.int 6) G=.ok (h.Fv q) G:=λG=>by unfold Hs.encP;rw[e];simp
  have et:p.kd.txt="basin":=by rw[e];rfl
  have nt:¬(("basin":Str)="town"):=by decide
  have nm:¬(("basin":Str)="mill"):=by decide
  cases q with
  |none=>
   refine⟨b,[],by simpa using h1,by simp,λG=>?_⟩;have tn:tidy G (.ok (.ref G.length) (G++[.lst [.int b]]))=.ok (.ref G.length) (G++[.lst [.int b]]):=G6 (by simp);unfold Ka N7;rw[Bp];simp[et,nt,nm,e4,e6,Hs.Fv,Es,Ay,tn]
  |some z=>
   obtain⟨to,dl,m⟩:=z;have h2:=(w.pq b r to dl m e).2.1;refine⟨b,[m],by simp only[q9,List.foldl_nil];lia,by simp,λG=>?_⟩;have tn:tidy G (.ok (.ref G.length) (G++[.lst [.int b,.int m]]))=.ok (.ref G.length) (G++[.lst [.int b,.int m]]):=G6 (by simp);unfold Ka N7;rw[Bp];simp[et,nt,nm,e4,e6,Hs.Fv,Es,Ay,tn]
theorem ZEx{q:Option (Nat×Nat×Int)}{l:List Str}(hG:G[i]?=xE (.lst (l.map D.str)))(hq:∀to dl m,q=xE (to,dl,m)->(h.pl to).nm∈l/\1<=dl/\dl<=5):Ry [h.Fv q,.ref i] G=.ok (.bl xG) G:=by
 unfold Ry ZDP;rw[Bp];cases q with
 |none=>simp[Hs.Fv,Es,Bo]
 |some z=>
  obtain⟨to,dl,m⟩:=z;obtain⟨h1,h2,h3⟩:=hq to dl m rfl;have hi:=ZKV (x:=(h.pl to).nm) hG;rw[decide_eq_true h1]at hi;have h4:(1:Int)<=(dl:Int):=by lia
  have h5:(dl:Int)<=5:=by lia
  simp[Hs.Fv,Es,hi,h2,h4,h5,Bo]
theorem ZJQ(g:GoodH h)(pw:∀k,k<h.n->PlG h.n k (h.pl k)/\PlW h.yr k (h.pl k))(wd:∀k,k<h.n->Wd (h.pl k).nm)(hk:k<h.n)(G:DH):K9 [h.enc,.int k] G=.ok .non G:=by
 have hn:=g.len;have hps:h.ps.length=h.n:=rfl;obtain⟨pg,pww⟩:=pw k hk;have ap:atI h.Cr (k:Int)=xE (h.encP (h.pl k)):=Hs.Pq hk;have c1:cutD h.Cr xF (xE (k:Int))=(h.ps.take k).map h.encP:=by rw[Ke (by rw[Hs.J0];lia)];unfold Hs.Cr;rw[List.map_take]
 have c2:cutD h.Cr (xE ((k:Int)+1)) xF=(h.ps.drop (k+1)).map h.encP:=by rw[show(k:Int)+1=((k+1:Nat):Int) by lia,O7 (by rw[Hs.J0];lia)];unfold Hs.Cr;rw[List.map_drop]
 have bE:∀(m:Nat)(l:List Pl),bels m (l.map h.encP)=xG:=λm l=>Gk λ_ _=>Hs.Zf
 have f1:freeze G (.ok (.tup ((h.ps.take k).map h.encP)) G)=.ok (.tup ((h.ps.take k).map h.encP)) G:=Yx (by rw[ZCG];exact bE _ _);have f2:freeze G (.ok (.tup ((h.ps.drop (k+1)).map h.encP)) G)=.ok (.tup ((h.ps.drop (k+1)).map h.encP)) G:=Yx (by rw[ZCG];exact bE _ _);have m1:=ZCP (h:=h) (G:=G) (h.ps.take k);have m2:=ZCH (h:=h) (G:=G) (h.ps.drop (k+1));have hA:(h.pl k).nm∉(h.ps.take k).map Pl.nm:=λz=>by obtain⟨i,h1,h2,h3⟩:=ZDF.mp z;have:=g.inj i k h2 hk h3;lia
 have lA:((h.ps.take k).map Pl.nm).length<=12:=by rw[zw,qV];lia
 have lB:((h.ps.drop (k+1)).map Pl.nm).length<=12:=by rw[zw,qA];lia
 have hB:∀i,k<i->i<h.n->(h.pl i).nm∈(h.ps.drop (k+1)).map Pl.nm:=λi h1 h2=>ZGQ.mpr ⟨i,h1,h2,rfl⟩
 have hAB:∀i,i≠k->i<h.n->(h.pl i).nm∈(h.ps.take k).map Pl.nm++(h.ps.drop (k+1)).map Pl.nm:=λi h1 h2=>by
  rw[zP];by_cases z:i<k
  ·exact .inl (ZDF.mpr ⟨i,z,h2,rfl⟩)
  ·exact .inr (hB i (by lia) h2)
 have cN:=ZEC (z:=(h.pl k).nm) (G:=G) (by have:=(Td (wd k hk) (g.sea k hk)).2.1;lia);rw[(Td (wd k hk) (g.sea k hk)).1]at cN;generalize(h.ps.take k).map h.encP=EA at*;generalize(h.ps.drop (k+1)).map h.encP=EB at*;generalize(h.ps.take k).map Pl.nm=A at*;generalize(h.ps.drop (k+1)).map Pl.nm=B at*;have nA:=ZCu (x:=(h.pl k).nm) (l:=A) (G:=G);rw[decide_eq_false hA]at nA;have cR:=ZJN (h:=h) (p:=h.pl k) (l:=B) (by
  cases ed:(h.pl k).dn with
  |none=>exact .inl rfl
  |some d=>
   obtain⟨d1,d2⟩:=g.dn k d hk ed;exact .inr ⟨d,rfl,hB d d1 d2,g.sea d d2⟩) (g.dl k hk) G
 obtain⟨a,as,n1,n2,cM⟩:=ZJH (h:=h) pg pww;have fA:freeze G (.ok (.ref G.length) (G++[.lst (A.map D.str)]))=.ok (.fl (A.map D.str)) G:=Ce Eu;have fB:freeze G (.ok (.ref G.length) (G++[.lst (B.map D.str)]))=.ok (.fl (B.map D.str)) G:=Ce Eu;have fM:freeze G (.ok (.ref G.length) (G++[.lst ((a::as).map D.int)]))=.ok (.fl ((a::as).map D.int)) G:=Ce Hf;have mn:Ln [.fl ((a::as).map D.int)] G=.ok (.int (as.foldl min a)) G:=ZH3 rfl
 have n3:¬as.foldl min a<0:=by lia
 generalize(a::as).map D.int=MM at*;generalize as.foldl min a=mm at*;have lA':(A.map D.str).length<=1000000:=by rw[zw];lia
 have lB':(B.map D.str).length<=1000000:=by rw[zw];lia
 have lAB:(A.map D.str).length+(B.map D.str).length<=1000000:=by rw[zw,zw];lia
 have hcs:∀S:DSt,Bf 1 [] S=[xF]:=λ_=>rfl
 have t0:K9 [h.enc,.int k] G=tidy G (O8 [xE h.enc,xE (.int k),xE (.tup h.Cr),xE (h.encP (h.pl k)),xE (.fl (A.map D.str)),xE (.fl (B.map D.str))] G).ret:=by generalize A.map D.str=DA' at*;generalize B.map D.str=DB' at*;unfold K9 ZCX ZC5 ZA3 ZBW ZDS ZAa Zy;rw[Bp];simp[Ii,ap,Hq,c1,f1,hcs,m1,Ay,lA',fA,c2,f2,m2,lB',fB,cN,nA,cR,cM,fM,mn,n3]
 rw[t0];cases e:(h.pl k).kd with
 |town a b=>
  unfold O8;simp[V6,e,Kd.isB,Bo]
 |mill a=>
  unfold O8;simp[V6,e,Kd.isB,Bo]
 | basin b r q=>
  have e5:∀G,Ak (h.encP (h.pl k)) (.int 5) G=.ok (.tup (r.map Bl)) G:=λG=>by unfold Hs.encP;rw[e];simp
  have e6:∀G,Ak (h.encP (h.pl k)) (.int 6) G=.ok (h.Fv q) G:=λG=>by unfold Hs.encP;rw[e];simp
  obtain⟨w1,w2,w3⟩:=pww.asc b r q e;have gd:=(pg.brim b r q e).2;have hG:(G++[DO.lst ((A++B).map D.str)])[G.length]?=xE (.lst ((A++B).map D.str)):=by simp
  have cP:=ZEx (h:=h) (q:=q) hG λto dl m eq=>by subst eq;obtain⟨p1,p2,p3⟩:=pg.pump b r to dl m e;exact⟨hAB to (pww.pq b r to dl m e).1 p1,p2,p3⟩
  have cU:=ZIL (yr:=h.yr) (r:=r) (q:=h.Fv q) (ZJY w1 w2) λs hs=>⟨ZI6 (gd s hs),by
   cases q with
   |none=>exact ZJt (w3 s hs) (pg.nop b r e s hs)
   |some z=>
    obtain⟨to,dl,m⟩:=z;exact ZJ3 (m:=.non) (w3 s hs) ((pww.pq b r to dl m e).2.2 s hs)⟩
  have ad:Aq (.fl (A.map D.str)) (.fl (B.map D.str)) G=.ok (.ref G.length) (G++[.lst ((A++B).map D.str)]):=by rw[Pn,if_pos lAB,List.map_append]
  have tp:tidy G (.ok .non (G++[.lst ((A++B).map D.str)]))=.ok .non G:=Qf rfl;generalize G++[DO.lst ((A++B).map D.str)]=G2 at*;generalize A.map D.str=DA' at*;generalize B.map D.str=DB' at*;generalize r.map Bl=RR at*;unfold O8;simp[-Pn,V6,e,Kd.isB,e5,e6,ad,cP,ZAi,cU,tp]
theorem ZCo{s1:Option D}(hc:∀k,k<h.n->∀G,K9 [h.enc,.int k] G=.ok .non G){G:DH}:∀(m k:Nat)(x:Option D),k+m=h.n->∃x',Bw (gV 2) Mh (Ck k m) [xE h.enc,s1,x] G=.nx [xE h.enc,s1,x'] G
 |0,k,x,e=>⟨x,by rw[Jl,Ej]⟩
 |m+1,k,x,e=>by
  obtain⟨x',ih⟩:=ZCo (s1:=s1) hc (G:=G) m (k+1) (xE (.int k)) (by lia);refine⟨x',?_⟩;have hb:Mh [xE h.enc,s1,xE (.int k)] G=.nx [xE h.enc,s1,xE (.int k)] G:=by unfold Mh;simp[hc k (by lia) G]
  rw[Ib,Dj];simp only[Gi,R.Gu,qG,hb,Gx];have e1:((k:Int)+1)=((k+1:Nat):Int):=by lia
  rw[e1,ih]
theorem ZHs(g:GoodH h)(h1:1<=h.n)(hy:h.yr<=24)(hc:∀k,k<h.n->∀G,K9 [h.enc,.int k] G=.ok .non G)(G:DH):Pb [h.enc] G=.ok h.enc G:=by
 obtain⟨x',hL⟩:=ZCo (s1:=xE (.tup h.Cr)) hc (G:=G) h.n 0 xF (by lia);have hL':Bw (gV 2) Mh (Ck 0 h.n) [xE h.enc,xE (.tup h.Cr),xF] G=_:=hL;have hn:=g.len;have hy0:=g.yr;have y1:(1:Int)<=h.yr:=by lia
 have n1:(1:Int)<=(h.n:Int):=by lia
 have n2:(h.n:Int)<=12:=by lia
 have hr:inR (h.n:Int):=Gz (by lia) (by lia);unfold Pb ZBo;rw[Bp];simp[Ii,ZAi,Hs.J0,y1,hy,n1,n2,h1,hn,hr,hL',Bo]
noncomputable def Mg:Option Nat->D
 |none=>.non
 |some k=>.int k
noncomputable def XM:Xn:=⟨"NoName",[("place",.non)]⟩
theorem Up(hk:k<h.n):(Ha h.Cr).drop k=.tup [.int k,h.encP (h.pl k)]::(Ha h.Cr).drop (k+1):=by rw[zM (by rw[Xc,Hs.J0];exact hk)];have:=Hs.ZDR hk;rw[zJ (by rw[Hs.J0];exact hk)]at this;have e2:=Option.some.inj this;simp[Ha,e2]
theorem ZDV(g:GoodH h)(hd:d<h.n){G:DH}:∀(m k:Nat)(a b:Option D),k+m=d->
  Bw (Cy 2 (Bk (gV 2) (Bk (gV 3) Df))) Ij ((Ha h.Cr).drop k) [xE h.enc,xE (.str (h.pl d).nm),a,b] G=.rt (.int d) G
 |0,k,a,b,e=>by
  have e1:k=d:=by lia
  subst e1;have hb:Ij [xE h.enc,xE (.str (h.pl k).nm),xE (.int k),xE (h.encP (h.pl k))] G=.rt (.int k) G:=by unfold Ij;simp
  rw[Up hd,Dj];simp[hb]
 |m+1,k,a,b,e=>by
  have hk:k<h.n:=by lia
  have hne:(h.pl k).nm≠(h.pl d).nm:=λz=>by have:=g.inj k d hk hd z;lia
  have hb:Ij [xE h.enc,xE (.str (h.pl d).nm),xE (.int k),xE (h.encP (h.pl k))] G=.nx [xE h.enc,xE (.str (h.pl d).nm),xE (.int k),xE (h.encP (h.pl k))] G:=by unfold Ij;simp[hne]
  have ih:=ZDV g hd (G:=G) m (k+1) (xE (.int k)) (xE (h.encP (h.pl k))) (by lia);rw[Up hk,Dj];simp[hb,ih]
theorem ZAq(hx:∀i,i<h.n->(h.pl i).nm≠x){G:DH}:∀(m k:Nat)(a b:Option D),k+m=h.n->∃a' b',
  Bw (Cy 2 (Bk (gV 2) (Bk (gV 3) Df))) Ij ((Ha h.Cr).drop k) [xE h.enc,xE (.str x),a,b] G=.nx [xE h.enc,xE (.str x),a',b'] G
 |0,k,a,b,e=>⟨a,b,by rw[List.drop_eq_nil_of_le (by rw[Xc,Hs.J0];lia),Ej]⟩
 |m+1,k,a,b,e=>by
  have hk:k<h.n:=by lia
  obtain⟨a',b',ih⟩:=ZAq hx (G:=G) m (k+1) (xE (.int k)) (xE (h.encP (h.pl k))) (by lia);refine⟨a',b',?_⟩;have hne:=hx k hk;have hb:Ij [xE h.enc,xE (.str x),xE (.int k),xE (h.encP (h.pl k))] G=.nx [xE h.enc,xE (.str x),xE (.int k),xE (h.encP (h.pl k))] G:=by unfold Ij;simp[hne]
  rw[Up hk,Dj];simp[hb,ih]
theorem Te(g:GoodH h)(hd:d<h.n)(G:DH):Gp [h.enc,.str (h.pl d).nm] G=.ok (.int d) G:=by have hL:=ZDV g hd (G:=G) d 0 xF xF (by lia);rw[List.drop_zero]at hL;unfold Gp Yb;rw[Bp];simp[Ii,hL,Bo]
theorem ZH7(hx:∀i,i<h.n->(h.pl i).nm≠x)(G:DH):Gp [h.enc,.str x] G=.err XM G:=by
 obtain⟨a',b',hL⟩:=ZAq hx (G:=G) h.n 0 xF xF (by lia);rw[List.drop_zero]at hL;have hz:∀(S:DSt),sRz "NoName" "place" (Ab (dC .non) Ag) S G=.err XM G:=λS=>by unfold sRz;simp[XM]
 unfold Gp Yb;generalize sRz "NoName" "place" (Ab (dC .non) Ag)=Z at*;rw[Bp];simp[Ii,hL,hz]
theorem ZKA(g:GoodH h)(hk:k<h.n)(G:DH):Qd [h.enc,.int k] G=.ok (Mg (h.pl k).dn) G:=by
 have ap:atI h.Cr (k:Int)=xE (h.encP (h.pl k)):=Hs.Pq hk;unfold Qd Zx;rw[Bp];cases e:(h.pl k).dn with
 |none=>
  have es:h.dnT (h.pl k).dn="sea":=by rw[e];rfl
  simp[Ii,ap,es,Mg,Bo]
 |some d=>
  have hd:=(g.dn k d hk e).2;have es:h.dnT (h.pl k).dn=(h.pl d).nm:=by rw[e];rfl
  have hs:=g.sea d hd;have cn:=Te g hd G;simp[Ii,ap,es,hs,cn,Mg,Bo]
theorem c_wh{i:Int}(G:DH):Ma [.int i] G=.ok (.bl xG) G:=by unfold Ma ZBE;rw[Bp];simp[Ja,tyD,Ty.sub,Bo]
theorem ZAx(g:GoodH h)(hk:k<h.n)(G:DH):Mi [h.enc,.int k] G=.ok (.bl xG) G:=by
 have ap:atI h.Cr (k:Int)=xE (h.encP (h.pl k)):=Hs.Pq hk;have cd:=ZKA g hk G;unfold Mi ZAY;rw[Bp];cases e:(h.pl k).dn with
 |none=>
  rw[e]at cd;have es:h.dnT (h.pl k).dn="sea":=by rw[e];rfl
  simp[Ii,ap,es,cd,Mg,Es,Bo]
 |some d=>
  rw[e]at cd;obtain⟨d1,d2⟩:=g.dn k d hk e;have es:h.dnT (h.pl k).dn=(h.pl d).nm:=by rw[e];rfl
  have hs:=g.sea d d2;have ad:atI h.Cr (d:Int)=xE (h.encP (h.pl d)):=Hs.Pq d2;have l1:(k:Int)<(d:Int):=by lia
  have l2:(d:Int)<(h.n:Int):=by lia
  simp[Ii,ap,es,hs,cd,Mg,c_wh,l1,l2,d1,d2,Hs.J0,ad,Bo]
theorem ZI9{c:Str}{b:Bool}{p:Str×D}{fs:List (Str×D)}(h:G[i]?=xE (.exc c (p::fs))):isx [(c,b)] (.ref i) G=.ok (.bl b) G:=by unfold isx;simp[h]
theorem ZF1{c f:Str}{d:D}(h:G[i]?=xE (.exc c [(f,d)])):gtx [c] f (.ref i) G=.ok d G:=by unfold gtx;simp[h]
theorem ZFK{ws:List Str}{F:List D->DH->R D}{t:DA}{hb:DS}{S:DSt}{G1 G2:DH}{x:Xn}(ht:t S G=.ok ds G1)(hF:F ds G1=.err x G2)(hw:x.cls∈ws):Jp ws i F t hb S G=unnm i (hb (S.set i (xE (.ref G2.length))) (G2++[.exc x.cls x.fs])):=by unfold Jp;rw[ht];dsimp only;rw[hF];dsimp only;rw[if_pos hw]
theorem ZGg(hx:∀i,i<h.n->(h.pl i).nm≠x)(G:DH):Rg [h.enc,.str x] G=.ok (.bl xG) G:=by
 have cb:=ZH7 hx G;have hg:(G++[DO.exc "NoName" [("place",.non)]])[G.length]?=xE (.exc "NoName" [("place",.non)]):=by simp
 have t1:Jp ["NoName"] 3 Gp (Ab (dV 0) (Ab (dV 1) Ag)) Tr [xE h.enc,xE (.str x),xE .non,xF,xF] G=.nx [xE h.enc,xE (.str x),xE (.ref G.length),xF,xF] (G++[.exc "NoName" [("place",.non)]]):=by rw[ZFK (ds:=[h.enc,.str x]) (G1:=G) (by simp) cb (by simp[XM])];show unnm 3 (Tr [xE h.enc,xE (.str x),xE .non,xE (.ref G.length),xF] (G++[.exc "NoName" [("place",.non)]]))=_;unfold Tr;simp[unnm]
 have tp:tidy G (.ok (.bl xG) (G++[.exc "NoName" [("place",.non)]]))=.ok (.bl xG) G:=Qf rfl;generalize G++[DO.exc "NoName" [("place",.non)]]=G2 at*;have f3:freeze G2 (.ok (.ref G2.length) (G2++[.lst [.bl xH,.bl xH,.bl xH]]))=.ok (.fl [.bl xH,.bl xH,.bl xH]) G2:=Ce rfl;have f6:freeze G2 (.ok (.ref G2.length) (G2++[.lst [.bl xH,.bl xH,.bl xH,.bl xH,.bl xH,.bl xH]]))=.ok (.fl [.bl xH,.bl xH,.bl xH,.bl xH,.bl xH,.bl xH]) G2:=Ce rfl
 have f9:freeze G2 (.ok (.ref G2.length) (G2++[.lst [.bl xH,.bl xH,.bl xH,.bl xH,.bl xH,.bl xH,.bl xH,.bl xH,.bl xH]]))=.ok (.fl [.bl xH,.bl xH,.bl xH,.bl xH,.bl xH,.bl xH,.bl xH,.bl xH,.bl xH]) G2:=Ce rfl;have f12:freeze G2 (.ok (.ref G2.length) (G2++[.lst [.bl xH,.bl xH,.bl xH,.bl xH,.bl xH,.bl xH,.bl xH,.bl xH,.bl xH,.bl xH,.bl xH,.bl xH]]))=.ok (.fl [.bl xH,.bl xH,.bl xH,.bl xH,.bl xH,.bl xH,.bl xH,.bl xH,.bl xH,.bl xH,.bl xH,.bl xH]) G2:=Ce rfl
 have an:Lz [.fl [.bl xH,.bl xH,.bl xH,.bl xH,.bl xH,.bl xH,.bl xH,.bl xH,.bl xH,.bl xH,.bl xH,.bl xH]] G2=.ok (.bl xH) G2:=ZJR (ks:=zI 12 xH);unfold Rg ZCD ZDA;rw[Bp];have t2:Wx [xE h.enc,xE (.str x),xE (.ref G.length),xF,xF] G2=.rt (.bl xG) G2:=by unfold Wx ZDb ZAB Zu ZBA ZCr;simp[ZI9 hg,ZF1 hg,Es,Ay,f3,f6,f9,f12,an]
 simp[t1,t2,tp]
theorem ZIj:okD 20 (.tup (st.map Stp.enc))=xG:=Ko (n:=19) λd hd=>by
 obtain⟨s,_,rfl⟩:=zD.mp hd
 rfl
theorem ZKE:okD 25 (.tup (r.map Bl))=xG:=Ko (n:=24) λd hd=>by
 obtain⟨s,_,rfl⟩:=zD.mp hd;refine Ko (n:=23) λd hd=>?_
 simp only[zz,jW,or_false]at hd;rcases hd with rfl|rfl
 ·rfl
 ·exact Rq ZIj (by decide)
theorem ZHM{p:Pl}:okD 28 (h.encP p)=xG:=by
 unfold Hs.encP;cases p.kd with
 | basin b r q=>
  refine Ko (n:=27) λd hd=>?_
  simp only[zz,jW,or_false]at hd;rcases hd with rfl|rfl|rfl|rfl|rfl|rfl|rfl
  ·rfl
  ·rfl
  ·rfl
  ·rfl
  ·rfl
  ·exact Rq ZKE (by decide)
  ·cases q with
   |none=>rfl
   |some z=>obtain⟨a,b,c⟩:=z;rfl
 |town a b=>rfl
 |mill a=>rfl
theorem ZJx:okD 30 h.enc=xG:=Ko (n:=29) λd hd=>by
 simp only[zz,jW,or_false]at hd;rcases hd with rfl|rfl
 ·rfl
 ·refine Ko (n:=28) λd hd=>?_
  obtain⟨p,_,rfl⟩:=zD.mp hd;exact ZHM
theorem loop1(g:GoodH h){L:List D}(hL:∀k:Nat,k<h.n->atI L (k:Int)=xE (.str (h.pl k).nm)){s0 s3 s4 s7:Option D}{G:DH}:∀(m k:Nat)(x y:Option D),k+m=h.n->∃x' y',Bw (gV 5) Nr (Ck k m) [s0,xE h.enc,xE (.fl L),s3,s4,x,y,s7] G=.nx [s0,xE h.enc,xE (.fl L),s3,s4,x',y',s7] G
 |0,k,x,y,e=>⟨x,y,by rw[Jl,Ej]⟩
 |m+1,k,x,y,e=>by
  have hk:k<h.n:=by lia
  obtain⟨x',y',ih⟩:=loop1 g hL (s0:=s0) (s3:=s3) (s4:=s4) (s7:=s7) (G:=G) m (k+1) (xE (.int k)) (xE (.int k)) (by lia);refine⟨x',y',?_⟩;have a1:=hL k hk;have cn:=Te g hk G;have cr:=ZAx g hk G;have hb:Nr [s0,xE h.enc,xE (.fl L),s3,s4,xE (.int k),y,s7] G=.nx [s0,xE h.enc,xE (.fl L),s3,s4,xE (.int k),xE (.int k),s7] G:=by unfold Nr;simp[a1,cn,c_wh,cr]
  rw[Ib,Dj];simp only[Gi,R.Gu,qG,hb,Gx];have e1:((k:Int)+1)=((k+1:Nat):Int):=by lia
  rw[e1,ih]
theorem loop2(g:GoodH h){L:List D}(hL:∀k:Nat,k<h.n->atI L (k:Int)=xE (.str (h.pl k).nm)){s0 s4 s6 s7:Option D}{G:DH}:∀(m k:Nat)(x:Option D),k+m=h.n->∃x',Bw (gV 5) N5 (Ck k m) [s0,xE h.enc,xE (.fl L),xE (.int h.n),s4,x,s6,s7] G=.nx [s0,xE h.enc,xE (.fl L),xE (.int h.n),s4,x',s6,s7] G
 |0,k,x,e=>⟨x,by rw[Jl,Ej]⟩
 |m+1,k,x,e=>by
  have hk:h.n-1-k<h.n:=by lia
  obtain⟨x',ih⟩:=loop2 g hL (s0:=s0) (s4:=s4) (s6:=s6) (s7:=s7) (G:=G) m (k+1) (xE (.int k)) (by lia);refine⟨x',?_⟩;have ej:(h.n:Int)-1-(k:Int)=((h.n-1-k:Nat):Int):=by lia
  have a1:=hL _ hk;have cn:=Te g hk G;have cr:=ZAx g hk G;have hb:N5 [s0,xE h.enc,xE (.fl L),xE (.int h.n),s4,xE (.int k),s6,s7] G=.nx [s0,xE h.enc,xE (.fl L),xE (.int h.n),s4,xE (.int k),s6,s7] G:=by unfold N5;generalize h.n-1-k=j at*;simp[ej,a1,cn,cr]
  rw[Ib,Dj];simp only[Gi,R.Gu,qG,hb,Gx];have e1:((k:Int)+1)=((k+1:Nat):Int):=by lia
  rw[e1,ih]
theorem loop3{h:Hs}{s0 s2 s3 s4 s5 s6:Option D}{G:DH}:∀(l:List Str)(x:Option D),(∀z∈l,∀i,i<h.n->(h.pl i).nm≠z)->∃x',Bw (gV 7) Tc (l.map D.str) [s0,xE h.enc,s2,s3,s4,s5,s6,x] G=.nx [s0,xE h.enc,s2,s3,s4,s5,s6,x'] G
 |[],x,_=>⟨x,by rw[qj,Ej]⟩
 |z::l,x,hl=>by
  obtain⟨x',ih⟩:=loop3 (h:=h) (s0:=s0) (s2:=s2) (s3:=s3) (s4:=s4) (s5:=s5) (s6:=s6) (G:=G) l (xE (.str z)) λy hy=>hl y (zX _ hy)
  refine⟨x',?_⟩;have cs:=ZGg (hl z zk) G;have hb:Tc [s0,xE h.enc,s2,s3,s4,s5,s6,xE (.str z)] G=.nx [s0,xE h.enc,s2,s3,s4,s5,s6,xE (.str z)] G:=by unfold Tc;simp[cs]
  rw[zj,Dj];simp[hb,ih]
theorem str_len{a b:Str}:(a++b).length=a.length+b.length:=by show(Str.append a b).length=_;unfold Str.append Str.length;simp
theorem ZKC(G:DH):Kc [.fl (ns.map D.int)] G=.ok (.bl xG) G:=by
 obtain⟨h,g,h1,pw,hy,⟨nm,hnm,nok,hpn,cN⟩,ch⟩:=ZKR (ns:=ns) (at_:=0) (by lia) G;have hn:=g.len;have at_:∀k(hk:k<h.n),(h.pl k).nm=nm[k]'(by lia):=λk hk=>by rw[hpn k hk];exact(Np (by lia)).symm
 have wd:∀k,k<h.n->Wd (h.pl k).nm:=λk hk=>by rw[at_ k hk];exact nok.wd _ (qW _)
 have cc:=ZHs g h1 hy (λk hk G=>ZJQ g pw wd hk G) G;have hL:∀k:Nat,k<h.n->atI (nm.map D.str) (k:Int)=xE (.str (h.pl k).nm):=λk hk=>by rw[at_ k hk];exact Qh (by lia)
 have a0:atI (nm.map D.str) 0=xE (.str (h.pl 0).nm):=hL 0 (by lia);have c2:∀G,Gb [.fl (ns.map D.int),.int 2] G=.ok (.int (cellAt ns 2)) G:=λG=>Ny (by lia)
 have cN':∀G,Gn [.int (cellAt ns 2)] G=.ok (.ref G.length) (G++[.lst (nm.map D.str)]):=cN;have ch':Lr [.fl (ns.map D.int),.int 0] G=.ok h.enc G:=ch;have fN:freeze G (.ok (.ref G.length) (G++[.lst (nm.map D.str)]))=.ok (.fl (nm.map D.str)) G:=Ce Eu;have w0:=Td (wd 0 (by lia)) (g.sea 0 (by lia));have bad:∀z∈nm.drop h.n++([("sea":Str),("":Str),(h.pl 0).nm++("abcdefgh":Str)]:List Str),∀i,i<h.n->(h.pl i).nm≠z:=λz hz i hi e=>by
  have wi:=Td (wd i hi) (g.sea i hi);rcases zP.mp hz with hz|hz
  ·obtain⟨j,hj,ej⟩:=qR.mp hz;rw[at_ i hi,<-ej]at e;have:=ZCa nok.nd (by lia) (by lia) e;lia
  ·simp only[zz,jW,or_false]at hz;rcases hz with rfl|rfl|rfl
   ·exact g.sea i hi e
   ·rw[e]at wi;exact absurd wi.2.2 (by decide)
   ·rw[e,str_len]at wi;have e8:("abcdefgh":Str).length=8:=by decide +kernel
    lia
 obtain⟨x1,y1,hL1⟩:=loop1 g hL (s0:=xE (.fl (ns.map D.int))) (s3:=xE (.int h.n)) (s4:=xE h.enc) (s7:=xF) (G:=G) h.n 0 xF xF (by lia);have hL1':Bw (gV 5) Nr (Ck 0 h.n) _ _=_:=hL1;obtain⟨x2,hL2⟩:=loop2 g hL (s0:=xE (.fl (ns.map D.int))) (s4:=xE h.enc) (s6:=y1) (s7:=xF) (G:=G) h.n 0 x1 (by lia);have hL2':Bw (gV 5) N5 (Ck 0 h.n) _ _=_:=hL2;obtain⟨x3,hL3⟩:=loop3 (h:=h) (s0:=xE (.fl (ns.map D.int))) (s2:=xE (.fl (nm.map D.str))) (s3:=xE (.int h.n)) (s4:=xE h.enc) (s5:=x2) (s6:=y1) (G:=G) _ xF bad
 have cu:cutD (nm.map D.str) (xE (h.n:Int)) xF=(nm.drop h.n).map D.str:=by rw[O7 (by rw[zw];lia),List.map_drop]
 have f1:freeze G (.ok (.ref G.length) (G++[.lst ((nm.drop h.n).map D.str)]))=.ok (.fl ((nm.drop h.n).map D.str)) G:=Ce Eu;have f2:freeze G (.ok (.ref G.length) (G++[.lst [.str "sea",.str "",.str ((h.pl 0).nm++"abcdefgh")]]))=.ok (.fl [.str "sea",.str "",.str ((h.pl 0).nm++"abcdefgh")]) G:=Ce (by simp);have ad:Aq (.fl ((nm.drop h.n).map D.str)) (.fl [.str "sea",.str "",.str ((h.pl 0).nm++"abcdefgh")]) G=.ok (.ref G.length) (G++[.lst ((nm.drop h.n++([("sea":Str),("":Str),(h.pl 0).nm++("abcdefgh":Str)]:List Str)).map D.str)]):=by
  rw[Pn,if_pos (by simp[hnm];lia),List.map_append]
  rfl
 have f3:freeze G (.ok (.ref G.length) (G++[.lst ((nm.drop h.n++([("sea":Str),("":Str),(h.pl 0).nm++("abcdefgh":Str)]:List Str)).map D.str)]))=.ok (.fl ((nm.drop h.n++([("sea":Str),("":Str),(h.pl 0).nm++("abcdefgh":Str)]:List Str)).map D.str)) G:=Ce Eu;have as_:Aq (.str (h.pl 0).nm) (.str "abcdefgh") G=.ok (.str ((h.pl 0).nm++"abcdefgh")) G:=by
  rw[Hn,if_pos];have e8:("abcdefgh":Str).length=8:=by decide +kernel
  lia
 have cz:=Te g (d:=0) (by lia) G;have en:=ZHP (G:=G) (ZJx (h:=h));have ii:Ja [h.enc,.ty "tuple"] G=.ok (.bl xG) G:=by unfold Hs.enc;simp[Ja,tyD,Ty.sub]
 have hr:inR (h.n:Int):=Gz (by lia) (by lia);generalize(nm.drop h.n++([("sea":Str),("":Str),(h.pl 0).nm++("abcdefgh":Str)]:List Str)).map D.str=ALL at*;generalize(nm.drop h.n).map D.str=DR at*;generalize(h.pl 0).nm++"abcdefgh"=LG at*;generalize nm.map D.str=NM at*;unfold Kc ZDL ZBH ZBD ZAk ZCS ZB3 ZBC ZCh ZCY;rw[Bp];simp[-Pn,-Hn,ch',c2,cN',fN,Ii,Hs.J0,cc,ii,en,hr,hL1',hL2',Hq,cu,f1,a0,as_,Ay,f2,ad,f3,hL3,cz,Bo]
theorem holds:Holds:=λns _ _=>⟨[],ZKC []⟩
end _W
namespace _W
open PySem _L _D
seal QE QT QA QS QSs QG QGs QI QTs QW QO
structure Txt (K:PySem.W.Frag) (mg:Str->Option j5):Prop where
 Jd:FT K mg "_law_cell_at" Uj Ul
 Tt:FT K mg "_law_free_names" Nh W4
 Mw:FT K mg "_law_stream" Ze Wq
 N8:FT K mg "_law_names" K6 W8
 Tq:FT K mg "_law_more" Wk Vq
 I8:FT K mg "_law_number" Ym Z2
 U3:FT K mg "_law_pumped" R7 Vv
 U9:FT K mg "_law_stairs" Yd V1
 U6:FT K mg "_law_rule" W0 Zb
 Ua:FT K mg "_law_place" Wt Ys
 T9:FT K mg "_law_house" Ra Xr
 Nj:FT K mg "_law_whole" Yz Ye
 Iz:FT K mg "number_of" Vi Wf
 Rh:FT K mg "down_of" Yk Xd
 Mm:FT K mg "_law_river" Wv W6
 Qg:FT K mg "_law_strange" Y4 Yl
 Th:FT K mg "is_name" T8 Wc
 T4:FT K mg "is_pump_good" Uo Wg
 R4:FT K mg "is_river_good" Xl Wo
 S8:FT K mg "are_seasons_good" Wy Xp
 Tv:FT K mg "are_steps_good" W5 Yq
 Sw:FT K mg "can_pump" Pu Yv
 Qw:FT K mg "is_rule_good" V3 Vl
 Rr:FT K mg "numbers_in" Wm Yi
 Rk:FT K mg "check_place" N6 Uk
 Qk:FT K mg "checked" Vk Yg
 Oe:FT K mg "law" G8 Yj
 ZHW:mg "ValueError"=xF
 ZG2:mg "all"=xF
 ZJk:mg "any"=xF
 ZIZ:mg "bool"=xF
 ZDl:mg "enumerate"=xF
 Uu:mg "int"=xF
 Do:mg "isinstance"=xF
 J8:mg "len"=xF
 ZAs:mg "max"=xF
 ZJr:mg "min"=xF
 Gs:mg "range"=xF
 ZBT:mg "sum"=xF
 R6:mg "tuple"=xF
 Rj:mg "BRIM"=xE (.int 4 (Cu K "BRIM"))
 Xh:mg "DELAY"=xE (.int 3 (Cu K "DELAY"))
 Oi:mg "DOWN"=xE (.int 2 (Cu K "DOWN"))
 Oa:mg "KIND"=xE (.int 0 (Cu K "KIND"))
 Wb:mg "LETTERS"=xE (.str "abcdefghijklmnopqrstuvwxyz" (Cu K "LETTERS"))
 Wj:mg "MOST"=xE (.int 4 (Cu K "MOST"))
 Jx:mg "NAME"=xE (.int 1 (Cu K "NAME"))
 Xj:mg "NEED"=xE (.int 4 (Cu K "NEED"))
 Kg:mg "PLACES"=xE (.int 1 (Cu K "PLACES"))
 Lf:mg "PUMP"=xE (.int 6 (Cu K "PUMP"))
 Ug:mg "PUMP_DELAY"=xE (.int 1 (Cu K "PUMP_DELAY"))
 Ti:mg "PUMP_MOST"=xE (.int 2 (Cu K "PUMP_MOST"))
 Vm:mg "PUMP_TO"=xE (.int 0 (Cu K "PUMP_TO"))
 Y6:mg "RANK"=xE (.int 5 (Cu K "RANK"))
 Yo:mg "RULE"=xE (.int 5 (Cu K "RULE"))
 Ob:mg "SEA"=xE (.str "sea" (Cu K "SEA"))
 Ox:mg "YEAR"=xE (.int 0 (Cu K "YEAR"))
 Qz:MT K "NoName" "__init__" "NoName.__init__" Y0 ["self","place"]
 Bv:ET K mg "NoName" "place"
 Xw:XBase K mg "WaterError" (Ae K "WaterError")
 Uv:mg "NoAsk"=xE (.ref (Ae K "NoAsk"))
 Ux:mg "NoBounds"=xE (.ref (Ae K "NoBounds"))
 Ww:mg "NoHouse"=xE (.ref (Ae K "NoHouse"))
 Wu:mg "NoLevel"=xE (.ref (Ae K "NoLevel"))
 Zg:mg "NoName"=xE (.ref (Ae K "NoName"))
 Wr:mg "NoNumber"=xE (.ref (Ae K "NoNumber"))
 V5:mg "NoPump"=xE (.ref (Ae K "NoPump"))
 Zm:mg "NoRiver"=xE (.ref (Ae K "NoRiver"))
 Yn:mg "NoRow"=xE (.ref (Ae K "NoRow"))
 W3:mg "NoRule"=xE (.ref (Ae K "NoRule"))
 Vg:mg "NoText"=xE (.ref (Ae K "NoText"))
 Xk:mg "NoWay"=xE (.ref (Ae K "NoWay"))
 Vd:mg "TooLong"=xE (.ref (Ae K "TooLong"))
 Wn:mg "WaterError"=xE (.ref (Ae K "WaterError"))
 Zj:takes K (Ae K "NoName") (Ae K "WaterError")=xG
 Yp:Bt (PySem.W.kitOne K (.ref (Ae K "NoName")) (.ref (Ae K "NoAsk"))) xH=xG
 Vj:Bt (PySem.W.kitOne K (.ref (Ae K "NoName")) (.ref (Ae K "NoBounds"))) xH=xG
 Wi:Bt (PySem.W.kitOne K (.ref (Ae K "NoName")) (.ref (Ae K "NoHouse"))) xH=xG
 Yu:Bt (PySem.W.kitOne K (.ref (Ae K "NoName")) (.ref (Ae K "NoLevel"))) xH=xG
 Zo:Bt (PySem.W.kitOne K (.ref (Ae K "NoName")) (.ref (Ae K "NoName"))) xG=xG
 Ub:Bt (PySem.W.kitOne K (.ref (Ae K "NoName")) (.ref (Ae K "NoNumber"))) xH=xG
 Vu:Bt (PySem.W.kitOne K (.ref (Ae K "NoName")) (.ref (Ae K "NoPump"))) xH=xG
 Yh:Bt (PySem.W.kitOne K (.ref (Ae K "NoName")) (.ref (Ae K "NoRiver"))) xH=xG
 Zi:Bt (PySem.W.kitOne K (.ref (Ae K "NoName")) (.ref (Ae K "NoRow"))) xH=xG
 Vw:Bt (PySem.W.kitOne K (.ref (Ae K "NoName")) (.ref (Ae K "NoRule"))) xH=xG
 V4:Bt (PySem.W.kitOne K (.ref (Ae K "NoName")) (.ref (Ae K "NoText"))) xH=xG
 Wl:Bt (PySem.W.kitOne K (.ref (Ae K "NoName")) (.ref (Ae K "NoWay"))) xH=xG
 Zk:Bt (PySem.W.kitOne K (.ref (Ae K "NoName")) (.ref (Ae K "TooLong"))) xH=xG
 We:Bt (PySem.W.kitOne K (.ref (Ae K "NoName")) (.type "ValueError")) xG=xG
section
variable{P:j1}{w:j6}{K:PySem.W.Frag}{mg:Str->Option j5}{base:Heap}
theorem ZFO(T:Txt K mg):FnOk P w K mg base CX0 1 (Cz K (Ae K "NoName") "__init__") (By K (Cz K (Ae K "NoName") "__init__")) ["self","place"] (spI (Ae K "NoName") "place"):=
 ZJm (k:=0) T.Qz.F ZFW T.Bv.X T.Xw rfl (by decide +kernel) (by decide +kernel) rfl rfl rfl rfl (.inl rfl) (.inl rfl) (λ_=>⟨_,rfl⟩)
theorem Mq(T:Txt K mg):FnO P w K mg base 1 "_law_cell_at" Ul Gb:=by
 refine Cp T.Jd.F ZFy λcdv A outer s H E hr=>?_
 exact(Aj (Bg (Be H9 (Aa 1) (Dk Jh rfl T.J8 Iu (Ad (Aa 0) Ai)) (nomark _)) (Ao (Bb (An Am (Aa 0) (Aa 1)))) Bj) (Ao (Bb Ac)))
theorem ZDm(T:Txt K mg):FnO P w K mg base 1 "_law_free_names" W4 Qn:=by
 refine Cp T.Tt.F H8 λcdv A outer s H E hr=>?_
 exact(Aj (Ar 1 H8.nd Ci) (Aj (Ar 2 H8.nd (Lk (Dh Ai))) (Aj (Fb PassesOwn.never rfl (Eg (Aa 0)) (Bq 3 H8.nd) (Aj (Ar 4 H8.nd Ci) (Aj (Ar 5 H8.nd (Af Fq (Aa 3) Ac)) (Aj (Fb PassesOwn.never rfl (Gr rfl T.Gs (Ad (Af Ax Ac (Af Bh (Aa 3) Ac)) Ai)) (Bq 6 H8.nd) (Aj (Ar 4 H8.nd (Af Ax (Aa 4) (An Am (Aa 1) (Af Bh (Aa 5) Ac)))) (Ao (Ar 5 H8.nd (Af Fq (Aa 5) Ac))))) (Aj (Ar 7 H8.nd (Bc (Af Ax (Bc (Dh (Ad (Aa 4) Ai))) (Bc (K4 rfl (Ga (dn:=(Aw Nh).names) (N0:=Sy) (N:=["_law_letter"]) (nt:=1) (caps:=[])) (Eg (Aa 1)) (λC s₀ H₀ ex=>(Bq 0 (show(["_law_letter"]:List Str).Nodup by decide +kernel))) (Dn (by decide)) (λC s₀ H₀ ex=>Hj) (λC s₀ H₀ ex=>(Af Ax Ci (Aa 0)))))))) (Ao (M4 (Oj PySem.F.slot_list_append PySem.F.type_list_append Mv (Aa 2) (Ad (An Am (Bc (K4 rfl (Ga (dn:=(Aw Nh).names) (N0:=Sy) (N:=["_law_one","_law_names_here"]) (nt:=1) (caps:=[2])) (Eg (Aa 7)) (λC s₀ H₀ ex=>(Bq 0 (show(["_law_one","_law_names_here"]:List Str).Nodup by decide +kernel))) (Dn (by decide)) (λC s₀ H₀ ex=>(V9 (Dv (R5 (Be ZIf (Aa 0) (Aa 1) (by with_unfolding_all rfl)) (Q9 (Be (Oq hr.units) (Aa 0) Ci (nomark _))))))) (λC s₀ H₀ ex=>(Aa 0)))) Ac) Ai))))))))) (Ao (Bb (Aa 2))))))
theorem ZAS(T:Txt K mg):FnO P w K mg base 1 "_law_stream" Wq Iw:=by
 refine Cp T.Mw.F Jg λcdv A outer s H E hr=>?_
 exact(Aj (Ar 3 Jg.nd (Af Bh (Af Ex (Af Ax (Af Bh (Aa 0) Ac) Ac) (Af Ax (Af Ex (Af Ex Ac (Aa 1)) (Aa 1)) Ac)) Ac)) (Aj (Ar 4 Jg.nd Ac) (Aj (Bg (Dv (Et (Be H9 (Aa 0) Ac (nomark _)) (G9 (Be o_ge (Aa 0) (Af M3 Ac Ac) (nomark _))))) (Ao (Ar 4 Jg.nd (Dk (ZHx rfl) rfl T.ZAs ZC4 (Ad (Aa 0) (Ad (Af Hb Ac (Aa 0)) Ai))))) Bj) (Aj (Ar 5 Jg.nd (Lk (Dh Ai))) (Aj (Fb PassesOwn.never rfl (Gr rfl T.Gs (Ad (Aa 2) Ai)) (Bq 6 Jg.nd) (Aj (Ar 3 Jg.nd (Af Bh (Af Ax (Af Ax (Af Ex (Aa 3) (Aa 3)) (Af Ex Ac (Aa 6))) Ac) Ac)) (Aj (M4 (Oj PySem.F.slot_list_append PySem.F.type_list_append Mv (Aa 5) (Ad (An Am (Bc (Dh (Ad (Aa 3) (Ad (Af Bh (Aa 4) (Af M3 Ac Ac)) Ai)))) (Mp ZAr rfl T.Uu V2 (Ad (Fi Jm (Aa 4) Ac (nomark _)) Ai))) Ai))) (Ao (Ar 4 Jg.nd (Af Fq (Aa 4) (Af M3 Ac Ac))))))) (Ao (Bb (Aa 5))))))))
theorem ZDW(T:Txt K mg):FnO P w K mg base 2 "_law_names" W8 Gn:=by
 refine Cp T.N8.F Dt λcdv A outer s H E hr=>?_
 exact(Aj (Ar 1 Dt.nd Ci) (Aj (Ar 2 Dt.nd (Bc (Bm (ZAS T) T.Mw hr (Ad (Aa 0) (Ad Ac (Ad Ac Ai)))))) (Aj (Bg (Be Jm (An Am (Aa 2) Ac) Ac (nomark _)) (Ao (Bb (Bm (ZDm T) T.Tt hr (Ad (Bc (Du (Aa 2) (De Ac) (De Ac))) Ai)))) Bj) (Aj (Ar 3 Dt.nd (ZCV PySem.F.slot_str_join PySem.F.type_str_join ZEj Ci (Ad (Bc (K4 rfl (Ga (dn:=(Aw K6).names) (N0:=M7) (N:=["_law_x","_law_letters"]) (nt:=1) (caps:=[1])) (Eg (Bc (Du (Aa 2) Ge (De Ac)))) (λC s₀ H₀ ex=>(Bq 0 (show(["_law_x","_law_letters"]:List Str).Nodup by decide +kernel))) (Dn (by decide)) (λC s₀ H₀ ex=>Hj) (λC s₀ H₀ ex=>(An Am (Aa 1) (Af Bh (Aa 0) Ac))))) Ai))) (Aj (Bg (Be (Cq hr.units) (Af Bh (Af Fq (An Am (Aa 2) Ac) Ac) Ac) Ac (nomark _)) (Ao (Ar 3 Dt.nd (Bc (Du (Bc (Af Ax (An Am (Bc (Dh (Ad Ci (Ad Ci Ai)))) (Af Bh (Af Fq (An Am (Aa 2) Ac) Ac) Ac)) (Bc (Du (Aa 3) (De Ac) Ge)))) Ge (De Ac))))) Bj) (Aj (Bg (Be (Cq hr.units) (Af Bh (An Am (Aa 2) Ac) Ac) Ac (nomark _)) (Aj (Ar 4 Dt.nd (Af Bh (Af Ax (Af Ax (ZCV PySem.F.slot_str_find PySem.F.type_str_find m_find (Aa 1) (Ad (An Am (Aa 3) Ac) Ai)) Ac) (Af Bh (An Am (Aa 2) Ac) Ac)) Ac)) (Aj (Ar 5 Dt.nd (Bc (Af Ax (An Am (Aa 1) (Aa 4)) (Bc (Du (Aa 3) (De Ac) Ge))))) (Aj (Li 6 rfl Dt.nd (Ga (dn:=(Aw K6).names) (N0:=M7) (N:=["_law_k","_law_word"]) (nt:=1) (caps:=[3])) (Gr rfl T.Gs (Ad Ac Ai)) (λC s₀ H₀ ex=>(Bq 0 (show(["_law_k","_law_word"]:List Str).Nodup by decide +kernel))) (Dn (by decide)) (λC s₀ H₀ ex=>Hj) (λC s₀ H₀ ex=>(Bc (Du (Aa 1) Ge (De (Af Ax (Aa 0) Ac)))))) (Aj (Ar 6 Dt.nd (Lk (Af Ax (Aa 6) (Bc (K4 rfl (Ga (dn:=(Aw K6).names) (N0:=M7) (N:=["_law_k","_law_other"]) (nt:=1) (caps:=[5])) (Gr rfl T.Gs (Ad Ac Ai)) (λC s₀ H₀ ex=>(Bq 0 (show(["_law_k","_law_other"]:List Str).Nodup by decide +kernel))) (Dn (by decide)) (λC s₀ H₀ ex=>Hj) (λC s₀ H₀ ex=>(Bc (Du (Aa 1) Ge (De (Af Ax (Aa 0) Ac)))))))))) (Aj (Li 6 rfl Dt.nd (Ga (dn:=(Aw K6).names) (N0:=M7) (N:=["_law_name"]) (nt:=1) (caps:=[])) (Eg (Aa 6)) (λC s₀ H₀ ex=>(Bq 0 (show(["_law_name"]:List Str).Nodup by decide +kernel))) (Dn (by decide)) (λC s₀ H₀ ex=>Hj) (λC s₀ H₀ ex=>(An Am (Bc (Dh (Ad (Aa 0) (Ad Ci Ai)))) (Mp ZAr rfl T.Uu V2 (Ad (Fi (Cq hr.units) (Aa 0) Ci (nomark _)) Ai))))) (Ao (Bb (Af Ax (Bc (Du (Aa 6) (De (Af Bh (An Am (Aa 2) Ac) Ac)) Ge)) (Bc (Du (Aa 6) Ge (De (Af Bh (An Am (Aa 2) Ac) Ac)))))))))))) Bj) (Aj (Ar 9 Dt.nd (Af Bh (Af Fq (An Am (Aa 2) Ac) Ac) Ac)) (Aj (Ar 10 Dt.nd (Af Bh (An Am (Aa 2) Ac) (Af Ax (Aa 9) Ac))) (Aj (Ar 6 Dt.nd (Lk (Dh Ai))) (Aj (Fb PassesOwn.never rfl (Gr rfl T.Gs (Ad Ac Ai)) (Bq 7 Dt.nd) (Aj (Ar 11 Dt.nd (An Am (Aa 1) (Af Bh (Af Ax (An Am (Aa 2) Ac) (Af Ex Ac (Aa 7))) Ac))) (Aj (Ar 8 Dt.nd (Bc (Af Ax (Bc (Af Ax (Bc (Du (Aa 3) Ge (De (Aa 10)))) (Aa 11))) (Bc (Du (Aa 3) (De (Aa 10)) (De (Aa 9))))))) (Aj (Bg (Be (Cq hr.units) (Aa 8) Ci (nomark _)) (Ao (Ar 8 Dt.nd Ci)) Bj) (Ao (M4 (Oj PySem.F.slot_list_append PySem.F.type_list_append Mv (Aa 6) (Ad (Aa 8) Ai)))))))) (Ao (Bb (Aa 6)))))))))))))
theorem ZGC(T:Txt K mg):FnO P w K mg base 1 "_law_more" Vq Om:=by
 refine Cp T.Tq.F ZFv λcdv A outer s H E hr=>?_
 exact(Aj (Bg (Be Jm (Aa 0) Ac (nomark _)) (Ao (Bb (Af Ex (Af Bh (Af Fq (Aa 0) Ac) (Af M3 Ac Ac)) (Af Bh (Aa 0) Ac)))) Bj) (Ao (Bb (Af Ex (Af Bh (Aa 0) Ac) (Af Bh (Af Fq (Aa 0) Ac) Ac)))))
theorem Kr(T:Txt K mg):FnO P w K mg base 1 "_law_number" Z2 Hu:=by
 refine Cp T.I8.F ZHv λcdv A outer s H E hr=>?_
 exact(Aj (Bg (Be (Cq hr.units) (Af Bh (Aa 0) Ac) Ac (nomark _)) (Ao (Bb Ac)) Bj) (Aj (Bg (Dv (R5 (Be (Cq hr.units) (Af Bh (Aa 0) Ac) Ac (nomark _)) (Q9 (Be Jm (Aa 0) Ac (nomark _))))) (Ao (Bb (Af Bh (Af Fq (Aa 0) Ac) (Af M3 Ac Ac)))) Bj) (Aj (Bg (Be (Cq hr.units) (Af Bh (Aa 0) Ac) Ac (nomark _)) (Ao (Bb (Af Bh (Af Ex (Aa 1) (Af Ax (Af Fq (Aa 0) Ac) Ac)) (Af M3 Ac Ac)))) Bj) (Ao (Bb (Af Bh (Af Fq (Aa 0) Ac) Ac))))))
theorem ZD5(T:Txt K mg):FnO P w K mg base 1 "_law_pumped" Vv U0:=by
 refine Cp T.U3.F ZHe λcdv A outer s H E hr=>?_
 exact(Ao (Bb (Dk (ZDv rfl) rfl T.ZAs ZC4 (Ad (Bc (K4 rfl (Ga (dn:=(Aw R7).names) (N0:=V8) (N:=["_law_begin","_law_stairs_here"]) (nt:=2) (caps:=[])) (Eg (Aa 0)) (λC s₀ H₀ ex=>(K1 rfl (Dq (Bq 0 (show(["_law_begin","_law_stairs_here"]:List Str).Nodup by decide +kernel)) (Dq (Bq 1 (show(["_law_begin","_law_stairs_here"]:List Str).Nodup by decide +kernel)) Kf)))) (Z1 (J9 (Dn (by decide)) (J9 (Dn (by decide)) Xa))) (λC s₀ H₀ ex=>Hj) (λC s₀ H₀ ex=>(Dk (ZCy rfl) rfl T.ZBT ZCm (Ad (Bc (K4 rfl (ZEg (N:=["_law_height","_law_many","_law_way"]) (nt:=3)) (Eg (Aa 1)) (λC s₀ H₀ ex=>(K1 rfl (Dq (Bq 0 (show(["_law_height","_law_many","_law_way"]:List Str).Nodup by decide +kernel)) (Dq (Bq 1 (show(["_law_height","_law_many","_law_way"]:List Str).Nodup by decide +kernel)) (Dq (Bq 2 (show(["_law_height","_law_many","_law_way"]:List Str).Nodup by decide +kernel)) Kf))))) (Z1 (J9 (Dn (by decide)) (J9 (Dn (by decide)) (J9 (Dn (by decide)) Xa)))) (λC s₀ H₀ ex=>(V9 (Be (Cq hr.units) (Aa 2) Ci (nomark _)))) (λC s₀ H₀ ex=>(Aa 1)))) Ai))))) Ai))))
theorem ZKQ(T:Txt K mg):FnO P w K mg base 2 "_law_stairs" V1 Tj:=by
 refine Cp T.U9.F Ho λcdv A outer s H E hr=>?_
 exact(Aj (Ar 3 Ho.nd (Lk (Dh Ai))) (Aj (Ar 4 Ho.nd Ac) (Aj (Fb PassesOwn.never rfl (Gr rfl T.Gs (Ad (Af Bh (An Am (Aa 0) Ac) Ac) Ai)) (Bq 5 Ho.nd) (Aj (Ar 6 Ho.nd (Af Ax (Aa 4) (Bm (Kr T) T.I8 hr (Ad (An Am (Aa 0) (Af Ax Ac (Af Ex Ac (Aa 5)))) (Ad (Aa 1) Ai))))) (Aj (Ar 7 Ho.nd (Af Ax Ac (Bm (Kr T) T.I8 hr (Ad (An Am (Aa 0) (Af Ax Ac (Af Ex Ac (Aa 5)))) (Ad (Aa 1) Ai))))) (Aj (Ar 8 Ho.nd Ci) (Aj (Bg (Dv (R5 (Ec (Aa 2)) (Q9 (Be (Cq hr.units) (Af Bh (Af Fq (An Am (Aa 0) (Af Ax Ac (Af Ex Ac (Aa 5)))) Ac) Ac) Ac (nomark _))))) (Ao (Ar 8 Ho.nd Ci)) Bj) (Aj (M4 (Oj PySem.F.slot_list_append PySem.F.type_list_append Mv (Aa 3) (Ad (Gm (Ad (Aa 6) (Ad (Aa 7) (Ad (Aa 8) Ai)))) Ai))) (Ao (Ar 4 Ho.nd (Af Ax (Aa 6) (Aa 7)))))))))) (Ao (Bb (Mp Vs rfl T.R6 Tg (Ad (Aa 3) Ai)))))))
theorem ZHX(T:Txt K mg):FnO P w K mg base 3 "_law_rule" Zb Sh:=by
 refine Cp T.U6.F Mz λcdv A outer s H E hr=>?_
 exact(Aj (Ar 4 Mz.nd (Lk (Dh Ai))) (Aj (Ar 5 Mz.nd Ac) (Aj (Fb PassesOwn.never rfl (Gr rfl T.Gs (Ad Ac Ai)) (Bq 6 Mz.nd) (Ao (Bg (Dv (Et (Be (Cq hr.units) (Aa 6) Ac (nomark _)) (G9 (Dv (R5 (Be Jm (Af Bh (An Am (Aa 0) (Aa 6)) Ac) Ac (nomark _)) (Q9 (Be H9 (Aa 5) (Aa 2) (nomark _)))))))) (Aj (M4 (Oj PySem.F.slot_list_append PySem.F.type_list_append Mv (Aa 4) (Ad (Gm (Ad (Aa 5) (Ad (Bm (ZKQ T) T.U9 hr (Ad (Bc (Du (Aa 0) (De (Af Ax Ac (Af Ex Ac (Aa 6)))) (De (Af Ax Ac (Af Ex Ac (Aa 6)))))) (Ad (Aa 1) (Ad (Aa 3) Ai)))) Ai))) Ai))) (Ao (Ar 5 Mz.nd (Af Ax (Af Ax (Aa 5) Ac) (Af Bh (Af Fq (An Am (Aa 0) (Aa 6)) Ac) Ac))))) Bj))) (Ao (Bb (Mp Vs rfl T.R6 Tg (Ad (Aa 4) Ai)))))))
theorem ZFj(T:Txt K mg):FnO P w K mg base 4 "_law_place" Ys Im:=by
 refine Cp T.Ua.F Gw λcdv A outer s H E hr=>?_
 exact(Aj (Ar 5 Gw.nd (Bc (Bm (ZAS T) T.Mw hr (Ad (Aa 4) (Ad (Aa 2) (Ad Ac Ai)))))) (Aj (Ar 6 Gw.nd Ci) (Aj (Bg (Be Jm (Af Bh (An Am (Aa 5) Ac) (Af Hb (Aa 1) (Aa 2))) Ac (nomark _)) (Ao (Ar 6 Gw.nd (An Am (Aa 0) (Af Ax (Aa 2) (Af Bh (An Am (Aa 5) Ac) (Af Hb (Aa 1) (Aa 2))))))) Bj) (Aj (Ar 7 Gw.nd (Gm (Ad (An Am (Aa 0) (Aa 2)) (Ad (Aa 6) (Ad (Af Bh (An Am (Aa 5) Ac) Ac) Ai))))) (Aj (Bg (Be (Cq hr.units) (Af Bh (An Am (Aa 5) Ac) Ac) Ac (nomark _)) (Ao (Bb (Af Ax (Af Ax (Gm (Ad Ci Ai)) (Aa 7)) (Gm (Ad (Bm (Kr T) T.I8 hr (Ad (An Am (Aa 5) Ac) (Ad (Aa 4) Ai))) Ai))))) Bj) (Aj (Bg (Be (Cq hr.units) (Af Bh (An Am (Aa 5) Ac) Ac) Ac (nomark _)) (Ao (Bb (Af Ax (Af Ax (Gm (Ad Ci Ai)) (Aa 7)) (Gm (Ad (Bm (Kr T) T.I8 hr (Ad (An Am (Aa 5) Ac) (Ad (Aa 4) Ai))) (Ad (Bm (Kr T) T.I8 hr (Ad (An Am (Aa 5) Ac) (Ad (Aa 4) Ai))) Ai)))))) Bj) (Aj (Ar 8 Gw.nd (Kw (Fi Jm (Aa 1) Ac (nomark _)) (Lp (Fi Jm (Af Bh (An Am (Aa 5) Ac) Ac) Ac (nomark _))))) (Aj (Ar 9 Gw.nd (Bm (ZHX T) T.U6 hr (Ad (Bc (Du (Aa 5) (De Ac) (De Ac))) (Ad (Aa 4) (Ad (Aa 3) (Ad (Aa 8) Ai)))))) (Aj (Ar 10 Gw.nd Ht) (Aj (Bg (Ec (Aa 8)) (Aj (Ar 11 Gw.nd (Af Bh (Af Ax (Af Ax (Aa 2) Ac) (Af Bh (An Am (Aa 5) Ac) (Af Hb (Aa 1) Ac))) (Aa 1))) (Ao (Ar 10 Gw.nd (Gm (Ad (An Am (Aa 0) (Aa 11)) (Ad (Af Ax Ac (Af Bh (An Am (Aa 5) Ac) Ac)) (Ad (Af Ax (Bm (ZD5 T) T.U3 hr (Ad (Aa 9) Ai)) (Bm (ZGC T) T.Tq hr (Ad (An Am (Aa 5) Ac) Ai))) Ai))))))) Bj) (Ao (Bb (Af Ax (Af Ax (Gm (Ad Ci Ai)) (Aa 7)) (Gm (Ad (Bm (Kr T) T.I8 hr (Ad (An Am (Aa 5) Ac) (Ad (Aa 4) Ai))) (Ad (Aa 9) (Ad (Aa 10) Ai)))))))))))))))))
theorem ZIp(T:Txt K mg):FnO P w K mg base 5 "_law_house" Xr Lr:=by
 refine Cp T.T9.F Mx λcdv A outer s H E hr=>?_
 exact(Aj (Ar 2 Mx.nd (Af Ax Ac (Af Bh (Bm (Mq T) T.Jd hr (Ad (Aa 0) (Ad (Aa 1) Ai))) Ac))) (Aj (Ar 3 Mx.nd (Af Ax Ac (Af Bh (Bm (Mq T) T.Jd hr (Ad (Aa 0) (Ad (Af Ax (Aa 1) Ac) Ai))) Ac))) (Aj (Ar 4 Mx.nd (Bc (Bm (ZDW T) T.N8 hr (Ad (Bm (Mq T) T.Jd hr (Ad (Aa 0) (Ad (Af Ax (Aa 1) Ac) Ai))) Ai)))) (Aj (U7 (Li 5 rfl Mx.nd (Ga (dn:=(Aw Ra).names) (N0:=W2) (N:=["_law_k","_law_script","_law_at","_law_many","_law_year","_law_names_here"]) (nt:=1) (caps:=[0,1,2,3,4])) (Gr rfl T.Gs (Ad (Aa 2) Ai)) (λC s₀ H₀ ex=>(Bq 0 (show(["_law_k","_law_script","_law_at","_law_many","_law_year","_law_names_here"]:List Str).Nodup by decide +kernel))) (Dn (by decide)) (λC s₀ H₀ ex=>Hj) (λC s₀ H₀ ex=>(Bm (ZFj T) T.Ua hr (Ad (Aa 5) (Ad (Aa 3) (Ad (Aa 0) (Ad (Aa 4) (Ad (Bm (Mq T) T.Jd hr (Ad (Aa 1) (Ad (Af Ax (Af Ax (Aa 2) Ac) (Aa 0)) Ai))) Ai))))))))) (Ao (Bb (Gm (Ad (Aa 3) (Ad (Mp Vs rfl T.R6 Tg (Ad (Aa 5) Ai)) Ai)))))))))
theorem ZBS(T:Txt K mg):FnO P w K mg base 1 "_law_whole" Ye Ma:=by
 refine Cp T.Nj.F ZIA λcdv A outer s H E hr=>?_
 exact(Ao (Bb (Kw (Dk Vx rfl T.Do Tz (Ad (Aa 0) (Ad (Z3 rfl T.Uu V2) Ai))) (Lp (ZAf (Dk Vx rfl T.Do Tz (Ad (Aa 0) (Ad (Z3 rfl T.ZIZ ZEA) Ai))))))))
theorem O9(T:Txt K mg):FnX P w K mg base 3 "number_of" Wf Gp:=by
 refine ZHQ T.Iz.F Us λcdv A outer s H E hr=>?_
 exact(Aj (ZFG (Fb ownX rfl (ZJS rfl T.ZDl (Ad (An Am (Aa 0) (Br (v:=(.int 1)) rfl T.Kg ⟨_,rfl⟩ (λ_ _=>rfl))) Ai)) (K1 rfl (Dq (Bq 2 Us.nd) (Dq (Bq 3 Us.nd) Kf))) (Ao (Bg (Be (Cq hr.units) (An Am (Aa 3) (Br (v:=(.int 1)) rfl T.Jx ⟨_,rfl⟩ (λ_ _=>rfl))) (Aa 1) (nomark _)) (Ao (Bb (Aa 2))) Bj)))) (Ao (ZFC T.Bv (ZFO T) T.Qz.b hr (Ad Ht Ai))))
theorem ZF6(T:Txt K mg):FnO P w K mg base 4 "down_of" Xd Qd:=by
 refine Cp T.Rh.F ZCc λcdv A outer s H E hr=>?_
 exact(Aj (Ar 2 ZCc.nd (An Am (An Am (An Am (Aa 0) (Br (v:=(.int 1)) rfl T.Kg ⟨_,rfl⟩ (λ_ _=>rfl))) (Aa 1)) (Br (v:=(.int 2)) rfl T.Oi ⟨_,rfl⟩ (λ_ _=>rfl)))) (Aj (Bg (Be (Cq hr.units) (Aa 2) (Br (v:=(.str "sea")) rfl T.Ob ⟨_,rfl⟩ (λ_ _=>rfl)) (nomark _)) (Ao (Bb Ht)) Bj) (Ao (Bb (Ru (O9 T) T.Iz hr (Ad (Aa 0) (Ad (Aa 2) Ai)))))))
theorem ZCq(T:Txt K mg):FnO P w K mg base 5 "_law_river" W6 Mi:=by
 refine Cp T.Mm.F Xo λcdv A outer s H E hr=>?_
 exact(Aj (Ar 2 Xo.nd (Bm (ZF6 T) T.Rh hr (Ad (Aa 0) (Ad (Aa 1) Ai)))) (Aj (Ar 3 Xo.nd (An Am (Aa 0) Ac)) (Aj (Bg (Be (Cq hr.units) (An Am (An Am (Aa 3) (Aa 1)) Ac) Ci (nomark _)) (Ao (Bb (Fi Rn (Aa 2) Ht (nomark _)))) Bj) (Ao (Bb (Kw (Bm (ZBS T) T.Nj hr (Ad (Aa 2) Ai)) (Kw (Vt H9 H9 (Aa 1) (Aa 2) (Dk Jh rfl T.J8 Iu (Ad (Aa 3) Ai))) (Lp (Fi (Cq hr.units) (An Am (An Am (Aa 3) (Aa 2)) Ac) (An Am (An Am (Aa 3) (Aa 1)) Ac) (nomark _))))))))))
theorem ZJu(T:Txt K mg):FnO P w K mg base 4 "_law_strange" Yl Rg:=by
 refine Cp T.Qg.F Je λcdv A outer s H E hr=>?_
 exact(Aj (Ar 2 Je.nd Ht) (Aj (ZGy T.Bv.N T.Zj T.Wn (O9 T) T.Iz hr (Ad (Aa 0) (Ad (Aa 1) Ai)) Je.nd (λea hr=>(Ao (Ar 2 Je.nd (Aa 3))))) (Aj (Bg (Dv (Et (Dl (Ec (Fj T.Bv.N T.Bv.G T.Do T.Zg T.Zo (Aa 2)))) (Et (Dl (Ec (ZHr T.Bv.N T.Bv.G T.Do T.ZHW (by decide +kernel) T.We (Aa 2)))) (G9 (Be ZFD (ZHl T.Bv (Aa 2)) Ht (nomark _)))))) (Ao (Bb Ei)) Bj) (Aj (Ar 4 Je.nd (Bc (Dh (Ad (Fj T.Bv.N T.Bv.G T.Do T.Uv T.Yp (Aa 2)) (Ad (Fj T.Bv.N T.Bv.G T.Do T.Ux T.Vj (Aa 2)) (Ad (Fj T.Bv.N T.Bv.G T.Do T.Ww T.Wi (Aa 2)) Ai)))))) (Aj (Ar 4 Je.nd (Bc (Af Ax (Aa 4) (Bc (Dh (Ad (Fj T.Bv.N T.Bv.G T.Do T.Wu T.Yu (Aa 2)) (Ad (Fj T.Bv.N T.Bv.G T.Do T.Wr T.Ub (Aa 2)) (Ad (Fj T.Bv.N T.Bv.G T.Do T.V5 T.Vu (Aa 2)) Ai)))))))) (Aj (Ar 4 Je.nd (Bc (Af Ax (Aa 4) (Bc (Dh (Ad (Fj T.Bv.N T.Bv.G T.Do T.Zm T.Yh (Aa 2)) (Ad (Fj T.Bv.N T.Bv.G T.Do T.Yn T.Zi (Aa 2)) (Ad (Fj T.Bv.N T.Bv.G T.Do T.W3 T.Vw (Aa 2)) Ai)))))))) (Aj (Ar 4 Je.nd (Bc (Af Ax (Aa 4) (Bc (Dh (Ad (Fj T.Bv.N T.Bv.G T.Do T.Vg T.V4 (Aa 2)) (Ad (Fj T.Bv.N T.Bv.G T.Do T.Xk T.Wl (Aa 2)) (Ad (Fj T.Bv.N T.Bv.G T.Do T.Vd T.Zk (Aa 2)) Ai)))))))) (Ao (Bb (ZAf (Dk (ZGv rfl) rfl T.ZJk ZJ9 (Ad (Aa 4) Ai))))))))))))
theorem ZJO(T:Txt K mg):FnO P w K mg base 1 "is_name" Wc Qs:=by
 refine Cp T.Th.F ZJc λcdv A outer s H E hr=>?_
 exact(Aj (Bg (Dv (Et (Be (Cq hr.units) (Aa 0) (Br (v:=(.str "sea")) rfl T.Ob ⟨_,rfl⟩ (λ_ _=>rfl)) (nomark _)) (G9 (Dl (Sq Gj Gj Ac (Dk Jh rfl T.J8 Iu (Ad (Aa 0) Ai)) Ac))))) (Ao (Bb Ei)) Bj) (Ao (Bb (Dk (ZEU rfl) rfl T.ZG2 ZFn (Ad (Bc (K4 rfl (Ga (dn:=(Aw T8).names) (N0:=Z9) (N:=["sign"]) (nt:=1) (caps:=[])) (Eg (Aa 0)) (λC s₀ H₀ ex=>(Bq 0 (show(["sign"]:List Str).Nodup by decide +kernel))) (Dn (by decide)) (λC s₀ H₀ ex=>Hj) (λC s₀ H₀ ex=>(Fi U4 (Aa 0) (Br (v:=(.str "abcdefghijklmnopqrstuvwxyz")) rfl T.Wb ⟨_,rfl⟩ (λ_ _=>rfl)) (by with_unfolding_all rfl))))) Ai)))))
theorem ZIC(T:Txt K mg):FnO P w K mg base 1 "is_pump_good" Wg Ry:=by
 refine Cp T.T4.F ZEZ λcdv A outer s H E hr=>?_
 exact(Aj (Bg (Be Rn (Aa 0) Ht (nomark _)) (Ao (Bb Ei)) Bj) (Ao (Bb (Kw (Fi U4 (An Am (Aa 0) (Br (v:=(.int 0)) rfl T.Vm ⟨_,rfl⟩ (λ_ _=>rfl))) (Aa 1) (by with_unfolding_all rfl)) (Lp (Vt Gj Gj Ac (An Am (Aa 0) (Br (v:=(.int 1)) rfl T.Ug ⟨_,rfl⟩ (λ_ _=>rfl))) Ac))))))
theorem ZEM(T:Txt K mg):FnO P w K mg base 1 "is_river_good" Wo Qe:=by
 refine Cp T.R4.F ZHa λcdv A outer s H E hr=>?_
 exact(Ao (Bb (Kw (ZG4 (Fi (Cq hr.units) (An Am (Aa 0) (Br (v:=(.int 2)) rfl T.Oi ⟨_,rfl⟩ (λ_ _=>rfl))) (Br (v:=(.str "sea")) rfl T.Ob ⟨_,rfl⟩ (λ_ _=>rfl)) (nomark _)) (Lp (Fi U4 (An Am (Aa 0) (Br (v:=(.int 2)) rfl T.Oi ⟨_,rfl⟩ (λ_ _=>rfl))) (Aa 1) (by with_unfolding_all rfl)))) (Lp (Vt Gj Gj Ac (An Am (Aa 0) (Br (v:=(.int 3)) rfl T.Xh ⟨_,rfl⟩ (λ_ _=>rfl))) Ac)))))
theorem ZGR(T:Txt K mg):FnO P w K mg base 1 "are_seasons_good" Xp Mu:=by
 refine Cp T.S8.F Ng λcdv A outer s H E hr=>?_
 exact(Aj (Bg (Dv (Et (Be (Cq hr.units) (Dk Jh rfl T.J8 Iu (Ad (Aa 0) Ai)) Ac (nomark _)) (G9 (Be (Oq hr.units) (An Am (An Am (Aa 0) Ac) Ac) Ac (nomark _))))) (Ao (Bb Ei)) Bj) (Aj (Ar 2 Ng.nd (ZKB ZJp Ac)) (Aj (Fb PassesOwn.never rfl (Eg (Aa 0)) (K1 rfl (Dq (Bq 3 Ng.nd) (Dq (Bq 4 Ng.nd) Kf))) (Aj (Bg (Dl (Sq H9 H9 (Aa 2) (Aa 3) (Aa 1))) (Ao (Bb Ei)) Bj) (Ao (Ar 2 Ng.nd (Aa 3))))) (Ao (Bb Ei)))))
theorem ZFI(T:Txt K mg):FnO P w K mg base 1 "are_steps_good" Yq Lq:=by
 refine Cp T.Tv.F Ks λcdv A outer s H E hr=>?_
 exact(Aj (Ar 1 Ks.nd Ac) (Aj (Fb PassesOwn.never rfl (Eg (Aa 0)) (K1 rfl (Dq (Bq 2 Ks.nd) (Dq (Bq 3 Ks.nd) (Dq (Bq 4 Ks.nd) Kf)))) (Aj (Bg (Dv (Et (Be H9 (Aa 2) (Aa 1) (nomark _)) (G9 (Be H9 (Aa 3) Ac (nomark _))))) (Ao (Bb Ei)) Bj) (Ao (Ar 1 Ks.nd (Af Ax (Aa 2) (Aa 3)))))) (Ao (Bb Ei))))
theorem ZKU(T:Txt K mg):FnO P w K mg base 1 "can_pump" Yv Jf:=by
 refine Cp T.Sw.F ZB7 λcdv A outer s H E hr=>?_
 exact(Aj (U7 (Li 2 rfl ZB7.nd (Ga (dn:=(Aw Pu).names) (N0:=Ue) (N:=["height","many","way"]) (nt:=3) (caps:=[])) (Eg (Aa 0)) (λC s₀ H₀ ex=>(K1 rfl (Dq (Bq 0 (show(["height","many","way"]:List Str).Nodup by decide +kernel)) (Dq (Bq 1 (show(["height","many","way"]:List Str).Nodup by decide +kernel)) (Dq (Bq 2 (show(["height","many","way"]:List Str).Nodup by decide +kernel)) Kf))))) (Z1 (J9 (Dn (by decide)) (J9 (Dn (by decide)) (J9 (Dn (by decide)) Xa)))) (λC s₀ H₀ ex=>(V9 (Be (Cq hr.units) (Aa 2) Ci (nomark _)))) (λC s₀ H₀ ex=>(Aa 1)))) (Aj (Bg (Be Rn (Aa 1) Ht (nomark _)) (Ao (Bb (Fi (Cq hr.units) (Dk Jh rfl T.J8 Iu (Ad (Aa 2) Ai)) Ac (nomark _)))) Bj) (Ao (Bb (Fi Gj (Dk (ZCy rfl) rfl T.ZBT ZCm (Ad (Aa 2) Ai)) (An Am (Aa 1) (Br (v:=(.int 2)) rfl T.Ti ⟨_,rfl⟩ (λ_ _=>rfl))) (nomark _))))))
theorem ZIc(T:Txt K mg):FnO P w K mg base 2 "is_rule_good" Vl Qq:=by
 refine Cp T.Qw.F Vc λcdv A outer s H E hr=>?_
 exact(Aj (Bg (Dl (Ec (Bm (ZGR T) T.S8 hr (Ad (Aa 0) (Ad (Aa 2) Ai))))) (Ao (Bb Ei)) Bj) (Aj (Fb PassesOwn.never rfl (Eg (Aa 0)) (K1 rfl (Dq (Bq 3 Vc.nd) (Dq (Bq 4 Vc.nd) Kf))) (Ao (Bg (Dv (Et (Dl (Ec (Bm (ZFI T) T.Tv hr (Ad (Aa 4) Ai)))) (G9 (Dl (Ec (Bm (ZKU T) T.Sw hr (Ad (Aa 4) (Ad (Aa 1) Ai)))))))) (Ao (Bb Ei)) Bj))) (Ao (Bb Ei))))
theorem ZHS(T:Txt K mg):FnO P w K mg base 1 "numbers_in" Yi Ka:=by
 refine Cp T.Rr.F ZJs λcdv A outer s H E hr=>?_
 exact(Aj (Bg (Be (Cq hr.units) (An Am (Aa 0) (Br (v:=(.int 0)) rfl T.Oa ⟨_,rfl⟩ (λ_ _=>rfl))) Ci (nomark _)) (Ao (Bb (Dh (Ad (An Am (Aa 0) (Br (v:=(.int 4)) rfl T.Xj ⟨_,rfl⟩ (λ_ _=>rfl))) (Ad (An Am (Aa 0) (Br (v:=(.int 5)) rfl T.Y6 ⟨_,rfl⟩ (λ_ _=>rfl))) Ai))))) Bj) (Aj (Bg (Be (Cq hr.units) (An Am (Aa 0) (Br (v:=(.int 0)) rfl T.Oa ⟨_,rfl⟩ (λ_ _=>rfl))) Ci (nomark _)) (Ao (Bb (Dh (Ad (An Am (Aa 0) (Br (v:=(.int 4)) rfl T.Wj ⟨_,rfl⟩ (λ_ _=>rfl))) Ai)))) Bj) (Aj (Bg (Be Rn (An Am (Aa 0) (Br (v:=(.int 6)) rfl T.Lf ⟨_,rfl⟩ (λ_ _=>rfl))) Ht (nomark _)) (Ao (Bb (Dh (Ad (An Am (Aa 0) (Br (v:=(.int 4)) rfl T.Rj ⟨_,rfl⟩ (λ_ _=>rfl))) Ai)))) Bj) (Ao (Bb (Dh (Ad (An Am (Aa 0) (Br (v:=(.int 4)) rfl T.Rj ⟨_,rfl⟩ (λ_ _=>rfl))) (Ad (An Am (An Am (Aa 0) (Br (v:=(.int 6)) rfl T.Lf ⟨_,rfl⟩ (λ_ _=>rfl))) (Br (v:=(.int 2)) rfl T.Ti ⟨_,rfl⟩ (λ_ _=>rfl))) Ai))))))))
theorem ZIr(T:Txt K mg):FnO P w K mg base 3 "check_place" Uk K9:=by
 refine Cp T.Rk.F Mj λcdv A outer s H E hr=>?_
 exact(Aj (Ar 2 Mj.nd (An Am (Aa 0) (Br (v:=(.int 1)) rfl T.Kg ⟨_,rfl⟩ (λ_ _=>rfl)))) (Aj (Ar 3 Mj.nd (An Am (Aa 2) (Aa 1))) (Aj (U7 (Li 4 rfl Mj.nd (Ga (dn:=(Aw N6).names) (N0:=Sv) (N:=["other"]) (nt:=1) (caps:=[])) (Eg (Bc (Du (Aa 2) Ge (De (Aa 1))))) (λC s₀ H₀ ex=>(Bq 0 (show(["other"]:List Str).Nodup by decide +kernel))) (Dn (by decide)) (λC s₀ H₀ ex=>Hj) (λC s₀ H₀ ex=>(An Am (Aa 0) (Br (v:=(.int 1)) rfl T.Jx ⟨_,rfl⟩ (λ_ _=>rfl)))))) (Aj (U7 (Li 5 rfl Mj.nd (Ga (dn:=(Aw N6).names) (N0:=Sv) (N:=["other"]) (nt:=1) (caps:=[])) (Eg (Bc (Du (Aa 2) (De (Af Ax (Aa 1) Ac)) Ge))) (λC s₀ H₀ ex=>(Bq 0 (show(["other"]:List Str).Nodup by decide +kernel))) (Dn (by decide)) (λC s₀ H₀ ex=>Hj) (λC s₀ H₀ ex=>(An Am (Aa 0) (Br (v:=(.int 1)) rfl T.Jx ⟨_,rfl⟩ (λ_ _=>rfl)))))) (Aj (Bg (Dv (Et (Dl (Ec (Bm (ZJO T) T.Th hr (Ad (An Am (Aa 3) (Br (v:=(.int 1)) rfl T.Jx ⟨_,rfl⟩ (λ_ _=>rfl))) Ai)))) (G9 (Be U4 (An Am (Aa 3) (Br (v:=(.int 1)) rfl T.Jx ⟨_,rfl⟩ (λ_ _=>rfl))) (Aa 4) (by with_unfolding_all rfl))))) (Ao La) Bj) (Aj (Bg (Dl (Ec (Bm (ZEM T) T.R4 hr (Ad (Aa 3) (Ad (Aa 5) Ai))))) (Ao La) Bj) (Aj (Bg (Be H9 (Dk (ZHH rfl) rfl T.ZJr ZIt (Ad (Bc (Bm (ZHS T) T.Rr hr (Ad (Aa 3) Ai))) Ai)) Ac (nomark _)) (Ao La) Bj) (Ao (Bg (Be (Cq hr.units) (An Am (Aa 3) (Br (v:=(.int 0)) rfl T.Oa ⟨_,rfl⟩ (λ_ _=>rfl))) Ci (nomark _)) (Aj (Bg (Dl (Ec (Bm (ZIC T) T.T4 hr (Ad (An Am (Aa 3) (Br (v:=(.int 6)) rfl T.Lf ⟨_,rfl⟩ (λ_ _=>rfl))) (Ad (Af Ax (Aa 4) (Aa 5)) Ai))))) (Ao La) Bj) (Ao (Bg (Dl (Ec (Bm (ZIc T) T.Qw hr (Ad (An Am (Aa 3) (Br (v:=(.int 5)) rfl T.Yo ⟨_,rfl⟩ (λ_ _=>rfl))) (Ad (An Am (Aa 3) (Br (v:=(.int 6)) rfl T.Lf ⟨_,rfl⟩ (λ_ _=>rfl))) (Ad (An Am (Aa 0) (Br (v:=(.int 0)) rfl T.Ox ⟨_,rfl⟩ (λ_ _=>rfl))) Ai)))))) (Ao La) Bj))) Bj)))))))))
theorem ZFg(T:Txt K mg):FnO P w K mg base 4 "checked" Yg Pb:=by
 refine Cp T.Qk.F Um λcdv A outer s H E hr=>?_
 exact(Aj (Ar 1 Um.nd (An Am (Aa 0) (Br (v:=(.int 1)) rfl T.Kg ⟨_,rfl⟩ (λ_ _=>rfl)))) (Aj (Bg (Dv (Et (Dl (Sq Gj Gj Ac (An Am (Aa 0) (Br (v:=(.int 0)) rfl T.Ox ⟨_,rfl⟩ (λ_ _=>rfl))) Ac)) (G9 (Dl (Sq Gj Gj Ac (Dk Jh rfl T.J8 Iu (Ad (Aa 1) Ai)) Ac))))) (Ao La) Bj) (Aj (Fb PassesOwn.never rfl (Gr rfl T.Gs (Ad (Dk Jh rfl T.J8 Iu (Ad (Aa 1) Ai)) Ai)) (Bq 2 Um.nd) (Ao (M4 (Bm (ZIr T) T.Rk hr (Ad (Aa 0) (Ad (Aa 2) Ai)))))) (Ao (Bb (Aa 0))))))
theorem ZJC(T:Txt K mg):FnO P w K mg base 6 "law" Yj Kc:=by
 refine Cp T.Oe.F Ie λcdv A outer s H E hr=>?_
 exact(Aj (Ar 1 Ie.nd (Bm (ZIp T) T.T9 hr (Ad (Aa 0) (Ad Ac Ai)))) (Aj (Ar 2 Ie.nd (Bc (Bm (ZDW T) T.N8 hr (Ad (Bm (Mq T) T.Jd hr (Ad (Aa 0) (Ad Ac Ai))) Ai)))) (Aj (Ar 3 Ie.nd (Dk Jh rfl T.J8 Iu (Ad (An Am (Aa 1) Ac) Ai))) (Aj (Ar 4 Ie.nd (Bm (ZFg T) T.Qk hr (Ad (Aa 1) Ai))) (Aj (Bg (Dv (Et (Dl (Ec (Dk Vx rfl T.Do Tz (Ad (Aa 4) (Ad (Z3 rfl T.R6 Tg) Ai))))) (G9 (Be (Oq hr.units) (Aa 4) (Aa 1) (nomark _))))) (Ao (Bb Ei)) Bj) (Aj (Fb PassesOwn.never rfl (Gr rfl T.Gs (Ad (Aa 3) Ai)) (Bq 5 Ie.nd) (Aj (Ar 6 Ie.nd (Ru (O9 T) T.Iz hr (Ad (Aa 1) (Ad (An Am (Aa 2) (Aa 5)) Ai)))) (Ao (Bg (Dv (Et (Dl (Ec (Bm (ZBS T) T.Nj hr (Ad (Aa 6) Ai)))) (Et (Be (Oq hr.units) (Aa 6) (Aa 5) (nomark _)) (G9 (Dl (Ec (Bm (ZCq T) T.Mm hr (Ad (Aa 1) (Ad (Aa 5) Ai))))))))) (Ao (Bb Ei)) Bj)))) (Aj (Fb PassesOwn.never rfl (Gr rfl T.Gs (Ad (Aa 3) Ai)) (Bq 5 Ie.nd) (Ao (Bg (Dv (Et (Be (Oq hr.units) (Ru (O9 T) T.Iz hr (Ad (Aa 1) (Ad (An Am (Aa 2) (Af Hb (Af Hb (Aa 3) Ac) (Aa 5))) Ai))) (Af Hb (Af Hb (Aa 3) Ac) (Aa 5)) (nomark _)) (G9 (Dl (Ec (Bm (ZCq T) T.Mm hr (Ad (Aa 1) (Ad (Af Hb (Af Hb (Aa 3) Ac) (Aa 5)) Ai)))))))) (Ao (Bb Ei)) Bj))) (Aj (Fb PassesOwn.never rfl (Eg (Bc (Af Ax (Bc (Du (Aa 2) (De (Aa 3)) Ge)) (Bc (Dh (Ad Ci (Ad Ci (Ad (Af Ax (An Am (Aa 2) Ac) Ci) Ai)))))))) (Bq 7 Ie.nd) (Ao (Bg (Dl (Ec (Bm (ZJu T) T.Qg hr (Ad (Aa 1) (Ad (Aa 7) Ai))))) (Ao (Bb Ei)) Bj))) (Ao (Bb (Fi (Cq hr.units) (Ru (O9 T) T.Iz hr (Ad (Aa 1) (Ad (An Am (Aa 2) Ac) Ai))) Ac (nomark _))))))))))))
end
def asks:List Ask:=[.fn "_law_cell_at" Uj,.fn "_law_free_names" Nh,.fn "_law_stream" Ze,.fn "_law_names" K6,.fn "_law_more" Wk,.fn "_law_number" Ym,.fn "_law_pumped" R7,.fn "_law_stairs" Yd,.fn "_law_rule" W0,.fn "_law_place" Wt,.fn "_law_house" Ra,.fn "_law_whole" Yz,.fn "number_of" Vi,.fn "down_of" Yk,.fn "_law_river" Wv,.fn "_law_strange" Y4,.fn "is_name" T8,.fn "is_pump_good" Uo,.fn "is_river_good" Xl,.fn "are_seasons_good" Wy,.fn "are_steps_good" W5,.fn "can_pump" Pu,.fn "is_rule_good" V3,.fn "numbers_in" Wm,.fn "check_place" N6,.fn "checked" Vk,.fn "law" G8,.z "ValueError",.z "all",.z "any",.z "bool",.z "enumerate",.z "int",.z "isinstance",.z "len",.z "max",.z "min",.z "range",.z "sum",.z "tuple",.gi "BRIM" 4,.gi "DELAY" 3,.gi "DOWN" 2,.gi "KIND" 0,.gs "LETTERS" "abcdefghijklmnopqrstuvwxyz",.gi "MOST" 4,.gi "NAME" 1,.gi "NEED" 4,.gi "PLACES" 1,.gi "PUMP" 6,.gi "PUMP_DELAY" 1,.gi "PUMP_MOST" 2,.gi "PUMP_TO" 0,.gi "RANK" 5,.gi "RULE" 5,.gs "SEA" "sea",.gi "YEAR" 0,.mt "NoName" "__init__" "NoName.__init__" Y0,.ck (Wz "NoName" "place"),.ck (Ur "WaterError"),.ck (λK=>gOk K "NoAsk"),.ck (λK=>gOk K "NoBounds"),.ck (λK=>gOk K "NoHouse"),.ck (λK=>gOk K "NoLevel"),.ck (λK=>gOk K "NoName"),.ck (λK=>gOk K "NoNumber"),.ck (λK=>gOk K "NoPump"),.ck (λK=>gOk K "NoRiver"),.ck (λK=>gOk K "NoRow"),.ck (λK=>gOk K "NoRule"),.ck (λK=>gOk K "NoText"),.ck (λK=>gOk K "NoWay"),.ck (λK=>gOk K "TooLong"),.ck (λK=>gOk K "WaterError"),.ck (λK=>takes K (Ae K "NoName") (Ae K "WaterError")),.ck (λK=>Bt (PySem.W.kitOne K (.ref (Ae K "NoName")) (.ref (Ae K "NoAsk"))) xH),.ck (λK=>Bt (PySem.W.kitOne K (.ref (Ae K "NoName")) (.ref (Ae K "NoBounds"))) xH),.ck (λK=>Bt (PySem.W.kitOne K (.ref (Ae K "NoName")) (.ref (Ae K "NoHouse"))) xH),.ck (λK=>Bt (PySem.W.kitOne K (.ref (Ae K "NoName")) (.ref (Ae K "NoLevel"))) xH),.ck (λK=>Bt (PySem.W.kitOne K (.ref (Ae K "NoName")) (.ref (Ae K "NoName"))) xG),.ck (λK=>Bt (PySem.W.kitOne K (.ref (Ae K "NoName")) (.ref (Ae K "NoNumber"))) xH),.ck (λK=>Bt (PySem.W.kitOne K (.ref (Ae K "NoName")) (.ref (Ae K "NoPump"))) xH),.ck (λK=>Bt (PySem.W.kitOne K (.ref (Ae K "NoName")) (.ref (Ae K "NoRiver"))) xH),.ck (λK=>Bt (PySem.W.kitOne K (.ref (Ae K "NoName")) (.ref (Ae K "NoRow"))) xH),.ck (λK=>Bt (PySem.W.kitOne K (.ref (Ae K "NoName")) (.ref (Ae K "NoRule"))) xH),.ck (λK=>Bt (PySem.W.kitOne K (.ref (Ae K "NoName")) (.ref (Ae K "NoText"))) xH),.ck (λK=>Bt (PySem.W.kitOne K (.ref (Ae K "NoName")) (.ref (Ae K "NoWay"))) xH),.ck (λK=>Bt (PySem.W.kitOne K (.ref (Ae K "NoName")) (.ref (Ae K "TooLong"))) xH),.ck (λK=>Bt (PySem.W.kitOne K (.ref (Ae K "NoName")) (.type "ValueError")) xG)]
theorem all_mk{l:PySem.W.OpenLaw}{w:j6}{K:PySem.W.Frag}{h:Heap}{mg:Str->Option j5}{fa:jx}(X:K.In h)(G:h.Ns jR mg)(hfa:mg "law"=xE (.ref fa))(S:AllSaid K asks):
  ∃fd:jy,(∀(s:j3)(v:j5),BindsTo s fd ⟨[v],[]⟩ [("_law_script",v)])/\∀base:Heap,K.In base->base.Ns jR mg->FnOk l.prog w K mg base CX0 6 fa fd ["_law_script"] (lF K Kc):=by
 obtain⟨Jd,Tt,Mw,N8,Tq,I8,U3,U9,U6,Ua,T9,Nj,Iz,Rh,Mm,Qg,Th,T4,R4,S8,Tv,Sw,Qw,Rr,Rk,Qk,Oe,ZKW,ZKX,ZKY,ZKZ,ZKa,ZKb,ZKc,ZKd,ZKe,ZKf,ZKg,ZKh,ZKi,Rj,Xh,Oi,Oa,Wb,Wj,Jx,Xj,Kg,Lf,Ug,Ti,Vm,Y6,Yo,Ob,Ox,Qz,Bv,Xw,Uv,Ux,Ww,Wu,Zg,Wr,V5,Zm,Yn,W3,Vg,Xk,Vd,Wn,Zj,Yp,Vj,Wi,Yu,Zo,Ub,Vu,Yh,Zi,Vw,V4,Wl,Zk,We,_⟩:=S
 have T:Txt K mg:=⟨Cg X G Jd (λ_ _ _ _ _ _ us hl=>match us,hl with |[_,_],_=>rfl),
  Cg X G Tt (λ_ _ _ _ _ _ us hl=>match us,hl with |[_],_=>rfl),
  Cg X G Mw (λ_ _ _ _ _ _ us hl=>match us,hl with |[_,_,_],_=>rfl),
  Cg X G N8 (λ_ _ _ _ _ _ us hl=>match us,hl with |[_],_=>rfl),
  Cg X G Tq (λ_ _ _ _ _ _ us hl=>match us,hl with |[_],_=>rfl),
  Cg X G I8 (λ_ _ _ _ _ _ us hl=>match us,hl with |[_,_],_=>rfl),
  Cg X G U3 (λ_ _ _ _ _ _ us hl=>match us,hl with |[_],_=>rfl),
  Cg X G U9 (λ_ _ _ _ _ _ us hl=>match us,hl with |[_,_,_],_=>rfl),
  Cg X G U6 (λ_ _ _ _ _ _ us hl=>match us,hl with |[_,_,_,_],_=>rfl),
  Cg X G Ua (λ_ _ _ _ _ _ us hl=>match us,hl with |[_,_,_,_,_],_=>rfl),
  Cg X G T9 (λ_ _ _ _ _ _ us hl=>match us,hl with |[_,_],_=>rfl),
  Cg X G Nj (λ_ _ _ _ _ _ us hl=>match us,hl with |[_],_=>rfl),
  Cg X G Iz (λ_ _ _ _ _ _ us hl=>match us,hl with |[_,_],_=>rfl),
  Cg X G Rh (λ_ _ _ _ _ _ us hl=>match us,hl with |[_,_],_=>rfl),
  Cg X G Mm (λ_ _ _ _ _ _ us hl=>match us,hl with |[_,_],_=>rfl),
  Cg X G Qg (λ_ _ _ _ _ _ us hl=>match us,hl with |[_,_],_=>rfl),
  Cg X G Th (λ_ _ _ _ _ _ us hl=>match us,hl with |[_],_=>rfl),
  Cg X G T4 (λ_ _ _ _ _ _ us hl=>match us,hl with |[_,_],_=>rfl),
  Cg X G R4 (λ_ _ _ _ _ _ us hl=>match us,hl with |[_,_],_=>rfl),
  Cg X G S8 (λ_ _ _ _ _ _ us hl=>match us,hl with |[_,_],_=>rfl),
  Cg X G Tv (λ_ _ _ _ _ _ us hl=>match us,hl with |[_],_=>rfl),
  Cg X G Sw (λ_ _ _ _ _ _ us hl=>match us,hl with |[_,_],_=>rfl),
  Cg X G Qw (λ_ _ _ _ _ _ us hl=>match us,hl with |[_,_,_],_=>rfl),
  Cg X G Rr (λ_ _ _ _ _ _ us hl=>match us,hl with |[_],_=>rfl),
  Cg X G Rk (λ_ _ _ _ _ _ us hl=>match us,hl with |[_,_],_=>rfl),
  Cg X G Qk (λ_ _ _ _ _ _ us hl=>match us,hl with |[_],_=>rfl),
  Cg X G Oe (λ_ _ _ _ _ _ us hl=>match us,hl with |[_],_=>rfl),
  PySem.W.mg_none_of X G ZKW,
  PySem.W.mg_none_of X G ZKX,
  PySem.W.mg_none_of X G ZKY,
  PySem.W.mg_none_of X G ZKZ,
  PySem.W.mg_none_of X G ZKa,
  PySem.W.mg_none_of X G ZKb,
  PySem.W.mg_none_of X G ZKc,
  PySem.W.mg_none_of X G ZKd,
  PySem.W.mg_none_of X G ZKe,
  PySem.W.mg_none_of X G ZKf,
  PySem.W.mg_none_of X G ZKg,
  PySem.W.mg_none_of X G ZKh,
  PySem.W.mg_none_of X G ZKi,
  PySem.W.mg_of X G Rj,
  PySem.W.mg_of X G Xh,
  PySem.W.mg_of X G Oi,
  PySem.W.mg_of X G Oa,
  PySem.W.mg_of X G Wb,
  PySem.W.mg_of X G Wj,
  PySem.W.mg_of X G Jx,
  PySem.W.mg_of X G Xj,
  PySem.W.mg_of X G Kg,
  PySem.W.mg_of X G Lf,
  PySem.W.mg_of X G Ug,
  PySem.W.mg_of X G Ti,
  PySem.W.mg_of X G Vm,
  PySem.W.mg_of X G Y6,
  PySem.W.mg_of X G Yo,
  PySem.W.mg_of X G Ob,
  PySem.W.mg_of X G Ox,
  ZHR Qz (λ_ _ _ _ _ _ us hl=>match us,hl with |[_,_],_=>rfl),
  ZHL X G Bv,
  ZJT X G Xw,
  Ep X G Uv,
  Ep X G Ux,
  Ep X G Ww,
  Ep X G Wu,
  Ep X G Zg,
  Ep X G Wr,
  Ep X G V5,
  Ep X G Zm,
  Ep X G Yn,
  Ep X G W3,
  Ep X G Vg,
  Ep X G Xk,
  Ep X G Vd,
  Ep X G Wn,
  Zj,
  Yp,
  Vj,
  Wi,
  Yu,
  Zo,
  Ub,
  Vu,
  Yh,
  Zi,
  Vw,
  V4,
  Wl,
  Zk,
  We⟩
 have eL:mg "law"=xE (.ref (Ae K "law")):=PySem.W.mg_of X G Oe.1;obtain rfl:fa=Ae K "law":=by rw[hfa]at eL;cases eL;rfl
 exact⟨_,λs v=>ZH1 (Nx Oe.2),λbase _ _=>ZJC T⟩
theorem walk{l:PySem.W.OpenLaw}{q:j1}{loose:List Str}{XP:(Str->Option j5)->Heap->Prop}{YP:j6->Heap->Prop}{d:DefRec}{K:j6->PySem.W.Frag}(hn:l.most=xE 63)(hdf:d.params.defaults=[])(HH:Holds)
  (hY:∀(w:j6)(h:Heap),YP w h->(K w).In h)
  (F:∀(w:j6)(mg:Str->Option j5)(fa:jx)(h:Heap),(K w).In h->h.Ns jR mg->mg d.name=xE (.ref fa)->
   ∃fd:jy,(∀(s:j3)(u:j5),BindsTo s fd ⟨[u],[]⟩ [("_law_script",u)])/\∀base:Heap,(K w).In base->base.Ns jR mg->FnOk l.prog w (K w) mg base CX0 6 fa fd ["_law_script"] (lF (K w) Kc)):
  PySem.W.WalkO q loose XP YP l.row.toRowW d [] (λf vs=>PySem.call f vs):=
 ZEl (n:=63) (k:=6) (x:="_law_script") (CX:=λ_=>CX0) (sp:=λw=>lF (K w) Kc) hn (by decide) hdf ⟨rfl,by decide,by decide⟩ hY F
  (λw H a ns hl hbt hO hS=>by
   obtain⟨G,hG⟩:=HH ns hl hbt;refine⟨⟨K w,0,λ_=>0,H⟩,[],[.fl (ns.map D.int)],rfl,rfl,⟨rfl,λi j h=>absurd h (Nat.not_lt_zero _),λi o h=>by simp at h,λi h=>absurd h (Nat.not_lt_zero _)⟩,Reps.cons ⟨a,ns.map V.int,rfl,?_,Reps.ints ns⟩ Reps.nil,?_⟩
   ·rcases hS with(hS|hS)|hS
    ·rcases hO a with z|⟨o,xs,z⟩
     ·rw[z]at hS;cases hS
     ·rw[z]at hS;cases hS
    ·exact .inl hS
    ·exact .inr hS
   ·rw[hG];exact λb v _ _ r=>r) λ_ _ _ _ _ z=>z
end _W
set_option maxRecDepth 100000
namespace _W
open PySem PySem.W _L _D
abbrev rw_:OpenLaw:=PySem.Challenge.rw_sluiceway_k02_rivers_of_a_house
abbrev pw:j1:=OpenLaw.prog PySem.Challenge.rw_sluiceway_k02_rivers_of_a_house
def vw:j1:=view pw (zx 61)
theorem ZJw:∀w os,(Xq pw w os).map (λs=>(Yc pw w s.abs,PySem.W.Fast.tw4187177175401517315 vw [] (PySem.W.Fast.tw5923862056798008813 pw.main.body) (XtOf rw_ vw) xG s.abs,Vy asks s.abs.heap))=xE (xG,openGood vw [],Vz asks):=λw os=>by kernel_rfl
theorem ZBy:∀w,(openEnds xZ pw w 100000).map (λs=>(openSeen vw [] (jG pw.main.body) (XtOf rw_ vw) xG s,Vy asks s.heap))=xE (openGood vw [],Vz asks):=ZIU (by kernel_rfl) (λs=>rfl) ZJw
theorem well:rw_.wellSaid=xG:=ZGN (by kernel_rfl)
theorem hdef:defOf vw rw_.row.name=xE (dOf G8,[]):=by kernel_rfl
theorem hp:rw_.row.prog.theDef rw_.row.name=xE ((dOf G8).params,(dOf G8).body,(dOf G8).scope):=by kernel_rfl
theorem hk:kwWritten? (dOf G8).params.kwonlyargs (dOf G8).params.kw_defaults=xE []:=by kernel_rfl
theorem hok:(chainsOk vw&&opensWell rw_.row.prog&&(frees rw_.row.toRowW&&rw_.row.within.isEmpty))=xG:=by kernel_rfl
theorem hdf:(dOf G8).params.defaults=[]:=by kernel_rfl
theorem hbare:rw_.row.prog.bare:=⟨rfl,rfl,rfl,rfl,rfl,by decide +kernel⟩
theorem hw:rw_.row.toRowW.promised:=by w_witness2
theorem walked:WalkO vw [] (XL vw []) (Stays rw_.prog 100000) rw_.row.toRowW (dOf G8) [] λf vs=>PySem.call f vs:=
 walk (l:=rw_) (K:=λw=>Nu (Ih pw 100000 w)) rfl hdf holds (λw h Y=>Y.in) λw mg fa h KX G hmg=>all_mk KX G (show mg "law"=_ from hmg) (ZBk (ZI0 ZBy w))
end _W
open PySem PySem.W PyProof.Rows _D
theorem PySem.Challenge.cw_sluiceway_k02_rivers_of_a_house_holds : PySem.Challenge.rw_sluiceway_k02_rivers_of_a_house.Holds := by
 refine holds_top (l:=_W.rw_) (q:=_W.vw) (loose:=[]) (N:=100000) (see:=Vy _W.asks) (val:=Vz _W.asks) (d:=dOf _W.G8) ?_ ?_ ?_ ?_ ?_ ?_ ?_ ?_ ?_ ?_
 ·exact _W.well
 ·exact _W.ZBy
 ·exact _W.hdef
 ·exact _W.hp
 ·exact _W.hk
 ·rfl
 ·exact _W.hok
 ·exact _W.hbare
 ·exact _W.hw
 ·exact _W.walked
