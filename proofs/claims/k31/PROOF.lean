import PyProof.Rows.All
import Wide.All
import OpenK.AllK
import Wide.FinOn
import Lean
import PyProof.EqAt
import PyProof.EqKinds
import PyProof.TupleCall
import PyProof.NeKinds
import PyProof.IsInstanceH
import PyProof.SumWalkG
import PyProof.ConsumeWalk
import PyProof.IsiNone
import PyProof.WalksMore
import PyProof.PlainList
import PyProof.CompFree
import KE.KIntText
import PyProof.DictTable
import PyProof.ExcInit
import PyProof.ExcClass2
import PyProof.ExcBaseAll.ValueError
import OpenK.KOwn
import PyProof.RulesAs
import PyProof.NsDelKeeps
import PySem.Challenge.RW_sluiceway_k31_the_start
set_option Elab.async false
set_option linter.all false
set_option maxRecDepth 100000
open Option renaming some→jS,none→jT
open Bool renaming true→jU,false→xQ
open List renaming replicate→zQ,getElem?_eq_getElem→zK,mem_cons_of_mem→zY,size_toArray→zq,getElem?_eq_some_iff→zx,mem_append_right→zv,mem_cons→zw,getElem?_append_right→zy,getElem?_map→z5,getElem?_append_left→zD,mem_cons_self→zE,append_nil→zF,range→zG,map_cons→zI,filterMap_cons→zO,length_replicate→zP,getElem?_eq_none→zR,getElem?_set→zS,eq_nil_of_length_eq_zero→zT,getElem?_replicate→zU,lookup_cons→qZ,length_append→qJ,drop_eq_getElem_cons→qX,replicate_succ→qW,length_map→qY,getElem?_set_ne→qw,getD_eq_getElem?_getD→qk,getElem?_eq_none_iff→qy,getElem?_take_of_lt→q0,drop_of_length_le→q9,all_eq_true→qA,take_length→qB,lookup→qC,mem_append_left→qE,nodup_cons→qF,of_mem_zip→qG,length_set→qH,mem_range→qI
open Nat renaming lt_of_lt_of_le→zJ,le_refl→zW,le_trans→z0,ne_of_lt→zA,lt_irrefl→zB,le_of_ble_eq_true→zM,lt_succ_self→zN,le_succ→qz,ne_of_gt→q8
open Int renaming emod_lt_of_pos→qK,emod_nonneg→qq,mul_nonneg→qL
open Option renaming map_eq_some_iff→zk
open Bool renaming false_ne_true→zV,and_eq_true→zz,and_eq_true_iff→qV
open Array renaming getElem?_eq_some_iff→zC,length_toList→qQ
open PySem.Heap renaming get?_push_of_some→zZ,lt_size→zX,get?_push_size→zj,get?_update_other→zH,get?_update_self→zL,size_push→qj,SameBut→qx,get?_none_of_le→qD
open PySem renaming Addr→qM,Around→qN,Expr→qO,FuncData→qP,NameKind→qR,Program→qS,Scope→qT,Shared→qU,Stmt→jQ,Value→jZ,World→jJ,assignEach→jX,attributeBase→jV,backTo→jW,behindInMarks→jK,binaryOp→jY,bootBuiltins→jq,call_isinstance→jz,codeAny_mono→jj,compareOp→jx,importedModules→jv,isSubtype→jw,isinstance_false_int→jk,isinstance_false_list→jy,isinstance_false_none→j0,isinstance_false_str→j1,isinstance_false_tuple→j2,letOwnedTupleGo→j3,mainGlobals→j4,model→j5,rawInt→j6,sizeLine_eq→j7,starEach→j8,treeTable→j9,wpAny→jA,wpAny_Call_Name_kw→jB,wpAny_bind→jC,wpAny_callSpecial?_slot→jD,wpAny_call_entry→jE,wpAny_field→jF,wpAny_mono→jG,wpAny_newObj_type→jH,wpAny_passesOwn→jI,wpAny_pure→jL,wpAny_setField_rec→jM,wpAny_truthy_bool→jN
open PySem.W renaming Frag→jO,boot_heap→jP
set_option maxHeartbeats 0
noncomputable section
namespace L2
open PySem PySem.Spec PyProof.Rows
variable{us:List jZ}{a b:qM}{P:qS}{w:jJ}{h base:Heap}{t' i k:Nat}{ch fp:List qM}{x:Str}{u:jZ}{Q:Unit->qU->Prop}{e tg:qO}{A:qN}{E:jZ->qU->Prop}{s:qU}{jR:List (qM×Obj)}{K:PySem.W.Frag}{f:jZ->jZ->Sem jZ}{op:CmpOp}{mg:Str->Option jZ}{kindOf:Str->Option qR}
noncomputable abbrev Key:=Sum Int Str
def V6:Key->jZ->Bool
 |.inl k,v=>Value.isInt k v
 |.inr x,v=>Value.isStrOf x v
def keyH(w:jJ):Key->Int
 |.inl k=>hashInt k
 |.inr x=>hashStr w x
theorem Ge:∀{k:Key}{v:jZ},V6 k v=jU->(∃i t,k=Sum.inl i/\v=Value.int i t)∨(∃x t,k=Sum.inr x/\v=Value.str x t)
 |.inl i,v,h=>by obtain⟨t,e⟩:=Value.isInt_shape (k:=i) (v:=v) h;exact .inl ⟨i,t,rfl,e⟩
 |.inr x,v,h=>by obtain⟨t,e⟩:=Value.isStrOf_shape (x:=x) (v:=v) h;exact .inr ⟨x,t,rfl,e⟩
theorem ZDs(a b:Int):decide ((Sum.inl a:Key)=Sum.inl b)=(a==b):=by
 by_cases e:a=b
 ·subst e;simp
 ·have h:¬(Sum.inl a:Key)=Sum.inl b:=λq=>e (Sum.inl.inj q)
  rw[decide_eq_false h];exact(beq_eq_false_iff_ne.mpr e).symm
theorem ZDr(a b:Str):decide ((Sum.inr a:Key)=Sum.inr b)=decide (a=b):=by
 by_cases e:a=b
 ·subst e;simp
 ·have h:¬(Sum.inr a:Key)=Sum.inr b:=λq=>e (Sum.inr.inj q)
  rw[decide_eq_false h,decide_eq_false e]
theorem ZEU(a:Int)(b:Str):decide ((Sum.inl a:Key)=Sum.inr b)=xQ:=decide_eq_false (λq=>nomatch q)
theorem ZCJ(a:Str)(b:Int):decide ((Sum.inr a:Key)=Sum.inl b)=xQ:=decide_eq_false (λq=>nomatch q)
def Vn(prog:qS)(w:jJ):PySem.KeyKind prog w Key where
 is:=V6
 hash:=keyH w
 inj:=λv a b ha hb=>by
  rcases Ge ha with⟨i,t,rfl,rfl⟩|⟨x,t,rfl,rfl⟩
  ·rcases Ge hb with⟨j,u,rfl,e⟩|⟨y,u,rfl,e⟩
   ·injection e with e1 _;rw[e1]
   ·exact nomatch e
  ·rcases Ge hb with⟨j,u,rfl,e⟩|⟨y,u,rfl,e⟩
   ·exact nomatch e
   ·injection e with e1 _;rw[e1]
 byValue:=λk v h=>by rcases Ge h with⟨i,t,rfl,rfl⟩|⟨x,t,rfl,rfl⟩<;>rfl
 pyHash:=λhv h=>by
  rcases Ge hv with⟨i,t,rfl,rfl⟩|⟨x,t,rfl,rfl⟩
  ·exact wpAny_pyHash_int h
  ·exact wpAny_pyHash_str h
 eqBool:=λhu hv h=>by
  rcases Ge hu with⟨i,t,rfl,rfl⟩|⟨x,t,rfl,rfl⟩
  ·rcases Ge hv with⟨j,u,rfl,rfl⟩|⟨y,u,rfl,rfl⟩
   ·rw[ZDs]at h;exact wpAny_eqBool_int h
   ·rw[ZEU]at h;exact SeqAt.EqAt.int_str i t y u _ _ _ _ h
  ·rcases Ge hv with⟨j,u,rfl,rfl⟩|⟨y,u,rfl,rfl⟩
   ·rw[ZCJ]at h;exact SeqAt.EqAt.str_int x t j u _ _ _ _ h
   ·rw[ZDr]at h;exact wpAny_eqBool_str h
 «strs»:=λk x t v h=>by
  rcases Ge h with⟨i,u,rfl,e⟩|⟨y,u,rfl,e⟩
  ·exact nomatch e
  ·injection e with e1 _
   subst e1
   cases v<;>rfl
inductive V where
 |non|bl (b:Bool)|int (i:Int)|str (x:Str)|byt (b:Array UInt8)|flt (b:UInt64)|ref (a:qM)|ty (n:String)
 deriving DecidableEq
variable{v:V}
def RelV:V->jZ->Prop
 |.non,u=>u=Value.none
 |.bl b,u=>u=Value.bool b
 |.int i,u=>∃t,u=Value.int i t
 |.str x,u=>∃t,u=Value.str x t
 |.byt b,u=>∃t,u=Value.bytes b t
 |.flt b,u=>∃t,u=Value.float b t
 |.ref a,u=>u=Value.ref a
 |.ty n,u=>u=Value.type n
abbrev Vals:List V->List jZ->Prop:=Paired RelV
theorem Vals.length{xs:List V}(r:Vals xs us):xs.length=us.length:=Paired.length r
theorem Vals.get:∀{xs:List V}{us:List jZ}{i:Nat}{x:V},Vals xs us->xs[i]?=jS x->∃u,us[i]?=jS u/\RelV x u
 |_,_,_,_,.nil,e=>by simp at e
 |_,_,0,_,.cons r _,e=>by simp at e;subst e;exact⟨_,rfl,r⟩
 |_,_,i+1,x,.cons _ t,e=>by obtain⟨u,h1,h2⟩:=Vals.get (i:=i) (x:=x) t (by simpa using e);exact⟨u,by simpa using h1,h2⟩
theorem Vals.append:∀{xs ys:List V}{us ws:List jZ},Vals xs us->Vals ys ws->Vals (xs++ys) (us++ws)
 |_,_,_,_,.nil,s=>s
 |_,_,_,_,.cons r t,s=>.cons r (Vals.append t s)
def RelO:Option V->Option jZ->Prop
 |some v,jS u=>RelV v u
 |none,jT=>True
 |_,_=>False
def KV{κ:Type}:List (κ×V)->List (κ×jZ)->Prop:=Paired λ(p:κ×V)(q:κ×jZ)=>p.1=q.1/\RelV p.2 q.2
def kV:Key->V
 |.inl i=>.int i
 |.inr x=>.str x
inductive HO where
 |lst (xs:List V)
 |tup (xs:List V)
 |dK (kvs:List (Key×V))|dT (kvs:List (List Key×V))
 |set (S:Int->Bool) (n:Nat)
 |ins (C dx:qM) (fs:List (Str×V))
 |own (x:qM)
 |xd (fs:List (Str×V))
 |met (f x:qM)
 |rng (lo hi:Int)
 |frz (o:Obj) (u:HO)
 |tbl (ps:Array jZ)
 |ext (φ:Heap->Prop)
variable{o:HO}
noncomputable abbrev Hp:=qM->Option HO
variable{H:Hp}
noncomputable def upd(H:Hp)(a:qM)(o:HO):Hp:=λb=>if b=a then jS o else H b
theorem Eh:upd H a o a=jS o:=by unfold upd;rw[if_pos rfl]
theorem Aq(h:b≠a):upd H a o b=H b:=by unfold upd;rw[if_neg h]
theorem Ef(h:H a=jS o)(h':H b=jT):a≠b:=by intro e;subst e;rw[h]at h';cases h'
section
variable(P:qS)(w:jJ)
def ObjOk(H:Hp)(h:Heap)(a:qM):HO->Prop
 |.lst xs=>xs.length<=sizeLine/\∃(its:List jZ)(n:Nat),Vals xs its/\h.get? a=jS {cls:=.type "list",data:=.seq its.toArray n}
 |.tup xs=>xs.length<=sizeLine/\∃its:List jZ,Vals xs its/\IsTup h a its.toArray
 |.dK kvs=>kvs.length<=sizeLine/\(a==sysModules)=xQ/\∃vs,KV kvs vs/\h.DictOf (Vn P w) a vs
 | .dT kvs=>kvs.length<=sizeLine/\(a==sysModules)=xQ/\∃xs:List (List Key×qM×jZ),
   Paired (λ(p:List Key×V)(q:List Key×qM×jZ)=>p.1=q.1/\H q.2.1=jS (.tup (p.1.map kV))/\RelV p.2 q.2.2) kvs xs/\
   ∃o es ep,h.get? a=jS o/\o.ExactDict/\o.data=.dict es ep/\es.toList=xs.map (entryOfKey (tupleKind (Vn P w)))/\(xs.map (·.1)).Nodup
 |.set S n=>h.SetOf (intKind P w) a S n
 | .ins C dx fs=>H dx=jS (.own a)/\fs.length<=1000/\dx≠a/\h.get? a=jS (PySem.W.instObj C dx)/\
   ∃mA,h.Ns1 dx mA/\(∀f,RelO (fs.lookup f) (mA f))/\PySem.Within mA (fs.map (·.1))
 |.own _=>∃o,h.get? a=jS o
 |.xd fs=>∃mA,h.Ns1 a mA/\∀f,RelO (fs.lookup f) (mA f)
 |.rng lo hi=>∃t u v,h.get? a=jS {cls:=.type "range",data:=.fields #[.int lo t,.int hi u,.int 1 v]}
 |.frz o u=>h.get? a=jS o/\ObjOk H h a u
 |.tbl ps=>h.get? a=jS {cls:=.none,data:=.fields ps}
 |.met f x=>h.get? a=jS (PySem.W.methodObj (.ref f) (.ref x))
 |.ext φ=>φ h/\(∃o,h.get? a=jS o)/\∀h1 h2:Heap,φ h1->(∀o,h1.get? a=jS o->h2.get? a=jS o)->φ h2
def HOk(H:Hp)(h:Heap):Prop:=∀a o,H a=jS o->ObjOk P w H h a o
end
section
variable{P:qS}{w:jJ}{H H':Hp}{h h':Heap}{a:qM}{o:HO}
theorem ObjOk.lt(x:ObjOk P w H h a o):a<h.objs.size:=by
 cases o with
 |lst xs=>obtain⟨_,_,_,_,e⟩:=x;exact zX e
 |tup xs=>obtain⟨_,_,_,p⟩:=x;exact p.lt
 |dK kvs=>obtain⟨_,_,_,_,o,_,_,e,_⟩:=x;exact zX e
 |dT kvs=>obtain⟨_,_,_,_,o,_,_,e,_⟩:=x;exact zX e
 |set S n=>obtain⟨o,_,_,_,e,_⟩:=x;exact zX e
 |ins C dx fs=>obtain⟨_,_,_,e,_⟩:=x;exact zX e
 |own y=>obtain⟨_,e⟩:=x;exact zX e
 |xd fs=>obtain⟨_,⟨_,_,_,e,_⟩,_⟩:=x;exact zX e
 |rng lo hi=>obtain⟨_,_,_,e⟩:=x;exact zX e
 |frz ob u=>obtain⟨e,_⟩:=x;exact zX e
 |tbl ps=>exact zX (show h.get? a=jS _ from x)
 |met f y=>exact zX (show h.get? a=jS _ from x)
 |ext φ=>obtain⟨_,⟨_,e⟩,_⟩:=x;exact zX e
theorem Paired.mapP{α β:Type}{F G:α->β->Prop}:∀{l₁:List α}{l₂:List β},Paired F l₁ l₂->(∀a b,F a b->G a b)->Paired G l₁ l₂
 |_,_,.nil,_=>.nil
 |_,_,.cons r t,f=>.cons (f _ _ r) (Paired.mapP t f)
theorem ObjOk.stay(x:ObjOk P w H h a o)(k:∀b u,(b=a∨H b=jS (.own a))->h.get? b=jS u->h'.get? b=jS u)
  (ho:∀b,H b=jS (.own a)->H' b=jS (.own a)) (ht:∀b xs,H b=jS (.tup xs)->H' b=jS (.tup xs)):ObjOk P w H' h' a o:=by
 induction o with
 |lst xs=>obtain⟨z,its,n,r,e⟩:=x;exact⟨z,its,n,r,k _ _ (.inl rfl) e⟩
 |tup xs=>obtain⟨z,its,r,ob,e,c⟩:=x;exact⟨z,its,r,ob,k _ _ (.inl rfl) e,c⟩
 |dK kvs=>obtain⟨z,y,vs,r,ob,es,ep,e,c⟩:=x;exact⟨z,y,vs,r,ob,es,ep,k _ _ (.inl rfl) e,c⟩
 |dT kvs=>
  obtain⟨z,y,xs,r,ob,es,ep,e,c⟩:=x;exact⟨z,y,xs,Paired.mapP r λp q z=>⟨z.1,ht _ _ z.2.1,z.2.2⟩,ob,es,ep,k _ _ (.inl rfl) e,c⟩
 |set S n=>obtain⟨ob,es,ep,t,e,c⟩:=x;exact⟨ob,es,ep,t,k _ _ (.inl rfl) e,c⟩
 |ins C dx fs=>
  obtain⟨d,z,ne,e,mA,⟨od,es,ep,e2,c⟩,r⟩:=x;exact⟨ho _ d,z,ne,k _ _ (.inl rfl) e,mA,⟨od,es,ep,k _ _ (.inr d) e2,c⟩,r⟩
 |own y=>obtain⟨ob,e⟩:=x;exact⟨ob,k _ _ (.inl rfl) e⟩
 |xd fs=>obtain⟨mA,⟨od,es,ep,e,c⟩,r⟩:=x;exact⟨mA,⟨od,es,ep,k _ _ (.inl rfl) e,c⟩,r⟩
 |rng lo hi=>obtain⟨t,u,v,e⟩:=x;exact⟨t,u,v,k _ _ (.inl rfl) e⟩
 |frz ob u ih=>obtain⟨e,q⟩:=x;exact⟨k _ _ (.inl rfl) e,ih q⟩
 |tbl ps=>
  have e:h.get? a=jS {cls:=.none,data:=.fields ps}:=x;show h'.get? a=jS {cls:=.none,data:=.fields ps};exact k a _ (.inl rfl) e
 |met f y=>
  have e:h.get? a=jS (PySem.W.methodObj (.ref f) (.ref y)):=x;show h'.get? a=jS (PySem.W.methodObj (.ref f) (.ref y));exact k a _ (.inl rfl) e
 |ext φ=>obtain⟨p,⟨o,e⟩,st⟩:=x;exact⟨st _ _ p λo q=>k _ _ (.inl rfl) q,⟨o,k _ _ (.inl rfl) e⟩,st⟩
theorem HOk.lt(x:HOk P w H h)(e:H a=jS o):a<h.objs.size:=(x a o e).lt
theorem HOk.fresh(x:HOk P w H h)(e:h.objs.size<=a):H a=jT:=by
 cases q:H a with
 |none=>rfl
 |some u=>exact absurd (zJ (x.lt q) e) (zB _)
theorem HOk.kept(x:HOk P w H h)(k:∀b u,h.get? b=jS u->h'.get? b=jS u):HOk P w H h':=λa o e=>
 (x a o e).stay (λb u _ q=>k b u q) (λ_ q=>q) λ_ _ q=>q
theorem HOk.laid(x:HOk P w H h)(k:∀b u,h.get? b=jS u->h'.get? b=jS u)(hp:h.objs.size<=a)(new:ObjOk P w (upd H a o) h' a o):HOk P w (upd H a o) h':=λb u e=>by
 have hn:=x.fresh hp;by_cases hb:b=a
 ·subst hb;rw[Eh]at e;cases e;exact new
 ·rw[Aq hb]at e;exact(x b u e).stay (λc v _ q=>k c v q) (λc q=>by rw[Aq (Ef q hn)];exact q) λc xs q=>by rw[Aq (Ef q hn)];exact q
end
def Rd(H:Hp)(a:qM)(u:HO):Prop:=H a=jS u∨∃o,H a=jS (.frz o u)
theorem Rd.ok{u:HO}(r:Rd H a u)(x:HOk P w H h):ObjOk P w H h a u:=by
 rcases r with r|⟨o,r⟩
 ·exact x a u r
 ·obtain⟨_,q⟩:=x a _ r;exact q
def Mut:Option HO->Prop
 |some (.lst _)=>True
 |some (.dK _)=>True
 |some (.dT _)=>True
 |some (.set _ _)=>True
 |some (.ins _ _ _)=>True
 |some (.ext _)=>True
 |_=>False
section
variable{P:qS}{w:jJ}{H:Hp}{h h':Heap}{x e:qM}{o':HO}
theorem HOk.write(ok:HOk P w H h)(mu:Mut (H x))(he:e=x∨H e=jS (.own x))(k:∀b u,b≠e->h.get? b=jS u->h'.get? b=jS u)(heo:∃u,h'.get? e=jS u)
  (new:ObjOk P w (upd H x o') h' x o'):HOk P w (upd H x o') h':=λb u q=>by
 have nown:∀c y,H c=jS (.own y)->c≠x:=λc y r z=>by subst z;rw[r]at mu;exact mu
 have ntup:∀c xs,H c=jS (.tup xs)->c≠x:=λc xs r z=>by subst z;rw[r]at mu;exact mu
 by_cases hb:b=x
 ·subst hb;rw[Eh]at q;cases q;exact new
 ·rw[Aq hb]at q;by_cases hbe:b=e
  ·have q':H b=jS (.own x):=by
    rcases he with z|z
    ·exact absurd (hbe.trans z) hb
    ·rw[hbe];exact z
   rw[q]at q';cases q';obtain⟨v,hv⟩:=heo;exact⟨v,by rw[hbe];exact hv⟩
  ·refine(ok b u q).stay (λc v hc r=>k c v ?_ r) (λc r=>by rw[Aq (nown c b r)];exact r) λc xs r=>by rw[Aq (ntup c xs r)];exact r
   rcases hc with rfl|hc
   ·exact hbe
   ·rintro rfl;rcases he with z|z
    ·exact nown c b hc z
    ·rw[hc]at z;cases z;exact hb rfl
end
structure Un (fs ex:List qM) (H H':Hp) (h h':Heap):Prop where
 keep:∀b o,h.get? b=jS o->H b=jT->b∉fs->b∉ex->h'.get? b=jS o
 slot:∀b o,h.get? b=jS o->H b=jT->b∈fs->b∉ex->∃sl,h'.get? b=jS {o with slots:=sl}
 free:∀b o,h.get? b=jS o->H b=jT->b∉ex->H' b=jT
 there:∀b o,h.get? b=jS o->b∉ex->∃o',h'.get? b=jS o'
 tups:∀b xs,H b=jS (.tup xs)->H' b=jS (.tup xs)
 frzs:∀b o u,H b=jS (.frz o u)->H' b=jS (.frz o u)
 tbls:∀b ps,H b=jS (.tbl ps)->∃more,H' b=jS (.tbl (ps++more))
section
variable{fs fs' ex ex':List qM}{H H1 H2:Hp}{h h1 h2 h':Heap}{a x e:qM}{o:HO}
theorem Un.any(u:Un fs ex H H1 h h1){ob:Obj}(q:h.get? b=jS ob)(n:H b=jT)(hx:b∉ex):∃sl,h1.get? b=jS {ob with slots:=sl}:=by
 by_cases hb:b∈fs
 ·exact u.slot b ob q n hb hx
 ·exact⟨ob.slots,u.keep b ob q n hb hx⟩
theorem Un.kept(k:∀b u,h.get? b=jS u->h'.get? b=jS u):Un fs ex H H h h':=
 ⟨λb ob q _ _ _=>k b ob q,λb ob q _ _ _=>⟨ob.slots,k b ob q⟩,λ_ _ _ n _=>n,λb ob q _=>⟨ob,k b ob q⟩,λ_ _ q=>q,λ_ _ _ q=>q,λ_ ps q=>⟨#[],by rw[q];simp⟩⟩
theorem Un.refl:Un fs ex H H h h:=Un.kept λ_ _ q=>q
theorem Un.laid(k:∀b u,h.get? b=jS u->h'.get? b=jS u)(hp:h.objs.size<=a)(hn:H a=jT):Un fs ex H (upd H a o) h h' where
 keep:=λb u q _ _ _=>k b u q
 slot:=λb u q _ _ _=>⟨u.slots,k b u q⟩
 free:=λb u q n _=>by rw[Aq (zA (zJ (zX q) hp))];exact n
 there:=λb u q _=>⟨u,k b u q⟩
 tups:=λb xs q=>by rw[Aq (Ef q hn)];exact q
 frzs:=λb u xs q=>by rw[Aq (Ef q hn)];exact q
 tbls:=λb ps q=>⟨#[],by rw[Aq (Ef q hn),q];simp⟩
theorem Un.write(mu:Mut (H x))(he:e=x∨H e=jS (.own x))(k:∀b u,b≠e->h.get? b=jS u->h'.get? b=jS u)(heo:∃u,h'.get? e=jS u):Un fs ex H (upd H x o) h h':=by
 have hx:∀b,H b=jT->b≠x:=λb n z=>by subst z;rw[n]at mu;exact mu
 have hb:∀b,H b=jT->b≠e:=λb n z=>by
  subst z;rcases he with r|r
  ·exact hx b n r
  ·rw[n]at r;cases r
 have hm:∀b u,H b=jS u->¬Mut (jS u)->b≠x:=λb u q nm z=>by subst z;rw[q]at mu;exact nm mu
 refine⟨λb u q n _ _=>k b u (hb b n) q,λb u q n _ _=>⟨u.slots,k b u (hb b n) q⟩,λb u q n _=>by rw[Aq (hx b n)];exact n,λb u q _=>?_,
  λb xs q=>by rw[Aq (hm b _ q λz=>z)];exact q,λb u xs q=>by rw[Aq (hm b _ q λz=>z)];exact q,λb ps q=>⟨#[],by rw[Aq (hm b _ q λz=>z),q];simp⟩⟩
 by_cases hbe:b=e
 ·subst hbe;exact heo
 ·exact⟨u,k b u hbe q⟩
end
noncomputable def trk(h:Heap)(H:Hp):List qM:=(zG h.objs.size).filter λa=>(H a).isSome
def Fy(h:Heap)(H:Hp):Heap:=PySem.W.hideAll h (trk h H)
theorem ZDb(h:Heap)(H:Hp):(Fy h H).objs.size=h.objs.size:=PySem.W.hideAll_size _ _
theorem ZCu{o:Obj}(e:h.get? b=jS o)(n:H b=jT):(Fy h H).get? b=jS o:=
 PySem.W.hideAll_get _ e λhm=>by have q:(H b).isSome=jU:=(List.mem_filter.mp hm).2;rw[n]at q;simp at q
theorem ZCy{o:Obj}(e:(Fy h H).get? b=jS o):h.get? b=jS o/\H b=jT:=by
 have e':h.get? b=jS o:=PySem.W.of_hideAll (trk h H) e;refine⟨e',?_⟩;cases q:H b with
 |none=>rfl
 |some x=>
  have hm:b∈trk h H:=List.mem_filter.mpr ⟨qI.mpr (zX e'),by simp[q]⟩;have z:(Fy h H).get? b=jT:=PySem.W.hideAll_none (trk h H) hm;rw[z]at e;cases e
noncomputable def ZAY(g h:Heap)(L:qM):List (qM×Obj):=(zG h.objs.size).filterMap λa=>if a=L∨(g.get? a).isSome=jU then jT else(h.get? a).map λo=>(a,o)
def rest(g h:Heap)(L d:qM):List (qM×Obj):=(ZAY g h L).filter λp=>decide (p.1≠d)
structure Mod (K:PySem.W.Frag) (mg:Str->Option jZ) (base:Heap):Prop where
 kin:K.In base
 glob:base.Ns j4 mg
 blt:∃mb,base.Ns builtinsNs mb/\∀x:Str,x≠"__name__"->mb x=jq x
 nolimit:base.NoLimit
structure Cx where
 prog:qS
 w:jJ
 K:PySem.W.Frag
 mg:Str->Option jZ
 base:Heap
 A:qN
 N:List Str
 s₀:qU
 H₀:Hp
 env:Env
 outer:List Env
 stack:List Env
 ex:List qM
 fn:Str->Bool
 calm:Bool
 pn:List (qM×Obj)
 xe:jZ->qU->Prop
variable{X:Cx}
noncomputable def frs(l:List Env):List qM:=l.filterMap (·.frame)
noncomputable abbrev Cx.fs(X:Cx):List qM:=frs X.outer
def Vis(sc:qT)(x:Str):Prop:=sc.names.lookup x=jS .local∨sc.names.lookup x=jS .cell∨sc.names.lookup x=jS .free
def Loc(sc:qT)(x:Str):Prop:=sc.names.lookup x=jS .local∨sc.names.lookup x=jS .cell
def Look(env:Env)(h:Heap)(m:Str->Option jZ)(x:Str)(u:jZ):Prop:=
 (env.kindOf x=jS .local/\m x=jS u)∨((env.kindOf x=jS .cell∨env.kindOf x=jS .free)/\∃c,env.cells.lookup x=jS c/\h.IsCell c (jS u))
structure Cx.Ok (X:Cx):Prop where
 mod:Mod X.K X.mg X.base
 kind:X.env.scope.kind=.function
 glob:X.env.globals=j4
 blt:X.env.builtins=builtinsNs
 above:X.s₀.heap.objs.size<=X.env.locals
 inj:∀x y c,X.env.cells.lookup x=jS c->X.env.cells.lookup y=jS c->x=y
 has:∀x,(X.env.kindOf x=jS .cell∨X.env.kindOf x=jS .free)->∃c,X.env.cells.lookup x=jS c
 cab:∀x c,X.fn x=jU->X.env.cells.lookup x=jS c->X.s₀.heap.objs.size<=c
 hd:X.calm=jU->X.A.handled=jT
 frames:X.A.frames=jS X.stack
 stk:X.stack=X.outer∨(X.stack=X.env::X.outer/\X.env.frame=jS X.env.locals)
 exf:∀b∈X.ex,b≠X.env.locals/\∀x c,X.env.cells.lookup x=jS c->c≠b
 bs:∀b o,X.base.get? b=jS o->X.s₀.heap.get? b=jS o/\X.H₀ b=jT
 bsz:X.base.objs.size<=X.s₀.heap.objs.size
 noex:∀b o,X.base.get? b=jS o->b∉X.ex
 exfs:∀b∈X.ex,b∉X.fs
 funs:X.s₀.heap.FunFrames X.base X.outer
 frf:∀b∈X.fs,X.H₀ b=jT
structure Inv (X:Cx) (jR:List (qM×Obj)) (σ:List (Option V)) (H:Hp) (s:qU):Prop where
 ok:X.Ok
 os:s.os=X.s₀.os
 bare:AllBare s.gens
 base:Un X.fs X.ex X.H₀ H X.s₀.heap s.heap
 loc:∃m,s.heap.Ns X.env.locals m/\∀(i:Nat)(x:Str)(v:V),X.N[i]?=jS x->σ[i]?=jS (jS v)->Vis X.env.scope x->∃u,RelV v u/\Look X.env s.heap m x u
 cell:∀x c,X.env.cells.lookup x=jS c->∃v,s.heap.IsCell c v
 free:H X.env.locals=jT
 Dz:∀x c,X.env.cells.lookup x=jS c->H c=jT
 pin:∀p∈X.pn++jR,s.heap.get? p.1=jS p.2/\H p.1=jT/\p.1≠X.env.locals/\p.1∉X.fs/\∀v,p.2.data≠ .cell v
 hok:HOk X.prog X.w H s.heap
 len:σ.length=X.N.length
section
variable{X:Cx}{jR:List (qM×Obj)}{σ:List (Option V)}{H H':Hp}{s:qU}{h':Heap}
theorem Cx.Ok.nofr(ok:X.Ok){o:Obj}(e:X.base.get? b=jS o):b∉X.fs:=λhb=>by have:=(ok.funs.mem hb).1;rw[e]at this;cases this
theorem Inv.bs(I:Inv X jR σ H s):∀b o,X.base.get? b=jS o->s.heap.get? b=jS o/\H b=jT:=λb o e=>
 ⟨I.base.keep b o (I.ok.bs b o e).1 (I.ok.bs b o e).2 (I.ok.nofr e) (I.ok.noex b o e),I.base.free b o (I.ok.bs b o e).1 (I.ok.bs b o e).2 (I.ok.noex b o e)⟩
theorem Inv.bk(I:Inv X jR σ H s):∀b o,X.base.get? b=jS o->s.heap.get? b=jS o:=λb o e=>(I.bs b o e).1
theorem Inv.mod(I:Inv X jR σ H s):Mod X.K X.mg X.base:=I.ok.mod
theorem Inv.kIn(I:Inv X jR σ H s):X.K.In s.heap:=I.ok.mod.kin.keeps I.bk
theorem Inv.lt(I:Inv X jR σ H s):X.env.locals<s.heap.objs.size:=let⟨_,hn,_⟩:=I.loc;hn.lt
theorem Inv.sz(I:Inv X jR σ H s):X.s₀.heap.objs.size<=s.heap.objs.size:=z0 I.ok.above (Nat.le_of_lt I.lt)
theorem Inv.nofs(I:Inv X jR σ H s)(h:s.heap.objs.size<=a):a∉X.fs:=λhb=>by obtain⟨_,o,ho,_⟩:=I.ok.funs.mem hb;exact absurd (zJ (zX ho) (z0 I.sz h)) (zB _)
theorem Inv.cne(I:Inv X jR σ H s):∀x c,X.env.cells.lookup x=jS c->c≠X.env.locals:=λx c e z=>by obtain⟨v,o,ho,hd⟩:=I.cell x c e;obtain⟨m,⟨o',es,ep,ho',hd',_⟩,_⟩:=I.loc;rw[z,ho']at ho;cases ho;rw[hd']at hd;cases hd
theorem Inv.funs(I:Inv X jR σ H s):s.heap.FunFrames X.base X.outer:=by
 have all:∀(l:List Env),(∀b∈frs l,b∈X.fs)->X.s₀.heap.FunFrames X.base l->s.heap.FunFrames X.base l:=by
  intro l
  induction l with
  |nil=>intro _ _;trivial
  |cons env r ih=>
   intro hs hl;obtain⟨hk,⟨L,o,hf,hn,ho,hd⟩,hr⟩:=hl;have hL:L∈X.fs:=hs L (by unfold frs;rw[zO,hf];exact zE);obtain⟨sl,e⟩:=I.base.slot L o ho (I.ok.frf L hL) hL λz=>I.ok.exfs L z hL
   exact⟨hk,⟨L,_,hf,hn,e,hd⟩,ih (λb hb=>hs b (by unfold frs;rw[zO,hf];exact zY _ hb)) hr⟩
 exact all X.outer (λ_ hb=>hb) I.ok.funs
theorem Inv.stack(I:Inv X jR σ H s):s.heap.FunFrames X.base X.stack:=by
 rcases I.ok.stk with e|⟨e,hf⟩
 ·rw[e];exact I.funs
 ·rw[e];obtain⟨m,hn,_⟩:=I.loc;refine .cons (by rw[I.ok.kind];decide) hf hn ?_ I.funs;exact qD (z0 I.ok.bsz I.ok.above)
theorem Inv.Mm(I:Inv X jR σ H s):∀b∈frs X.stack,b∈X.env.locals::X.fs:=λb hb=>by
 rcases I.ok.stk with e|⟨e,hf⟩
 ·rw[e]at hb;exact zY _ hb
 ·rw[e]at hb;unfold frs at hb;rw[zO,hf]at hb;exact hb
theorem Inv.Ou(I:Inv X jR σ H s):∀b∈frs X.stack,H b=jT:=λb hb=>by
 rcases zw.mp (I.Mm b hb)with e|hb
 ·rw[e];exact I.free
 ·obtain⟨_,o,ho,_⟩:=I.ok.funs.mem hb;exact I.base.free b o ho (I.ok.frf b hb) λz=>I.ok.exfs b z hb
theorem Inv.step{g':Array GenState}{d':Drawn}(I:Inv X jR σ H s)
  (hch:∀b∈ch,(b∈X.ex∨X.s₀.heap.objs.size<=b)/\b≠X.env.locals/\(∀x c,X.env.cells.lookup x=jS c->c≠b)/\∀p∈X.pn++jR,p.1≠b)
  (keep:∀b o,b≠X.env.locals->b∉X.fs->b∉ch->s.heap.get? b=jS o->H b=jT->h'.get? b=jS o)
  (slot:∀b o,b≠X.env.locals->b∈X.fs->b∉ch->s.heap.get? b=jS o->H b=jT->∃sl,h'.get? b=jS {o with slots:=sl}) (free:∀b o,b∉ch->s.heap.get? b=jS o->H b=jT->H' b=jT)
  (there:∀b o,b∉ch->s.heap.get? b=jS o->∃o',h'.get? b=jS o')
  (tups:∀b xs,H b=jS (.tup xs)->H' b=jS (.tup xs)) (frzs:∀b o u,H b=jS (.frz o u)->H' b=jS (.frz o u)) (tbls:∀b ps,H b=jS (.tbl ps)->∃more,H' b=jS (.tbl (ps++more)))
  (ns:∀m,s.heap.Ns X.env.locals m->h'.Ns X.env.locals m) (hok:HOk X.prog X.w H' h') (hg:AllBare g'):
  Inv X jR σ H' {s with heap:=h',gens:=g',drawn:=d',toks:=t'}:=by
 have neL:∀b o,X.s₀.heap.get? b=jS o->b≠X.env.locals:=λb o e=>zA (zJ (zX e) I.ok.above)
 have neC:∀b o,X.s₀.heap.get? b=jS o->b∉X.ex->b∉ch:=λb o e hx hb=>by
  rcases(hch b hb).1 with z|z
  ·exact hx z
  ·exact absurd (zJ (zX e) z) (zB _)
 have cellK:∀x c,X.env.cells.lookup x=jS c->∀v,s.heap.IsCell c v->h'.IsCell c v:=λx c e v ⟨o,ho,hd⟩=>by
  have nch:c∉ch:=λz=>(hch c z).2.2.1 x c e rfl
  by_cases hc:c∈X.fs
  ·obtain⟨sl,q⟩:=slot c o (I.cne x c e) hc nch ho (I.Dz x c e);exact⟨_,q,hd⟩
  ·exact⟨o,keep c o (I.cne x c e) hc nch ho (I.Dz x c e),hd⟩
 refine⟨I.ok,I.os,hg,⟨λb o e n hb hx=>?_,λb o e n hb hx=>?_,λb o e n hx=>?_,λb o e hx=>?_,λb xs e=>tups b xs (I.base.tups b xs e),λb o xs e=>frzs b o xs (I.base.frzs b o xs e),λb ps e=>?_⟩,?_,λx c e=>?_,?_,λx c e=>?_,λp hp=>?_,hok,I.len⟩
 ·exact keep b o (neL b o e) hb (neC b o e hx) (I.base.keep b o e n hb hx) (I.base.free b o e n hx)
 ·obtain⟨sl,e1⟩:=I.base.slot b o e n hb hx;obtain⟨sl',e2⟩:=slot b _ (neL b o e) hb (neC b o e hx) e1 (I.base.free b o e n hx);exact⟨sl',e2⟩
 ·obtain⟨o',e1⟩:=I.base.there b o e hx;exact free b o' (neC b o e hx) e1 (I.base.free b o e n hx)
 ·obtain⟨o',e1⟩:=I.base.there b o e hx;exact there b o' (neC b o e hx) e1
 ·obtain⟨m1,e1⟩:=I.base.tbls b ps e;obtain⟨m2,e2⟩:=tbls b _ e1;exact⟨m1++m2,by rw[e2,Array.append_assoc]⟩
 ·obtain⟨m,hn,hl⟩:=I.loc;refine⟨m,ns m hn,λi x v e1 e2 e3=>?_⟩;obtain⟨u,r,l⟩:=hl i x v e1 e2 e3;refine⟨u,r,?_⟩;rcases l with l|⟨k,c,e,z⟩
  ·exact .inl l
  ·exact .inr ⟨k,c,e,cellK x c e _ z⟩
 ·obtain⟨v,z⟩:=I.cell x c e;exact⟨v,cellK x c e v z⟩
 ·obtain⟨m,⟨o,_,_,ho,_⟩,_⟩:=I.loc;exact free _ o (λz=>(hch _ z).2.1 rfl) ho I.free
 ·obtain⟨v,o,ho,hd⟩:=I.cell x c e;exact free c o (λz=>(hch c z).2.2.1 x c e rfl) ho (I.Dz x c e)
 ·obtain⟨e,n,ne,nf,d⟩:=I.pin p hp;have nch:p.1∉ch:=λz=>(hch p.1 z).2.2.2 p hp rfl
  exact⟨keep p.1 p.2 ne nf nch e n,free p.1 p.2 nch e n,ne,nf,d⟩
theorem Inv.un(I:Inv X jR σ H s)(u:Un X.fs [] H H' s.heap h')(hok:HOk X.prog X.w H' h'):Inv X jR σ H' {s with heap:=h',toks:=t'}:=by
 obtain⟨m,⟨o,es,ep,ho,r⟩,_⟩:=id I.loc;obtain⟨sl,hL⟩:=u.any ho I.free (by simp)
 exact I.step (g':=s.gens) (d':=s.drawn) (ch:=[]) (λ_ z=>nomatch z) (λb o _ hb _ e n=>u.keep b o e n hb (by simp)) (λb o _ hb _ e n=>u.slot b o e n hb (by simp)) (λb o _ e n=>u.free b o e n (by simp)) (λb o _ e=>u.there b o e (by simp)) u.tups u.frzs u.tbls (λm' hm=>by obtain⟨o',es',ep',ho',r'⟩:=hm;rw[ho]at ho';cases ho';exact⟨_,es',ep',hL,r'⟩) hok I.bare
theorem Inv.call{g':Array GenState}{d':Drawn}(I:Inv X jR σ H s)(u:Un (frs X.stack) ch H H' s.heap h')(hok:HOk X.prog X.w H' h')(hg:AllBare g')
  (hch:∀b∈ch,(b∈X.ex∨X.s₀.heap.objs.size<=b)/\b≠X.env.locals/\(∀x c,X.env.cells.lookup x=jS c->c≠b)/\∀p∈X.pn++jR,p.1≠b):
  Inv X jR σ H' {s with heap:=h',gens:=g',drawn:=d',toks:=t'}:=by
 obtain⟨m,⟨o,es,ep,ho,r⟩,_⟩:=id I.loc;obtain⟨sl,hL⟩:=u.any ho I.free λz=>(hch _ z).2.1 rfl
 exact I.step (ch:=ch) hch (λb o hL hb hc e n=>u.keep b o e n (λz=>(zw.mp (I.Mm b z)).elim hL hb) hc) (λb o _ _ hc e n=>u.any e n hc) (λb o hc e n=>u.free b o e n hc) (λb o hc e=>u.there b o e hc) u.tups u.frzs u.tbls (λm' hm=>by obtain⟨o',es',ep',ho',r'⟩:=hm;rw[ho]at ho';cases ho';exact⟨_,es',ep',hL,r'⟩) hok hg
theorem Inv.turned{it:qM}(I:Inv X jR σ H s)(k:∀b o,b≠it->s.heap.get? b=jS o->h'.get? b=jS o)(hn:H it=jT)(hL:it≠X.env.locals)
  (h1:it∈X.ex∨X.s₀.heap.objs.size<=it) (h2:∀x c,X.env.cells.lookup x=jS c->c≠it) (h3:∀p∈X.pn++jR,p.1≠it):Inv X jR σ H {s with heap:=h',toks:=t'}:=by
 have nit:∀b u,H b=jS u->b≠it:=λb u e z=>by rw[z,hn]at e;cases e
 refine I.step (g':=s.gens) (d':=s.drawn) (ch:=[it]) (λb hb=>?_) (λb o _ _ hc e _=>k b o (λz=>hc (by simp[z])) e) (λb o _ _ hc e _=>⟨o.slots,k b o (λz=>hc (by simp[z])) e⟩) (λ_ _ _ _ n=>n)
  (λb o hc e=>⟨o,k b o (λz=>hc (by simp[z])) e⟩) (λ_ _ e=>e) (λ_ _ _ e=>e) (λb ps e=>⟨#[],by rw[e];simp⟩) (λm hm=>?_) (λb u e=>?_) I.bare
 ·have e:b=it:=by simpa using hb
  subst e;exact⟨h1,hL,h2,h3⟩
 ·obtain⟨o,es,ep,ho,r⟩:=hm;exact⟨o,es,ep,k _ o (Ne.symm hL) ho,r⟩
 ·refine(I.hok b u e).stay (λc v hc q=>k c v ?_ q) (λ_ q=>q) λ_ _ q=>q
  rcases hc with z|z
  ·rw[z];exact nit b u e
  ·exact nit c _ z
theorem Inv.tok(I:Inv X jR σ H s)(t:Nat):Inv X jR σ H {s with toks:=t}:=I.un (h':=s.heap) (t':=t) Un.refl I.hok
theorem Inv.kept(I:Inv X jR σ H s)(k:∀b u,s.heap.get? b=jS u->h'.get? b=jS u):Inv X jR σ H {s with heap:=h',toks:=t'}:=I.un (Un.kept k) (I.hok.kept k)
theorem Inv.laid(I:Inv X jR σ H s)(k:∀b u,s.heap.get? b=jS u->h'.get? b=jS u)(hp:s.heap.objs.size<=a)(new:ObjOk X.prog X.w (upd H a o) h' a o):
  Inv X jR σ (upd H a o) {s with heap:=h',toks:=t'}:=I.un (Un.laid k hp (I.hok.fresh hp)) (I.hok.laid k hp new)
theorem Inv.write{x e:qM}(I:Inv X jR σ H s)(mu:Mut (H x))(he:e=x∨H e=jS (.own x))(k:∀b u,b≠e->s.heap.get? b=jS u->h'.get? b=jS u)(heo:∃u,h'.get? e=jS u)
  (new:ObjOk X.prog X.w (upd H x o) h' x o):Inv X jR σ (upd H x o) {s with heap:=h',toks:=t'}:=I.un (Un.write mu he k heo) (I.hok.write mu he k heo new)
theorem Inv.Hc{pins':List (qM×Obj)}(I:Inv X jR σ H s)(h:∀p∈pins',s.heap.get? p.1=jS p.2/\H p.1=jT/\p.1≠X.env.locals/\p.1∉X.fs/\∀v,p.2.data≠ .cell v):Inv X pins' σ H s:=
 ⟨I.ok,I.os,I.bare,I.base,I.loc,I.cell,I.free,I.Dz,λp hp=>(List.mem_append.mp hp).elim (λz=>I.pin p (qE _ z)) (h p),I.hok,I.len⟩
theorem Tw{N:List Str}(hN:N.Nodup){j:Nat}(a:N[i]?=jS x)(b:N[j]?=jS x):i=j:=by obtain⟨h1,e1⟩:=zx.mp a;obtain⟨h2,e2⟩:=zx.mp b;exact(List.getElem_inj hN).mp (e1.trans e2.symm)
theorem Yo{M:Model}{A:qN}{E:jZ->qU->Prop}(I:Inv X jR σ H s)(hN:X.N.Nodup)(hi:X.N[i]?=jS x)(hx:Loc X.env.scope x)(r:RelV v u)
  (h:∀s',Inv X jR (σ.set i (jS v)) H s'->(∃a,qx a s.heap s'.heap/\(a=X.env.locals∨X.env.cells.lookup x=jS a))->Q () s') (hf:X.fn x=jU∨X.env.scope.names.lookup x=jS .local:=by first|exact .inl rfl|exact .inr rfl|assumption):jA M A (storeName X.env x u) Q E s:=by
 obtain⟨m,hn,hl⟩:=id I.loc;have hcls:(X.env.scope.kind == .class||(X.env.scope.kind == .module&&X.env.locals != X.env.globals))=xQ:=by rw[I.ok.kind];rfl
 have hiσ:i<σ.length:=by rw[I.len];exact(zx.mp hi).1
 have cne:=I.cne;have tracked:∀{a:qM}{h':Heap},(∃o,s.heap.get? a=jS o/\H a=jT)->qx a s.heap h'->HOk X.prog X.w H h':=λ{a h'}ha hs b ob e=>by
  obtain⟨_,_,hfree⟩:=ha;refine(I.hok b ob e).stay (λc w' hc q=>(hs.2 c ?_).trans q) (λ_ q=>q) λ_ _ q=>q
  rintro rfl;rcases hc with rfl|hc
  ·rw[hfree]at e;cases e
  ·rw[hfree]at hc;cases hc
 rcases hx with hk|hk
 ·refine wpAny_storeName_local hk hn (λh' hn' hs=>?_) hcls;obtain⟨oL,_,_,hoL,_⟩:=id hn;refine h _ ⟨I.ok,I.os,I.bare,⟨λb o e n hb hx=>?_,λb o e n hb hx=>?_,I.base.free,λb o e hx=>?_,I.base.tups,I.base.frzs,I.base.tbls⟩,⟨_,hn',λj y v' e1 e2 e3=>?_⟩,λy c e=>?_,I.free,I.Dz,λp hp=>?_,tracked ⟨oL,hoL,I.free⟩ hs,by simpa using I.len⟩ ⟨_,hs,.inl rfl⟩
  ·exact(hs.2 b (zA (zJ (zX e) I.ok.above))).trans (I.base.keep b o e n hb hx)
  ·obtain⟨sl,e1⟩:=I.base.slot b o e n hb hx;exact⟨sl,(hs.2 b (zA (zJ (zX e) I.ok.above))).trans e1⟩
  ·obtain⟨o',e1⟩:=I.base.there b o e hx;exact⟨o',(hs.2 b (zA (zJ (zX e) I.ok.above))).trans e1⟩
  ·by_cases hj:j=i
   ·subst hj;rw[hi]at e1;cases e1;rw[List.getElem?_set_self hiσ]at e2;cases e2;exact⟨u,r,.inl ⟨hk,by simp⟩⟩
   ·rw[qw (Ne.symm hj)]at e2;obtain⟨u',r',q⟩:=hl j y v' e1 e2 e3;refine⟨u',r',?_⟩;rcases q with⟨k,e⟩|⟨k,c,e,z⟩
    ·refine .inl ⟨k,?_⟩;have:y≠x:=λe=>hj (Tw hN e1 (e▸hi))
     simp[this,e]
    ·exact .inr ⟨k,c,e,z.sameBut hs (cne y c e)⟩
  ·obtain⟨w',z⟩:=I.cell y c e;exact⟨w',z.sameBut hs (cne y c e)⟩
  ·obtain⟨e,n,ne,nf,d⟩:=I.pin p hp;exact⟨(hs.2 p.1 ne).trans e,n,ne,nf,d⟩
 ·have hfn:X.fn x=jU:=by
   rcases hf with z|z
   ·exact z
   ·rw[z]at hk;cases hk
  obtain⟨c,hc⟩:=I.ok.has x (.inl hk);obtain⟨w',z⟩:=I.cell x c hc;refine wpAny_storeName_cell I.ok.kind hk hc z (λh' hc' hs=>?_);obtain⟨oc,hoc,hocd⟩:=id z;refine h {s with heap:=h'} ⟨I.ok,I.os,I.bare,⟨λb o e n hb hx=>?_,λb o e n hb hx=>?_,I.base.free,λb o e hx=>?_,I.base.tups,I.base.frzs,I.base.tbls⟩,⟨m,hn.sameBut hs (Ne.symm (cne x c hc)),λj y v' e1 e2 e3=>?_⟩,λy c' e=>?_,I.free,I.Dz,λp hp=>?_,tracked ⟨oc,hoc,I.Dz x c hc⟩ hs,by simpa using I.len⟩ ⟨c,hs,.inr hc⟩
  ·exact(hs.2 b (zA (zJ (zX e) (I.ok.cab x c hfn hc)))).trans (I.base.keep b o e n hb hx)
  ·obtain⟨sl,e1⟩:=I.base.slot b o e n hb hx;exact⟨sl,(hs.2 b (zA (zJ (zX e) (I.ok.cab x c hfn hc)))).trans e1⟩
  ·obtain⟨o',e1⟩:=I.base.there b o e hx;exact⟨o',(hs.2 b (zA (zJ (zX e) (I.ok.cab x c hfn hc)))).trans e1⟩
  ·by_cases hj:j=i
   ·subst hj;rw[hi]at e1;cases e1;rw[List.getElem?_set_self hiσ]at e2;cases e2;exact⟨u,r,.inr ⟨.inl hk,c,hc,hc'⟩⟩
   ·rw[qw (Ne.symm hj)]at e2;obtain⟨u',r',q⟩:=hl j y v' e1 e2 e3;refine⟨u',r',?_⟩;rcases q with q|⟨k,c',e,z'⟩
    ·exact .inl q
    ·refine .inr ⟨k,c',e,z'.sameBut hs ?_⟩;rintro rfl;exact hj (Tw hN e1 (I.ok.inj _ _ _ e hc▸hi))
  ·by_cases hcc:c'=c
   ·subst hcc;exact⟨_,hc'⟩
   ·obtain⟨w2,z2⟩:=I.cell y c' e;exact⟨w2,z2.sameBut hs hcc⟩
  ·obtain⟨e,n,ne,nf,d⟩:=I.pin p hp;refine⟨(hs.2 p.1 ?_).trans e,n,ne,nf,d⟩;intro q;rw[q,hoc]at e;have q':oc=p.2:=Option.some.inj e;exact d w' (by rw[<-q'];exact hocd)
theorem R5{M:Model}{A:qN}{E:jZ->qU->Prop}(I:Inv X jR σ H s)(hN:X.N.Nodup)(hi:X.N[i]?=jS x)(hx:Loc X.env.scope x)(r:RelV v u)
  (h:∀s',Inv X jR (σ.set i (jS v)) H s'->Q () s') (hf:X.fn x=jU∨X.env.scope.names.lookup x=jS .local:=by first|exact .inl rfl|exact .inr rfl|assumption):jA M A (storeName X.env x u) Q E s:=
 Yo I hN hi hx r (λs' I' _=>h s' I') hf
theorem Inv.call'{s':qU}(I:Inv X jR σ H s)(ho:s'.os=s.os)(u:Un (frs X.stack) ch H H' s.heap s'.heap)(hok:HOk X.prog X.w H' s'.heap)(hg:AllBare s'.gens)
  (hch:∀b∈ch,(b∈X.ex∨X.s₀.heap.objs.size<=b)/\b≠X.env.locals/\(∀x c,X.env.cells.lookup x=jS c->c≠b)/\∀p∈X.pn++jR,p.1≠b):Inv X jR σ H' s':=by
 obtain⟨h',g',d',t',o'⟩:=s';have e:o'=s.os:=ho;subst e;exact I.call (g':=g') (t':=t') (d':=d') u hok hg hch
end
noncomputable abbrev XK:=jZ->Option qM->Hp->Prop
noncomputable abbrev St:=List (Option V)
variable{σ:St}
noncomputable abbrev VK:=V->Hp->Prop
noncomputable abbrev TE:=St->Hp->VK->Prop
noncomputable abbrev TT:=St->Hp->(Bool->Hp->Prop)->Prop
noncomputable abbrev TA:=St->Hp->(List V->Hp->Prop)->Prop
structure Ends where
 nx:St->Hp->Prop
 rt:VK
 bk:St->Hp->Prop:=λ_ _=>False
 ct:St->Hp->Prop:=λ_ _=>False
noncomputable abbrev TS:=Ends->St->Hp->Prop
def EP(X:Cx)(jR:List (qM×Obj))(σ:St)(Q:VK)(u:jZ)(s':qU):Prop:=∃v H',Inv X jR σ H' s'/\RelV v u/\Q v H'
def TP(X:Cx)(jR:List (qM×Obj))(σ:St)(Q:Bool->Hp->Prop)(b:Bool)(s':qU):Prop:=∃H',Inv X jR σ H' s'/\Q b H'
def AP(X:Cx)(jR:List (qM×Obj))(σ:St)(Q:List V->Hp->Prop)(us:List jZ)(s':qU):Prop:=∃vs H',Inv X jR σ H' s'/\Vals vs us/\Q vs H'
def SP(X:Cx)(jR:List (qM×Obj))(D:Ends)(f:Flow)(s':qU):Prop:=
 match f with
 |.next=>∃σ' H',Inv X jR σ' H' s'/\D.nx σ' H'
 |.brk=>∃σ' H',Inv X jR σ' H' s'/\D.bk σ' H'
 |.cont=>∃σ' H',Inv X jR σ' H' s'/\D.ct σ' H'
 |.ret u=>∃v σ' H',Inv X jR σ' H' s'/\RelV v u/\D.rt v H'
def PE(X:Cx)(e:qO)(t:TE):Prop:=
 ∀(jR:List (qM×Obj))(s:qU)(σ:St)(H:Hp)(Q:VK),Inv X jR σ H s->t σ H Q->jA (j5 X.prog X.w) X.A (eval e X.env) (EP X jR σ Q) X.xe s
def PT(X:Cx)(e:qO)(t:TT):Prop:=
 ∀(jR:List (qM×Obj))(s:qU)(σ:St)(H:Hp)(Q:Bool->Hp->Prop),Inv X jR σ H s->t σ H Q->jA (j5 X.prog X.w) X.A (isTrue e X.env (eval e X.env)) (TP X jR σ Q) X.xe s
def PW(X:Cx)(e:qO)(t:TT):Prop:=
 ∀(whole:Sem jZ)(jR:List (qM×Obj))(s:qU)(σ:St)(H:Hp)(Q:Bool->Hp->Prop),Inv X jR σ H s->t σ H Q->jA (j5 X.prog X.w) X.A (isTrue e X.env whole) (TP X jR σ Q) X.xe s
theorem PW.pt{t:TT}(h:PW X e t):PT X e t:=h _
def PA(X:Cx)(es:List qO)(t:TA):Prop:=
 ∀(pos:Pos)(jR:List (qM×Obj))(s:qU)(σ:St)(H:Hp)(Q:List V->Hp->Prop),Inv X jR σ H s->t σ H Q->jA (j5 X.prog X.w) X.A (spliced (jW pos (j8 es X.env))) (AP X jR σ Q) X.xe s
def PS(X:Cx)(st:jQ)(t:TS):Prop:=
 ∀(jR:List (qM×Obj))(s:qU)(σ:St)(H:Hp)(D:Ends),Inv X jR σ H s->t D σ H->jA (j5 X.prog X.w) X.A (exec st X.env) (SP X jR D) X.xe s
def PSs(X:Cx)(st:List jQ)(t:TS):Prop:=
 ∀(jR:List (qM×Obj))(s:qU)(σ:St)(H:Hp)(D:Ends),Inv X jR σ H s->t D σ H->jA (j5 X.prog X.w) X.A (execs st X.env) (SP X jR D) X.xe s
theorem thn{α:Type}{t:Sem α}{Q Q':α->qU->Prop}{M:Model}(h:jA M A t Q E s)(hQ:∀a s,Q a s->Q' a s):jA M A t Q' E s:=jG h hQ λ_ _ x=>x
section
variable{X:Cx}
noncomputable def Ir(i:Nat):TE:=λσ H Q=>∃v,σ[i]?=jS (jS v)/\Q v H
noncomputable def tC(v:V):TE:=λ_ H Q=>Q v H
theorem K9{pos:Pos}(hN:X.N[i]?=jS x)(hv:Vis X.env.scope x)(hd:(x==("__debug__":Str))=xQ:=by decide)(hcd:(x==("__classdict__":Str))=xQ:=by decide):PE X (.Name x pos) (Ir i):=by
 intro jR s σ H Q I h;obtain⟨v,e,h⟩:=h;obtain⟨m,hn,hl⟩:=I.loc;obtain⟨u,r,l⟩:=hl i x v hN e hv;have fin:EP X jR σ Q u s:=⟨v,H,I,r,h⟩;rcases l with⟨hk,hm⟩|⟨hk,c,hc,hcell⟩
 ·exact wpAny_Name (wpAny_loadName_local I.ok.kind hk hn hm fin) hd
 ·rcases hk with hk|hk
  ·exact wpAny_Name (wpAny_loadName_cell I.ok.kind hk hc hcell fin) hd
  ·exact wpAny_Name (wpAny_loadName_free I.ok.kind hk hc hcell fin hcd) hd
theorem ZEg{i j pos}:PE X (.Constant (.int i) j pos) (tC (.int i)):=λ_ _ _ H _ I h=>wpAny_Constant_int ⟨.int i,H,I.tok _,⟨_,rfl⟩,h⟩
theorem ZEu{b j pos}:PE X (.Constant (.bool b) j pos) (tC (.bl b)):=λ_ _ _ H _ I h=>Constant_bool ⟨.bl b,H,I,rfl,h⟩
theorem ZCR{j pos}:PE X (.Constant .none j pos) (tC .non):=λ_ _ _ H _ I h=>Constant_none ⟨.non,H,I,rfl,h⟩
theorem Tt{x j pos}:PE X (.Constant (.str x) j pos) (tC (.str x)):=λ_ _ _ H _ I h=>Calls.Constant_str ⟨.str x,H,I.tok _,⟨_,rfl⟩,h⟩
def Gl(X:Cx)(x:Str):Prop:=X.env.kindOf x=jS .globalImplicit
theorem Ip{E:jZ->qU->Prop}{pos:Pos}{Q:jZ->qU->Prop}(I:Inv X jR σ H s)(hg:Gl X x)(hm:X.mg x=jS u)(h:Q u s)
  (hd:(x==("__debug__":Str))=xQ:=by decide):jA (j5 X.prog X.w) X.A (eval (.Name x pos) X.env) Q E s:=
 Calls.Name_function_global I.ok.kind hg (Calls.loadGlobal_global (by rw[I.ok.glob];exact I.mod.glob.keeps I.bk) hm h) hd
theorem Ka{E:jZ->qU->Prop}{pos:Pos}{Q:jZ->qU->Prop}(I:Inv X jR σ H s)(hg:Gl X x)(hm:X.mg x=jT)(hv:jq x=jS u)(h:Q u s)
  (hn:x≠"__name__":=by decide) (hd:(x==("__debug__":Str))=xQ:=by decide):jA (j5 X.prog X.w) X.A (eval (.Name x pos) X.env) Q E s:=by
 obtain⟨mb,h1,h2⟩:=I.mod.blt;exact Calls.Name_function_global I.ok.kind hg (Calls.loadGlobal_builtin (by rw[I.ok.glob];exact I.mod.glob.keeps I.bk) hm (by rw[I.ok.blt];exact h1.keeps I.bk) ((h2 x hn).trans hv) h) hd
theorem S8{pos:Pos}(hg:Gl X x)(hm:X.mg x=jS u)(r:RelV v u)(hd:(x==("__debug__":Str))=xQ:=by decide):PE X (.Name x pos) (tC v):=
 λ_ _ _ H _ I h=>Ip I hg hm ⟨v,H,I,r,h⟩ hd
theorem Yn{pos:Pos}(hg:Gl X x)(hm:X.mg x=jT)(hv:jq x=jS u)(r:RelV v u)(hn:x≠"__name__":=by decide)(hd:(x==("__debug__":Str))=xQ:=by decide):PE X (.Name x pos) (tC v):=
 λ_ _ _ H _ I h=>Ka I hg hm hv ⟨v,H,I,r,h⟩ hn hd
variable{a b:qO}{ta tb:TE}{pos:Pos}
def PC(X:Cx)(op:CmpOp)(a b:qO)(t:TE):Prop:=
 ∀(jR:List (qM×Obj))(s:qU)(σ:St)(H:Hp)(Q:VK),Inv X jR σ H s->t σ H Q->
  jA (j5 X.prog X.w) X.A (eval a X.env) (λv s₁=>jA (j5 X.prog X.w) X.A (eval b X.env) (λu s₂=>jA (j5 X.prog X.w) X.A (jx op v u) (EP X jR σ Q) X.xe s₂) X.xe s₁) X.xe s
noncomputable def tB(t:TE):TT:=λσ H Q=>t σ H λx H1=>∃c,x=.bl c/\Q c H1
theorem ZFC{t:TE}(h:PE X e t)(he:∀whole,isTrue e X.env whole=(do let v<-whole;standAt e.pos;holding [v] (truthy v)):=by intro _;rfl):PT X e (tB t):=by intro jR s σ H Q I hw;refine isTrue_plain (thn (h jR s σ H _ I hw) λv s1 ⟨x,H1,I1,r1,q1⟩=>?_) (he _);obtain⟨d,rfl,q⟩:=q1;cases r1;exact jN ⟨H1,I1,q⟩
variable{tA tB':TT}{rest:List qO}
noncomputable def tAnd(t u:TT):TT:=λσ H Q=>t σ H λc H1=>if c=jU then u σ H1 Q else Q xQ H1
noncomputable def tOr(t u:TT):TT:=λσ H Q=>t σ H λc H1=>if c=jU then Q jU H1 else u σ H1 Q
noncomputable def tNot(t:TT):TT:=λσ H Q=>t σ H λc H1=>Q (!c) H1
theorem pw_and1(ha:PT X a tA):PW X (.BoolOp .And [a] pos) tA:=by
 intro wh jR s σ H Q I h;refine isTrue_and (thn (ha jR s σ H Q I h) λc s1 e=>?_);cases c with
 |true=>exact isTrue_and_nil e
 |false=>exact e
theorem pw_or1(ha:PT X a tA):PW X (.BoolOp .Or [a] pos) tA:=by
 intro wh jR s σ H Q I h;refine isTrue_or (thn (ha jR s σ H Q I h) λc s1 e=>?_);cases c with
 |false=>exact isTrue_or_nil e
 |true=>exact e
theorem pw_and(ha:PT X a tA)(hb:PW X (.BoolOp .And (b::rest) pos) tB'):PW X (.BoolOp .And (a::b::rest) pos) (tAnd tA tB'):=by
 intro wh jR s σ H Q I h;refine isTrue_and (thn (ha jR s σ H _ I h) λc s1 ⟨H1,I1,q1⟩=>?_);cases c with
 |true=>exact hb wh jR s1 σ H1 Q I1 q1
 |false=>exact⟨H1,I1,q1⟩
theorem pw_or(ha:PT X a tA)(hb:PW X (.BoolOp .Or (b::rest) pos) tB'):PW X (.BoolOp .Or (a::b::rest) pos) (tOr tA tB'):=by
 intro wh jR s σ H Q I h;refine isTrue_or (thn (ha jR s σ H _ I h) λc s1 ⟨H1,I1,q1⟩=>?_);cases c with
 |true=>exact⟨H1,I1,q1⟩
 |false=>exact hb wh jR s1 σ H1 Q I1 q1
theorem ZAS(ha:PT X a tA):PT X (.UnaryOp .Not a pos) (tNot tA):=by intro jR s σ H Q I h;exact isTrue_not (ha jR s σ H (λc H1=>Q (!c) H1) I h)
noncomputable def ZCK(ta tb:TE):TE:=λσ H Q=>ta σ H λx H1=>∃c,x=.bl c/\if c=jU then tb σ H1 Q else Q (.bl xQ) H1
noncomputable def tOrV(ta tb:TE):TE:=λσ H Q=>ta σ H λx H1=>∃c,x=.bl c/\if c=jU then Q (.bl jU) H1 else tb σ H1 Q
noncomputable def ZDV(ta:TE):TE:=λσ H Q=>ta σ H λx H1=>∃c,x=.bl c/\Q (.bl (!c)) H1
theorem ZDk{op}{t:TE}(h:PE X a t):PE X (.BoolOp op [a] pos) t:=λjR s σ H Q I hw=>BoolOp_one (h jR s σ H Q I hw)
theorem ZB1(ha:PE X a ta)(hb:PE X (.BoolOp .And (b::rest) pos) tb):PE X (.BoolOp .And (a::b::rest) pos) (ZCK ta tb):=by
 intro jR s σ H Q I h;refine BoolOp_and (thn (ha jR s σ H _ I h) λv s1 ⟨x,H1,I1,r1,q1⟩=>?_);obtain⟨c,rfl,q1⟩:=q1;cases r1;refine jN ?_;cases c with
 |true=>exact hb jR s1 σ H1 Q I1 q1
 |false=>exact⟨.bl xQ,H1,I1,rfl,q1⟩
theorem ZDm(ha:PE X a ta)(hb:PE X (.BoolOp .Or (b::rest) pos) tb):PE X (.BoolOp .Or (a::b::rest) pos) (tOrV ta tb):=by
 intro jR s σ H Q I h;refine BoolOp_or (thn (ha jR s σ H _ I h) λv s1 ⟨x,H1,I1,r1,q1⟩=>?_);obtain⟨c,rfl,q1⟩:=q1;cases r1;refine jN ?_;cases c with
 |false=>exact hb jR s1 σ H1 Q I1 q1
 |true=>exact⟨.bl jU,H1,I1,rfl,q1⟩
theorem ZCT(ha:PE X a ta):PE X (.UnaryOp .Not a pos) (ZDV ta):=by intro jR s σ H Q I h;refine UnaryOp_ (thn (ha jR s σ H _ I h) λv s1 ⟨x,H1,I1,r1,q1⟩=>?_);obtain⟨c,rfl,q1⟩:=q1;cases r1;exact not_of (jN ⟨.bl (!c),H1,I1,rfl,q1⟩)
noncomputable def tIf(t:TT)(ta tb:TE):TE:=λσ H Q=>t σ H λc H1=>if c=jU then ta σ H1 Q else tb σ H1 Q
theorem ZEL{c:qO}(hc:PT X c tA)(ha:PE X a ta)(hb:PE X b tb):PE X (.IfExp c a b pos) (tIf tA ta tb):=by
 intro jR s σ H Q I h;refine wpAny_IfExp (thn (hc jR s σ H _ I h) λd s1 ⟨H1,I1,q1⟩=>?_);cases d with
 |true=>exact ha jR s1 σ H1 Q I1 q1
 |false=>exact hb jR s1 σ H1 Q I1 q1
end
def SqL(K:PySem.W.Frag)(H:Hp)(a:qM)(xs:List V):Prop:=
 Rd H a (.lst xs)∨
  ∃(o:Obj)(its:Array jZ)(n:Nat),K.lookup a=jS o/\o.cls=.type "list"/\o.dict=jT/\o.data=.seq its n/\its.size<=sizeLine/\Vals xs its.toList
def SqT(K:PySem.W.Frag)(H:Hp)(a:qM)(xs:List V):Prop:=
 Rd H a (.tup xs)∨
  ∃(o:Obj)(its:Array jZ)(n:Nat),K.lookup a=jS o/\o.cls=.type "tuple"/\o.data=.seq its n/\its.size<=sizeLine/\Vals xs its.toList
noncomputable def absV:jZ->Option V
 |.none=>jS .non
 |.bool b=>jS (.bl b)
 |.int i _=>jS (.int i)
 |.str x _=>jS (.str x)
 |.bytes b _=>jS (.byt b)
 |.float b _=>jS (.flt b)
 |.ref a=>jS (.ref a)
 |.type n=>jS (.ty n)
 |_=>jT
theorem RelV.abs{x:V}(r:RelV x u):absV u=jS x:=by
 cases x with
 |non=>cases r;rfl
 |bl _=>cases r;rfl
 |int _=>obtain⟨t,rfl⟩:=r;rfl
 |str _=>obtain⟨t,rfl⟩:=r;rfl
 |byt _=>obtain⟨t,rfl⟩:=r;rfl
 |flt _=>obtain⟨t,rfl⟩:=r;rfl
 |ref _=>cases r;rfl
 |ty _=>cases r;rfl
theorem RelV.inj{x y:V}(r:RelV x u)(q:RelV y u):x=y:=Option.some.inj (r.abs.symm.trans q.abs)
theorem Vals.inj:∀{xs ys:List V}{us:List jZ},Vals xs us->Vals ys us->xs=ys
 |_,_,_,.nil,.nil=>rfl
 |_,_,_,.cons r t,.cons r' t'=>by rw[r.inj r',Vals.inj t t']
section
variable{X:Cx}{jR:List (qM×Obj)}{σ:St}{H:Hp}{s:qU}{a:qM}{xs ys:List V}
theorem SqL.of(h:H a=jS (.lst xs)):SqL K H a xs:=.inl (.inl h)
theorem SqT.of(h:H a=jS (.tup xs)):SqT K H a xs:=.inl (.inl h)
theorem Inv.list(I:Inv X jR σ H s)(h:SqL X.K H a xs):∃its:List jZ,Vals xs its/\PlainL s.heap a its.toArray/\xs.length<=sizeLine:=by
 rcases h with h|⟨o,its,n,hk,hc,hd,hs,hz,r⟩
 ·obtain⟨z,its,n,r,e⟩:=h.ok I.hok;exact⟨its,r,⟨_,n,e,rfl,rfl,rfl⟩,z⟩
 ·refine⟨its.toList,r,⟨o,n,I.kIn a o hk,hc,hd,by simpa using hs⟩,?_⟩;have e:=r.length;simp only[qQ]at e;lia
theorem Inv.tuple(I:Inv X jR σ H s)(h:SqT X.K H a xs):∃its:List jZ,Vals xs its/\IsTup s.heap a its.toArray/\xs.length<=sizeLine:=by
 rcases h with h|⟨o,its,n,hk,hc,hs,hz,r⟩
 ·obtain⟨z,its,r,p⟩:=h.ok I.hok;exact⟨its,r,p,z⟩
 ·refine⟨its.toList,r,⟨o,I.kIn a o hk,hc,n,by simpa using hs⟩,?_⟩;have e:=r.length;simp only[qQ]at e;lia
theorem Inv.Rb(I:Inv X jR σ H s)(h:SqL X.K H a xs)(h':SqL X.K H a ys):xs=ys:=by
 obtain⟨its,r,⟨o,n,e,_,_,d⟩,_⟩:=I.list h;obtain⟨its',r',⟨o',n',e',_,_,d'⟩,_⟩:=I.list h';rw[e]at e';cases e';rw[d]at d';injection d' with d1 _
 have:its=its':=by simpa using congrArg Array.toList d1
 subst this;exact r.inj r'
theorem Inv.Q3(I:Inv X jR σ H s)(h:SqT X.K H a xs)(h':SqT X.K H a ys):xs=ys:=by
 obtain⟨its,r,⟨o,e,_,n,d⟩,_⟩:=I.tuple h;obtain⟨its',r',⟨o',e',_,n',d'⟩,_⟩:=I.tuple h';rw[e]at e';cases e';rw[d]at d';injection d' with d1 _
 have:its=its':=by simpa using congrArg Array.toList d1
 subst this;exact r.inj r'
end
noncomputable abbrev Cx.wish(X:Cx)(E:jZ->qU->Prop):Cx:={X with xe:=E}
noncomputable abbrev Cx.nox(X:Cx):Cx:=X.wish λ_ _=>False
theorem Cx.Ok.wish(ok:X.Ok)(E:jZ->qU->Prop):(X.wish E).Ok:=
 ⟨ok.mod,ok.kind,ok.glob,ok.blt,ok.above,ok.inj,ok.has,ok.cab,ok.hd,ok.frames,ok.stk,ok.exf,ok.bs,ok.bsz,ok.noex,ok.exfs,ok.funs,ok.frf⟩
theorem Cx.Ok.unwish(ok:(X.wish E).Ok):X.Ok:=
 ⟨ok.mod,ok.kind,ok.glob,ok.blt,ok.above,ok.inj,ok.has,ok.cab,ok.hd,ok.frames,ok.stk,ok.exf,ok.bs,ok.bsz,ok.noex,ok.exfs,ok.funs,ok.frf⟩
section
variable{X:Cx}{jR:List (qM×Obj)}{σ:St}{H:Hp}{s:qU}{E:jZ->qU->Prop}
theorem Inv.wish(I:Inv X jR σ H s)(E:jZ->qU->Prop):Inv (X.wish E) jR σ H s:=⟨I.ok.wish E,I.os,I.bare,I.base,I.loc,I.cell,I.free,I.Dz,I.pin,I.hok,I.len⟩
theorem Inv.unwish(I:Inv (X.wish E) jR σ H s):Inv X jR σ H s:=⟨I.ok.unwish,I.os,I.bare,I.base,I.loc,I.cell,I.free,I.Dz,I.pin,I.hok,I.len⟩
theorem SP.unwish{D:Ends}{f:Flow}{s':qU}(h:SP (X.wish E) jR D f s'):SP X jR D f s':=by
 cases f with
 |next=>obtain⟨σ',H',I,q⟩:=h;exact⟨σ',H',I.unwish,q⟩
 |brk=>obtain⟨σ',H',I,q⟩:=h;exact⟨σ',H',I.unwish,q⟩
 |cont=>obtain⟨σ',H',I,q⟩:=h;exact⟨σ',H',I.unwish,q⟩
 |ret u=>obtain⟨v,σ',H',I,r,q⟩:=h;exact⟨v,σ',H',I.unwish,r,q⟩
theorem PSs.nox{st:List jQ}{t:TS}(h:PSs X.nox st t):PSs X st t:=λjR s σ H D I hw=>
 jG (h jR s σ H D (I.wish _) hw) (λ_ _ q=>q.unwish) λ_ _ z=>False.elim z
end
section
variable{X:Cx}{st:jQ}{rest:List jQ}{t u:TS}{e:qO}{te:TE}{pos:Pos}
noncomputable def ZA6:TS:=λD σ H=>D.nx σ H
noncomputable def tSeq(t u:TS):TS:=λD σ H=>t {D with nx:=u D} σ H
theorem ZBr:PSs X [] ZA6:=λ_ _ σ H _ I h=>wpAny_execs_nil ⟨σ,H,I,h⟩
theorem Yb(h1:PS X st t)(h2:PSs X rest u):PSs X (st::rest) (tSeq t u):=by
 intro jR s σ H D I h;refine wpAny_execs_cons (thn (h1 jR s σ H {D with nx:=u D} I h) λf s1 q=>?_);cases f with
 |next=>
  obtain⟨σ',H',I',q⟩:=q;exact h2 jR s1 σ' H' D I' q
 |ret v=>exact q
 |brk=>exact q
 |cont=>exact q
theorem Ww(h1:PS X st t):PSs X [st] t:=by
 intro jR s σ H D I h;refine wpAny_execs_cons (thn (h1 jR s σ H D I h) λf s1 q=>?_);cases f with
 |next=>exact wpAny_execs_nil q
 |ret v=>exact q
 |brk=>exact q
 |cont=>exact q
theorem Inv.quiet(I:Inv X jR σ H s):interactive X.env=xQ:=by simp[interactive,I.ok.kind]
noncomputable def ZAe(te:TE):TS:=λD σ H=>te σ H λ_ H1=>D.nx σ H1
theorem Y9(he:PE X e te)(hs:swapsWith e jT pos.line X.env=pure xQ:=by rfl):PS X (.Expr e pos) (ZAe te):=by intro jR s σ H D I h;exact wpAny_Expr_any (thn (he jR s σ H _ I h) λv s1 ⟨x,H1,I1,r1,q1⟩=>⟨σ,H1,I1,q1⟩) I.quiet hs
noncomputable def tRet(te:TE):TS:=λD σ H=>te σ H D.rt
theorem ZDf(he:PE X e te):PS X (.Return (jS e) pos) (tRet te):=by intro jR s σ H D I h;exact wpAny_Return_some (thn (he jR s σ H _ I h) λv s1 ⟨x,H1,I1,r1,q1⟩=>⟨x,σ,H1,I1,r1,q1⟩)
noncomputable def tIfS(c:TT)(t u:TS):TS:=λD σ H=>c σ H λb H1=>if b=jU then t D σ H1 else u D σ H1
theorem ZEk{c:qO}{a b:List jQ}{tc:TT}(hc:PT X c tc)(ha:PSs X a t)(hb:PSs X b u):PS X (.If c a b pos) (tIfS tc t u):=by
 intro jR s σ H D I h;refine wpAny_If (thn (hc jR s σ H _ I h) λd s1 ⟨H1,I1,q1⟩=>?_);cases d with
 |true=>exact ha jR s1 σ H1 D I1 q1
 |false=>exact hb jR s1 σ H1 D I1 q1
end
noncomputable abbrev TG:=V->St->Hp->(St->Hp->Prop)->Prop
noncomputable abbrev TGs:=List V->St->Hp->(St->Hp->Prop)->Prop
def PG(X:Cx)(target:qO)(t:TG):Prop:=
 ∀(jR:List (qM×Obj))(s:qU)(σ:St)(H:Hp)(v:V)(u:jZ)(Q:St->Hp->Prop),Inv X jR σ H s->RelV v u->t v σ H Q->
  jA (j5 X.prog X.w) X.A (assign target X.env u) (λ_ s'=>∃σ' H',Inv X jR σ' H' s'/\Q σ' H') X.xe s
def PGs(X:Cx)(ts:List qO)(t:TGs):Prop:=
 ∀(jR:List (qM×Obj))(s:qU)(σ:St)(H:Hp)(vs:List V)(us:List jZ)(Q:St->Hp->Prop),Inv X jR σ H s->Vals vs us->t vs σ H Q->
  jA (j5 X.prog X.w) X.A (assignInOrder ((jX ts X.env).map (·.2)) us) (λ_ s'=>∃σ' H',Inv X jR σ' H' s'/\Q σ' H') X.xe s
section
variable{X:Cx}{pos:Pos}
noncomputable def Zn(i:Nat):TG:=λv σ H Q=>Q (σ.set i (jS v)) H
theorem ZAM(hN:X.N.Nodup)(hi:X.N[i]?=jS x)(hx:Loc X.env.scope x)(hf:X.fn x=jU∨X.env.scope.names.lookup x=jS .local:=by first|exact .inl rfl|exact .inr rfl|assumption):PG X (.Name x pos) (Zn i):=by intro jR s σ H v u Q I r h;exact wpAny_assign_Name (R5 I hN hi hx r (λs' I'=>⟨_,H,I',h⟩) hf)
noncomputable def gNil:TGs:=λvs σ H Q=>vs=[]/\Q σ H
noncomputable def ZCI(t:TG)(u:TGs):TGs:=λvs σ H Q=>∃v r,vs=v::r/\t v σ H λσ' H'=>u r σ' H' Q
theorem ZAv:PGs X [] gNil:=by intro jR s σ H vs us Q I r h;obtain⟨e,h⟩:=h;subst e;cases r;exact assignInOrder_nil ⟨σ,H,I,h⟩
theorem ZAr{es:List qO}{t:TG}{u:TGs}(h1:PG X e t)(h2:PGs X es u)
  (hs:(jX (e::es) X.env).map (·.2)=assign e X.env::(jX es X.env).map (·.2):=by rfl):PGs X (e::es) (ZCI t u):=by
 intro jR s σ H vs us Q I r h;obtain⟨v,vr,e1,h⟩:=h;subst e1;cases r with
 |cons r rr=>
  rw[hs];refine assignInOrder_cons (thn (h1 jR s σ H _ _ _ I r h) λ_ s1 ⟨σ1,H1,I1,q1⟩=>?_);exact h2 jR s1 σ1 H1 _ _ Q I1 rr q1
noncomputable def gTup(K:PySem.W.Frag)(n:Nat)(t:TGs):TG:=λv σ H Q=>∃a xs,v=.ref a/\SqT K H a xs/\xs.length=n/\t xs σ H Q
theorem ZFQ{es:List qO}{k:Nat}{t:TGs}{n:Nat}(hc:X.calm=jU)(h:PGs X es t)
  (hn:(jX es X.env).length=n:=by rfl) (hst:(jX es X.env).findIdx? (·.1)=jT:=by rfl):PG X (.Tuple es k pos) (gTup X.K n t):=by
 intro jR s σ H v u Q I r hw;obtain⟨a,xs,e1,hq,hl,hw⟩:=hw;subst e1;cases r;obtain⟨its,rv,ht,hz⟩:=I.tuple hq;refine assign_Tuple_tuple (I.ok.hd hc) ht (by simp[hn,<-hl,rv.length]) hst λh' hx=>?_
 have I1:Inv X jR σ H {s with heap:=h'}:=I.kept (t':=s.toks) λb o e=>hx b o (zA (zX e)) e
 exact h jR _ σ H xs _ Q I1 (by simpa using rv) hw
noncomputable def Ur(te:TE)(g:TG):TS:=λD σ H=>te σ H λx H1=>g x σ H1 D.nx
theorem ZAm{te:TE}{g:TG}(he:PE X e te)(hg:PG X tg g)(hs:swapsWithSole [tg] e pos.line X.env=pure xQ:=by rfl)(hw:swappedStores [tg] e X.env=pure jT:=by rfl)
  (h1:(jX [tg] X.env).map (·.2)=[assign tg X.env]:=by rfl):PS X (.Assign [tg] e pos) (Ur te g):=by
 intro jR s σ H D I h;refine wpAny_Assign_stores (thn (he jR s σ H _ I h) λv s1 ⟨x,H1,I1,r1,q1⟩=>?_) hs hw;rw[h1];exact thn (hg jR s1 σ H1 x v _ I1 r1 q1) λ_ s2 q=>q
theorem ZCN{te:TE}{pos':Pos}(hN:X.N.Nodup)(hi:X.N[i]?=jS x)(hx:Loc X.env.scope x)(he:PE X e te)(hs:swapsWith e (jS (.Name x pos')) pos.line X.env=pure xQ:=by rfl)(hf:X.fn x=jU∨X.env.scope.names.lookup x=jS .local:=by first|exact .inl rfl|exact .inr rfl|assumption):
  PS X (.Assign [.Name x pos'] e pos) (Ur te (Zn i)):=by
 intro jR s σ H D I h;refine wpAny_Assign_Name (thn (he jR s σ H _ I h) λv s1 ⟨y,H1,I1,r1,q1⟩=>?_) hs;exact R5 I1 hN hi hx r1 (λs2 I2=>⟨_,H1,I2,q1⟩) hf
end
section
variable{X:Cx}{pos:Pos}
end
structure It where
 go:Nat->Hp->Prop
 yld:Nat->Hp->V->Hp->Prop
 stop:Nat->Hp->Prop
def FpOk(X:Cx)(jR:List (qM×Obj))(H:Hp)(b:qM):Prop:=
 H b=jT/\b≠X.env.locals/\b∉X.fs/\(b∈X.ex∨X.s₀.heap.objs.size<=b)/\(∀x c,X.env.cells.lookup x=jS c->c≠b)/\∀p∈X.pn++jR,p.1≠b
theorem Inv.Jb{H':Hp}(I:Inv X jR σ H s)(hb:s.heap.objs.size<=b)(hn:H' b=jT):FpOk X jR H' b:=by
 refine⟨hn,q8 (zJ I.lt hb),I.nofs hb,.inr (z0 I.sz hb),λx c e z=>?_,λp hp z=>?_⟩
 ·obtain⟨v,q⟩:=I.cell x c e;exact absurd (zJ q.lt (by rw[z];exact hb)) (zB _)
 ·exact absurd (zJ (zX (I.pin p hp).1) (by rw[z];exact hb)) (zB _)
structure Turn (P:qS) (w:jJ) (K:PySem.W.Frag) (tg:qO) (J:It) (fp:List qM) (it:qM) (tn:Nat->Heap->Prop):Prop where
 mem:it∈fp
 obj:∀i h,tn i h->∀b∈fp,∃o,h.get? b=jS o/\∀v,o.data≠ .cell v
 keep:∀i h h',tn i h->(∀b∈fp,∀o,h.get? b=jS o->h'.get? b=jS o)->tn i h'
 item:∀(X:Cx),X.prog=P->X.w=w->X.K=K->X.calm=jU->∀(i:Nat)(jR:List (qM×Obj))(s:qU)(σ:St)(H:Hp)(E:jZ->qU->Prop),Inv X jR σ H s->(∀b∈fp,FpOk X jR H b)->tn i s.heap->J.go i H->
  jA (j5 P w) X.A (pyNext (.ref it)) (λr s1=>∃u,r=jS u/\
   jA (j5 P w) X.A (j3 tg (.ref it) u) (λ_ s2=>∃x H',Inv X jR σ H' s2/\RelV x u/\J.yld i H x H'/\tn (i+1) s2.heap/\∀b∈fp,H' b=jT) E s1) E s
 done:∀(X:Cx),X.prog=P->X.w=w->X.K=K->X.calm=jU->∀(i:Nat)(jR:List (qM×Obj))(s:qU)(σ:St)(H:Hp)(E:jZ->qU->Prop),Inv X jR σ H s->(∀b∈fp,FpOk X jR H b)->tn i s.heap->J.stop i H->
  jA (j5 P w) X.A (pyNext (.ref it)) (λr s1=>r=jT/\Inv X jR σ H s1) E s
 self:∀(A:qN)(i:Nat)(s:qU)(Q:jZ->qU->Prop)(E:jZ->qU->Prop),tn i s.heap->Q (.ref it) s->jA (j5 P w) A (pyIter (.ref it)) Q E s
noncomputable abbrev TI:=St->Hp->(It->Hp->Prop)->Prop
def PIE(X:Cx)(jR:List (qM×Obj))(σ:St)(tg:qO)(R:It->Hp->Prop)(itv:jZ)(s2:qU):Prop:=
 ∃(it:qM)(fp:List qM)(tn:Nat->Heap->Prop)(J:It)(H':Hp),itv=.ref it/\Inv X jR σ H' s2/\Turn X.prog X.w X.K tg J fp it tn/\tn 0 s2.heap/\(∀b∈fp,FpOk X jR H' b)/\R J H'
def PI(X:Cx)(tg iter:qO)(wi:TI):Prop:=
 ∀(jR:List (qM×Obj))(s:qU)(σ:St)(H:Hp)(R:It->Hp->Prop),Inv X jR σ H s->wi σ H R->
  jA (j5 X.prog X.w) X.A (eval iter X.env) (λv s1=>jA (j5 X.prog X.w) X.A (pyIter v) (PIE X jR σ tg R) X.xe s1) X.xe s
theorem Lh{M:Model}{it:qM}{o:Obj}{n:String}{vs:Array jZ}(ho:s.heap.get? it=jS o)(hc:o.cls=.type n)(hd:o.data=.fields vs)
  (hn: ["enumerate","zip","dict_itemiterator","dict_reverseitemiterator","odict_iterator","itertools.zip_longest","itertools.pairwise"].contains n=xQ) (hQ:Q () s):jA M A (j3 tg (.ref it) u) Q E s:=by
 unfold j3
 cases tg<;>first
  |exact jL hQ
  | (cases u<;>first
    |exact jL hQ
    | (
      refine jC (wpAny_load ho ?_);rw[hc,hd];show jA M A (if(["enumerate","zip","dict_itemiterator","dict_reverseitemiterator","odict_iterator","itertools.zip_longest","itertools.pairwise"].contains n&&vs[0]?==jS (j6 _))=jU then _ else _) Q E s;rw[if_neg (by intro h;rw[hn,Bool.false_and]at h;cases h)];exact jL hQ))
noncomputable def Itl(K:PySem.W.Frag)(a:qM):It:=
 ⟨λi H=>∃xs x,SqL K H a xs/\xs[i]?=jS x,λi H x H'=>H'=H/\∀xs,SqL K H a xs->xs[i]?=jS x,λi H=>∃xs,SqL K H a xs/\xs.length<=i⟩
noncomputable def Itt(K:PySem.W.Frag)(a:qM):It:=
 ⟨λi H=>∃xs x,SqT K H a xs/\xs[i]?=jS x,λi H x H'=>H'=H/\∀xs,SqT K H a xs->xs[i]?=jS x,λi H=>∃xs,SqT K H a xs/\xs.length<=i⟩
noncomputable def Itr(lo:Int)(n:Nat):It:=⟨λi _=>i<n,λi H x H'=>H'=H/\x=.int (lo+i),λi _=>n<=i⟩
theorem ZE4(a it:qM):Turn P w K tg (Itl K a) [it] it (λi h=>h.IsListIter it a i) where
 mem:=by simp
 obj:=λi h st b hb=>by
  have e:b=it:=by simpa using hb
  subst e;obtain⟨o,e,c,d⟩:=st;exact⟨o,e,λv z=>by rw[d]at z;cases z⟩
 keep:=λi h h' st k=>st.at λo e=>k it (by simp) o e
 item:=by
  intro X hP hw hK hc i jR s σ H E I hf st hg;subst hP hw hK;obtain⟨xs,x,hq,hx⟩:=hg;obtain⟨its,rv,p,hz⟩:=I.list hq;obtain⟨u,hu,ru⟩:=rv.get hx;obtain⟨f0,f1,f2,f3,f4,f5⟩:=hf it (by simp);refine wpAny_pyNext_list_item st p.isList (x:=u) (by simpa using hu) λh' st' sb=>?_
  have I1:Inv X jR σ H {s with heap:=h'}:=I.turned (t':=s.toks) (λb o hb e=>(sb.2 b hb).trans e) f0 f1 f3 f4 f5;obtain⟨o,e,c,d⟩:=id st';exact⟨u,rfl,Lh (s:={s with heap:=h'}) e c d (by decide) ⟨x,H,I1,ru,⟨rfl,λys hy=>by rw[I.Rb hy hq];exact hx⟩,st',λb hb=>(hf b hb).1⟩⟩
 done:=by intro X hP hw hK hc i jR s σ H E I hf st hg;subst hP hw hK;obtain⟨xs,hq,hx⟩:=hg;obtain⟨its,rv,p,hz⟩:=I.list hq;obtain⟨f0,f1,f2,f3,f4,f5⟩:=hf it (by simp);have hl:=rv.length;exact wpAny_pyNext_list_end (I.ok.hd hc) st p.isList (by simp;lia) λh' eb=>⟨rfl,I.turned (t':=s.toks) (λb o hb e=>eb b o hb e) f0 f1 f3 f4 f5⟩
 self:=λ_ _ _ _ _ st h=>wpAny_pyIter_listiter st h
theorem ZC0(a it:qM):Turn P w K tg (Itt K a) [it] it (λi h=>h.IsTupleIter it a i) where
 mem:=by simp
 obj:=λi h st b hb=>by
  have e:b=it:=by simpa using hb
  subst e;obtain⟨o,e,c,d⟩:=st;exact⟨o,e,λv z=>by rw[d]at z;cases z⟩
 keep:=λi h h' st k=>st.at λo e=>k it (by simp) o e
 item:=by
  intro X hP hw hK hc i jR s σ H E I hf st hg;subst hP hw hK;obtain⟨xs,x,hq,hx⟩:=hg;obtain⟨its,rv,p,hz⟩:=I.tuple hq;obtain⟨u,hu,ru⟩:=rv.get hx;obtain⟨f0,f1,f2,f3,f4,f5⟩:=hf it (by simp)
  refine wpAny_pyNext_tuple_item st (show s.heap.IsTuple a its.toArray from p) (x:=u) (by simpa using hu) λh' st' sb=>?_
  have I1:Inv X jR σ H {s with heap:=h'}:=I.turned (t':=s.toks) (λb o hb e=>(sb.2 b hb).trans e) f0 f1 f3 f4 f5;obtain⟨o,e,c,d⟩:=id st';exact⟨u,rfl,Lh (s:={s with heap:=h'}) e c d (by decide) ⟨x,H,I1,ru,⟨rfl,λys hy=>by rw[I.Q3 hy hq];exact hx⟩,st',λb hb=>(hf b hb).1⟩⟩
 done:=by
  intro X hP hw hK hc i jR s σ H E I hf st hg;subst hP hw hK;obtain⟨xs,hq,hx⟩:=hg;obtain⟨its,rv,p,hz⟩:=I.tuple hq;obtain⟨f0,f1,f2,f3,f4,f5⟩:=hf it (by simp);have hl:=rv.length
  exact wpAny_pyNext_tuple_end (I.ok.hd hc) st (show s.heap.IsTuple a its.toArray from p) (by simp;lia) λh' eb=>⟨rfl,I.turned (t':=s.toks) (λb o hb e=>eb b o hb e) f0 f1 f3 f4 f5⟩
 self:=λ_ _ _ _ _ st h=>wpAny_pyIter_tupleiter st h
theorem ZBL(it:qM)(lo:Int)(n:Nat):Turn P w K tg (Itr lo n) [it] it (λi h=>IsRangeIter h it (lo+(i:Nat)*1) ((n:Int)-(i:Nat)) 1) where
 mem:=by simp
 obj:=λi h st b hb=>by
  have e:b=it:=by simpa using hb
  subst e;exact⟨_,st,λv z=>by have z':Data.fields _=Data.cell v:=z;cases z'⟩
 keep:=λi h h' st k=>k it (by simp) _ st
 item:=by
  intro X hP hw hK hc i jR s σ H E I hf st hg;subst hP hw hK;obtain⟨f0,f1,f2,f3,f4,f5⟩:=hf it (by simp);have W:=Walks.range (prog:=X.prog) (w:=X.w) (I.ok.hd hc) it lo 1 n;refine W.item i s _ _ hg st λv h' tk hv st' kk=>?_
  obtain⟨t,rfl⟩:=hv;have I1:Inv X jR σ H {s with heap:=h',toks:=tk}:=I.turned (λb o hb e=>kk b o (by simpa using hb) e) f0 f1 f3 f4 f5;refine⟨_,rfl,Lh (s:={s with heap:=h',toks:=tk}) (n:="range_iterator") st' rfl rfl (by decide) ⟨.int (lo+i),H,I1,⟨t,?_⟩,⟨rfl,rfl⟩,st',λb hb=>(hf b hb).1⟩⟩;rw[Int.mul_one]
 done:=by intro X hP hw hK hc i jR s σ H E I hf st hg;subst hP hw hK;obtain⟨f0,f1,f2,f3,f4,f5⟩:=hf it (by simp);exact wpAny_pyNext_range_end (I.ok.hd hc) st (by have:n<=i:=hg;lia) λh' eb=>⟨rfl,I.turned (t':=s.toks) (λb o hb e=>eb b o hb e) f0 f1 f3 f4 f5⟩
 self:=λ_ _ _ _ _ st h=>wpAny_pyIter_rangeiter st h
section
variable{X:Cx}{tg:qO}
def ZAd(K:PySem.W.Frag)(tl:TE):TI:=λσ H R=>tl σ H λx H1=>∃a,x=.ref a/\(∃xs,SqL K H1 a xs)/\R (Itl K a) H1
def iTup(K:PySem.W.Frag)(tl:TE):TI:=λσ H R=>tl σ H λx H1=>∃a,x=.ref a/\(∃xs,SqT K H1 a xs)/\R (Itt K a) H1
theorem U7{l:qO}{tl:TE}(hl:PE X l tl):PI X tg l (ZAd X.K tl):=by
 intro jR s σ H R I h;refine thn (hl jR s σ H _ I h) λv s1 ⟨x,H1,I1,r1,q1⟩=>?_
 obtain⟨a,e,⟨xs,hq⟩,q⟩:=q1;subst e;cases r1;obtain⟨its,rv,p,hz⟩:=I1.list hq;refine wpAny_pyIter_list p.isList ?_;refine⟨s1.heap.objs.size,[s1.heap.objs.size],_,_,H1,rfl,I1.kept (t':=s1.toks) λb o e=>zZ _ e,ZE4 a _,⟨_,zj _ rfl,rfl,rfl⟩,λb hb=>?_,q⟩;have e:b=s1.heap.objs.size:=by simpa using hb
 subst e;exact I1.Jb (zW _) (I1.hok.fresh (zW _))
theorem ZE8{l:qO}{tl:TE}(hl:PE X l tl):PI X tg l (iTup X.K tl):=by
 intro jR s σ H R I h;refine thn (hl jR s σ H _ I h) λv s1 ⟨x,H1,I1,r1,q1⟩=>?_
 obtain⟨a,e,⟨xs,hq⟩,q⟩:=q1;subst e;cases r1;obtain⟨its,rv,p,hz⟩:=I1.tuple hq
 refine wpAny_pyIter_tuple (show s1.heap.IsTuple a its.toArray from p) ?_
 refine⟨s1.heap.objs.size,[s1.heap.objs.size],_,_,H1,rfl,I1.kept (t':=s1.toks) λb o e=>zZ _ e,ZC0 a _,⟨_,zj _ rfl,rfl,rfl⟩,λb hb=>?_,q⟩;have e:b=s1.heap.objs.size:=by simpa using hb
 subst e;exact I1.Jb (zW _) (I1.hok.fresh (zW _))
theorem ZEH{R:It->Hp->Prop}{lo hi:Int}{t u v:Tok}{tk:Nat}(I:Inv X jR σ H s)(h1: -(2^62)<=lo)(h2:lo<2^62)(h3: -(2^62)<=hi)(h4:hi<2^62)
  (q:R (Itr lo (hi-lo).toNat) H):jA (j5 X.prog X.w) X.A (pyIter (.ref s.heap.objs.size)) (PIE X jR σ tg R) E {s with heap:=s.heap.push {cls:=.type "range",data:=.fields #[.int lo t,.int hi u,.int 1 v]},toks:=tk}:=by
 refine wpAny_pyIter_range (IsRange.new ..) (small_one h1 h2 h3 h4) ?_;have I1:Inv X jR σ H {s with heap:=s.heap.push {cls:=.type "range",data:=.fields #[.int lo t,.int hi u,.int 1 v]},toks:=tk}:=I.kept λb o e=>zZ _ e
 refine⟨(s.heap.push {cls:=.type "range",data:=.fields #[.int lo t,.int hi u,.int 1 v]}).objs.size,[(s.heap.push {cls:=.type "range",data:=.fields #[.int lo t,.int hi u,.int 1 v]}).objs.size],_,_,H,rfl,
  I1.kept (t':=tk) λb o e=>zZ _ e,ZBL _ lo (hi-lo).toNat,?_,λb hb=>?_,q⟩
 ·have e1:lo+((0:Nat):Int)*1=lo:=by simp
  have e2:(((hi-lo).toNat:Nat):Int)-((0:Nat):Int)=Builtin.Range.rangeSize lo hi 1:=by rw[rangeSize_one];split <;> lia
  show IsRangeIter _ _ (lo+((0:Nat):Int)*1) ((((hi-lo).toNat:Nat):Int)-((0:Nat):Int)) 1;rw[e1,e2];exact zj _ rfl
 ·have e:b=(s.heap.push {cls:=.type "range",data:=.fields #[.int lo t,.int hi u,.int 1 v]}).objs.size:=by simpa using hb
  subst e;exact I1.Jb (zW _) (I1.hok.fresh (zW _))
def ZB4(ta:TA):TI:=λσ H R=>ta σ H λvs H1=>∃j:Int,vs=[.int j]/\ -(2^62)<=j/\j<2^62/\R (Itr 0 j.toNat) H1
theorem ZD7{a:qO}{ta:TA}{p pos:Pos}(hg:Gl X "range")(hm:X.mg "range"=jT)(ha:PA X [a] ta)(hs:j8 [a] X.env=[(xQ,eval a X.env)]:=by rfl):PI X tg (.Call (.Name "range" p) [a] [] pos) (ZB4 ta):=by
 intro jR s σ H R I h;refine Call_ (Ka I hg hm boot_range (PyProof.Rows.callWith_type1 (thn (ha pos jR s σ H _ I h) λus s1 ⟨vs,H1,I1,r1,q1⟩=>?_) hs rfl));obtain⟨j,e,q1,q2,q⟩:=q1;subst e;cases r1 with
 |cons r rr=>
  cases rr;obtain⟨t,rfl⟩:=r;exact call_range_1 (ZEH I1 (by lia) (by lia) q1 q2 (by simpa using q))
def tFor(wi:TI)(g:TG)(tb:TS):TS:=λD σ H=>wi σ H λJ H1=>∃W:Nat->Nat->St->Hp->Prop,(∃m,W 0 m σ H1)/\∀i m σ H,W i m σ H->
 (J.stop i H/\D.nx σ H)∨(J.go i H/\∃N:St->Hp->Prop,(∀σ' H',N σ' H'->∃m',m'<m/\W (i+1) m' σ' H')/\∀x H',J.yld i H x H'->g x σ H' λσ2 H2=>tb {D with nx:=N,ct:=N,bk:=D.nx} σ2 H2)
noncomputable def K1(fp:List qM)(h:Heap):List (qM×Obj):=fp.filterMap λb=>(h.get? b).map λo=>(b,o)
theorem M9{o:Obj}(hb:b∈fp)(e:h.get? b=jS o):(b,o)∈K1 fp h:=List.mem_filterMap.mpr ⟨b,hb,by rw[e];rfl⟩
theorem Y4{p:qM×Obj}(hp:p∈K1 fp h):p.1∈fp/\h.get? p.1=jS p.2:=by
 obtain⟨b,hb,e⟩:=List.mem_filterMap.mp hp;cases q:h.get? b with
 |none=>rw[q]at e;cases e
 |some o=>
  rw[q]at e;have e':(b,o)=p:=Option.some.inj e;subst e';exact⟨hb,q⟩
theorem Inv.pinned(I:Inv X jR σ H s)(hf:∀b∈fp,FpOk X jR H b)(ho:∀b∈fp,∃o,s.heap.get? b=jS o/\∀v,o.data≠ .cell v):Inv X (jR++K1 fp s.heap) σ H s:=
 I.Hc λp hp=>(List.mem_append.mp hp).elim (λz=>I.pin p (zv _ z)) λz=>by obtain⟨hb,e⟩:=Y4 z;obtain⟨f0,f1,f2,_⟩:=hf p.1 hb;obtain⟨o,e',d⟩:=ho p.1 hb;rw[e]at e';cases e';exact⟨e,f0,f1,f2,d⟩
theorem Inv.unpinned{pl:List (qM×Obj)}(I:Inv X (jR++pl) σ H s):Inv X jR σ H s:=I.Hc λp hp=>I.pin p (zv _ (qE _ hp))
theorem ZC5{iter:qO}{body:List jQ}{wi:TI}{g:TG}{tb:TS}{pos:Pos}(hp:PassesOwn (j5 X.prog X.w) X.A X.env X.xe)(hc:X.calm=jU)(hi:PI X tg iter wi)(hg:PG X tg g)(hb:PSs X body tb)
  (hs:∀x,foldedSetIterable iter X.env x=pure x:=by intro _;rfl):PS X (.For tg iter body [] pos) (tFor wi g tb):=by
 intro jR s σ H D I h;refine wpAny_For (thn (hi jR s σ H _ I h) λv s1 h1=>thn h1 λitv s2 h2=>?_) hs;obtain⟨it,fp,tn,J,H2,e,I2,T,st2,f2,W,⟨m0,w0⟩,turn⟩:=h2;subst e;have stat:∀{H':Hp},(∀b∈fp,H' b=jT)->∀b∈fp,FpOk X jR H' b:=λhn b hb=>⟨hn b hb,(f2 b hb).2⟩
 refine codeAny_forLoop_any (λn s'=>∃i σ' H',Inv X jR σ' H' s'/\tn i s'.heap/\(∀b∈fp,H' b=jT)/\W i n σ' H') ?_ m0 ⟨0,σ,H2,I2,st2,λb hb=>(f2 b hb).1,w0⟩;rintro n s3 ⟨i,σ3,H3,I3,st3,fr3,w3⟩;rcases turn i n σ3 H3 w3 with⟨stop,qn⟩|⟨go,N,hN,step⟩
 ·refine jI hp (thn (T.done X rfl rfl rfl hc i jR s3 σ3 H3 X.xe I3 (stat fr3) st3 stop) λr s4 ⟨hr,I4⟩=>?_);subst hr;exact wpAny_execs_nil ⟨σ3,H3,I4,qn⟩
 ·refine jI hp (thn (T.item X rfl rfl rfl hc i jR s3 σ3 H3 X.xe I3 (stat fr3) st3 go) λr s4 ⟨u,hr,h4⟩=>?_);subst hr;refine jI hp (thn h4 λ_ s5 ⟨x,H5,I5,r5,y5,st5,fr5⟩=>?_);have I5':=I5.pinned (stat fr5) (T.obj _ _ st5);refine jI hp (thn (hg _ s5 σ3 H5 x u _ I5' r5 (step x H5 y5)) λ_ s6 ⟨σ6,H6,I6,q6⟩=>?_);refine jI hp (thn (hb _ s6 σ6 H6 _ I6 q6) λf s7 q7=>?_)
  have again:∀{σ7:St}{H7:Hp},Inv X (jR++K1 fp s5.heap) σ7 H7 s7->N σ7 H7->∃m,m<n/\∃i σ' H',Inv X jR σ' H' s7/\tn i s7.heap/\(∀b∈fp,H' b=jT)/\W i m σ' H':=λ{σ7 H7}I7 n7=>by obtain⟨m',hm,w7⟩:=hN σ7 H7 n7;refine⟨m',hm,i+1,σ7,H7,I7.unpinned,T.keep _ _ _ st5 λb hb o e=>(I7.pin (b,o) (zv _ (zv _ (M9 hb e)))).1,λb hb=>?_,w7⟩;obtain⟨o,e,d⟩:=T.obj _ _ st5 b hb;exact(I7.pin (b,o) (zv _ (zv _ (M9 hb e)))).2.1
  cases f with
  |next=>obtain⟨σ7,H7,I7,n7⟩:=q7;exact again I7 n7
  |cont=>obtain⟨σ7,H7,I7,n7⟩:=q7;exact again I7 n7
  |brk=>obtain⟨σ7,H7,I7,q7⟩:=q7;exact⟨σ7,H7,I7.unpinned,q7⟩
  |ret v=>obtain⟨x7,σ7,H7,I7,r7,q7⟩:=q7;exact⟨x7,σ7,H7,I7.unpinned,r7,q7⟩
end
noncomputable abbrev R2:=V->V->Hp->VK->Prop
variable{r:R2}
def OpR(X:Cx)(f:jZ->jZ->Sem jZ)(r:R2):Prop:=
 ∀(jR:List (qM×Obj))(s:qU)(σ:St)(H:Hp)(x y:V)(v u:jZ)(Q:VK),Inv X jR σ H s->RelV x v->RelV y u->r x y H Q->
  jA (j5 X.prog X.w) X.A (f v u) (EP X jR σ Q) X.xe s
def CallR(X:Cx)(f:jZ)(r:List V->Hp->VK->Prop):Prop:=
 ∀(jR:List (qM×Obj))(s:qU)(σ:St)(H:Hp)(xs:List V)(us:List jZ)(Q:VK),Inv X jR σ H s->Vals xs us->r xs H Q->
  jA (j5 X.prog X.w) X.A (call f us) (EP X jR σ Q) X.xe s
noncomputable def tOp(r:R2)(ta tb:TE):TE:=λσ H Q=>ta σ H λx H1=>tb σ H1 λy H2=>r x y H2 Q
noncomputable def rI(C:Int->Int->Prop)(g:Int->Int->V):R2:=λx y H Q=>∃i j,x=.int i/\y=.int j/\C i j/\Q (g i j) H
noncomputable def rI0(g:Int->Int->V):R2:=λx y H Q=>∃i j,x=.int i/\y=.int j/\Q (g i j) H
section
variable{X:Cx}{a b c:qO}{ta tb tc:TE}{pos:Pos}
theorem Qg(ha:PE X a ta)(hb:PE X b tb){R:V->V->Hp->Prop}(I:Inv X jR σ H s)
  (h:ta σ H λx H1=>tb σ H1 λy H2=>R x y H2) {Q:jZ->qU->Prop} {f:jZ->jZ->Sem jZ}
  (hf:∀v u s2 x y H2,Inv X jR σ H2 s2->RelV x v->RelV y u->R x y H2->jA (j5 X.prog X.w) X.A (f v u) Q X.xe s2):
  jA (j5 X.prog X.w) X.A (eval a X.env) (λv s₁=>jA (j5 X.prog X.w) X.A (eval b X.env) (λu s₂=>jA (j5 X.prog X.w) X.A (f v u) Q X.xe s₂) X.xe s₁) X.xe s:=by
 refine thn (ha jR s σ H _ I h) λv s1 ⟨x,H1,I1,r1,q1⟩=>?_
 refine thn (hb jR s1 σ H1 _ I1 q1) λu s2 ⟨y,H2,I2,r2,q2⟩=>?_
 exact hf v u s2 x y H2 I2 r1 r2 q2
theorem ZCW{op:Operator}(ho:OpR X (jY op) r)(ha:PE X a ta)(hb:PE X b tb):PE X (.BinOp a op b pos) (tOp r ta tb):=by intro jR s σ H Q I h;exact wpAny_BinOp (Qg ha hb I h λv u s2 x y H2 I2 rx ry q=>ho jR s2 σ H2 x y v u Q I2 rx ry q)
theorem opI{C:Int->Int->Prop}{g:Int->Int->Int}
  (rule:∀(i j:Int)(t u:Tok)(s:qU)(Q:jZ->qU->Prop)(E:jZ->qU->Prop),C i j->Q (.int (g i j) s.toks) {s with toks:=s.toks+1}->jA (j5 X.prog X.w) X.A (f (.int i t) (.int j u)) Q E s):
  OpR X f (rI C λi j=>.int (g i j)):=by
 intro jR s σ H x y v u Q I rx ry h;obtain⟨i,j,rfl,rfl,hc,q⟩:=h;obtain⟨t,rfl⟩:=rx;obtain⟨t',rfl⟩:=ry;exact rule i j t t' s _ _ hc ⟨.int (g i j),H,I.tok _,⟨_,rfl⟩,q⟩
theorem opI0{g:Int->Int->Int}
  (rule:∀(i j:Int)(t u:Tok)(s:qU)(Q:jZ->qU->Prop)(E:jZ->qU->Prop),Q (.int (g i j) s.toks) {s with toks:=s.toks+1}->jA (j5 X.prog X.w) X.A (f (.int i t) (.int j u)) Q E s):
  OpR X f (rI0 λi j=>.int (g i j)):=by
 intro jR s σ H x y v u Q I rx ry h;obtain⟨i,j,rfl,rfl,q⟩:=h;obtain⟨t,rfl⟩:=rx;obtain⟨t',rfl⟩:=ry;exact rule i j t t' s _ _ ⟨.int (g i j),H,I.tok _,⟨_,rfl⟩,q⟩
theorem M6{g:Int->Int->Bool}
  (rule:∀(i j:Int)(t u:Tok)(s:qU)(Q:jZ->qU->Prop)(E:jZ->qU->Prop),Q (.bool (g i j)) s->jA (j5 X.prog X.w) X.A (f (.int i t) (.int j u)) Q E s):
  OpR X f (rI0 λi j=>.bl (g i j)):=by
 intro jR s σ H x y v u Q I rx ry h;obtain⟨i,j,rfl,rfl,q⟩:=h;obtain⟨t,rfl⟩:=rx;obtain⟨t',rfl⟩:=ry;exact rule i j t t' s _ _ ⟨.bl (g i j),H,I,rfl,q⟩
def CPow(i j:Int):Prop:=0<=j/\j<=1000000/\i.natAbs<2^64
def CMul(i j:Int):Prop:=(-(2^64)<i/\i<2^64)∨(-(2^64)<j/\j<2^64)
theorem CMul.ok{i j:Int}(h:CMul i j):IntMulOk i j:=by
 rcases h with⟨h1,h2⟩|⟨h1,h2⟩
 ·exact .of_left (intBits_le_64 h1 h2)
 ·exact .of_right (intBits_le_64 h1 h2)
theorem ZDe:OpR X (jY .Add) (rI0 λi j=>.int (i+j)):=opI0 λ_ _ _ _ _ _ _ q=>add_int q
theorem ZCo:OpR X (jY .Sub) (rI0 λi j=>.int (i-j)):=opI0 λ_ _ _ _ _ _ _ q=>sub_int q
theorem ZFA:OpR X (jY .Mod) (rI (λ_ j=>0<j) λi j=>.int (i%j)):=opI λi j _ _ _ _ _ hc q=>by have h1:(0:Int)<j:=hc;exact mod_int' (by lia) (by rw[Int.fmod_eq_emod_of_nonneg i (by lia)];exact q)
theorem ZBX:OpR X (jY .Pow) (rI CPow λi j=>.int (i^j.toNat)):=opI λ_ _ _ _ _ _ _ hc q=>pow_int_small hc.1 hc.2.1 hc.2.2 q
end
section
variable{X:Cx}{a b c:qO}{ta tb tc:TE}{pos:Pos}
theorem Qw{Q:VK}{k k':Bool}(I:Inv X jR σ H s)(q:Q (.bl k) H)(e:k=k'):EP X jR σ Q (.bool k') s:=by subst e;exact⟨.bl k,H,I,rfl,q⟩
theorem ZC1:OpR X (jx .Lt) (rI0 λi j=>.bl (decide (i<j))):=M6 λ_ _ _ _ _ _ _ q=>lt_int q
theorem ZBB:OpR X (jx .LtE) (rI0 λi j=>.bl (decide (i<=j))):=M6 λ_ _ _ _ _ _ _ q=>le_int q
theorem ZBR:OpR X (jx .Gt) (rI0 λi j=>.bl (decide (j<i))):=M6 λ_ _ _ _ _ _ _ q=>gt_int q
theorem ZBc:OpR X (jx .GtE) (rI0 λi j=>.bl (decide (j<=i))):=M6 λ_ _ _ _ _ _ _ q=>ge_int q
theorem ZBU:OpR X (jx .Lt) (λx y H Q=>∃i j,x=.str i/\y=.str j/\Q (.bl (decide (i.cps.toList<j.cps.toList))) H):=by intro jR s σ H x y v u Q I rx ry h;obtain⟨i,j,rfl,rfl,q⟩:=h;obtain⟨t,rfl⟩:=rx;obtain⟨t',rfl⟩:=ry;exact lt_str (Qw I q rfl)
theorem ZAD:OpR X (jx .Is) (λx y H Q=>y=.non/\Q (.bl (decide (x=.non))) H):=by
 intro jR s σ H x y v u Q I rx ry h;obtain⟨rfl,q⟩:=h;cases ry;refine is_none_gen (Qw I q ?_)
 cases x<;>first
  |(cases rx;rfl)
  |(obtain⟨t,rfl⟩:=rx;rfl)
theorem ZCB:OpR X (jx .IsNot) (λx y H Q=>y=.non/\Q (.bl (!decide (x=.non))) H):=by
 intro jR s σ H x y v u Q I rx ry h;obtain⟨rfl,q⟩:=h;cases ry;refine isnot_none_gen (Qw I q ?_)
 cases x<;>first
  |(cases rx;rfl)
  |(obtain⟨t,rfl⟩:=rx;rfl)
theorem OpR.or{r':R2}(h:OpR X f r)(h':OpR X f r'):OpR X f (λx y H Q=>r x y H Q∨r' x y H Q):=by
 intro jR s σ H x y v u Q I rx ry q;rcases q with q|q
 ·exact h jR s σ H x y v u Q I rx ry q
 ·exact h' jR s σ H x y v u Q I rx ry q
theorem nomark(b:qO)(h:op≠ .In:=by decide)(h2:op≠ .NotIn:=by decide):jK op b=xQ:=by
 have e1:(op==CmpOp.In)=xQ:=by cases op<;>first|rfl|exact absurd rfl h
 have e2:(op==CmpOp.NotIn)=xQ:=by cases op<;>first|rfl|exact absurd rfl h2
 cases b<;>simp[jK,e1,e2]
theorem ZEf(ho:OpR X (jx op) r)(ha:PE X a ta)(hb:PE X b tb)(hm:jK op b=xQ):PE X (.Compare a [op] [b] pos) (tOp r ta tb):=by intro jR s σ H Q I h;exact wpAny_Compare1 (Qg ha hb I h λv u s2 x y H2 I2 rx ry q=>ho jR s2 σ H2 x y v u Q I2 rx ry q) hm
noncomputable def Kf(t:TE):TT:=λσ H Q=>t σ H λx H'=>∃k,x=.bl k/\Q k H'
theorem ZBV(ho:OpR X (jx op) r)(ha:PE X a ta)(hb:PE X b tb)(hm:jK op b=xQ):PT X (.Compare a [op] [b] pos) (Kf (tOp r ta tb)):=by
 intro jR s σ H Q I h;refine wpAny_isTrue_Compare1 (thn (ha jR s σ H _ I h) λv s1 ⟨x,H1,I1,r1,q1⟩=>thn (hb jR s1 σ H1 _ I1 q1) λu s2 ⟨y,H2,I2,r2,q2⟩=>
  thn (ho jR s2 σ H2 x y v u _ I2 r1 r2 q2) λc s3 ⟨z,H3,I3,r3,k,e,q3⟩=>?_) hm
 subst e;cases r3;exact jN ⟨H3,I3,q3⟩
noncomputable def Zh(r r':R2)(ta tb tc:TE):TE:=λσ H Q=>ta σ H λx H1=>tb σ H1 λy H2=>r x y H2 λz H3=>∃k,z=.bl k/\
 (if k=jU then tc σ H3 λw' H4=>r' y w' H4 Q else Q (.bl xQ) H3)
theorem ZEt{op':CmpOp}{r':R2}(ho:OpR X (jx op) r)(ho':OpR X (jx op') r')(ha:PE X a ta)(hb:PE X b tb)(hc:PE X c tc)
  (hm:lastMarks [op,op'] [b,c]=xQ:=by with_unfolding_all rfl):PT X (.Compare a [op,op'] [b,c] pos) (Kf (Zh r r' ta tb tc)):=by
 intro jR s σ H Q I h;refine isTrue_chain (thn (ha jR s σ H _ I h) λv s1 ⟨x,H1,I1,r1,q1⟩=>test_link (thn (hb jR s1 σ H1 _ I1 q1) λu s2 ⟨y,H2,I2,r2,q2⟩=>
  thn (ho jR s2 σ H2 x y v u _ I2 r1 r2 q2) λd s3 ⟨z,H3,I3,r3,k,e,q3⟩=>?_)) hm
 subst e;cases r3;refine jN ?_;cases k with
 |false=>
  obtain⟨k',e',q'⟩:=q3;cases e';exact ite_ff ⟨H3,I3,q'⟩
 |true=>
  refine ite_tt (test_last (thn (hc jR s3 σ H3 _ I3 q3) λw' s4 ⟨z',H4,I4,r4,q4⟩=>thn (ho' jR s4 σ H4 y z' u w' _ I4 r2 r4 q4) λd' s5 ⟨z2,H5,I5,r5,k2,e2,q5⟩=>?_));subst e2;cases r5;exact jN ⟨H5,I5,q5⟩
theorem line63:(sizeLine:Nat)<2^63:=by rw[j7];decide
theorem ZDZ:OpR X (jY .Add) (λx y H Q=>∃i j,x=.str i/\y=.str j/\i.length+j.length<=sizeLine/\Q (.str (i++j)) H):=by intro jR s σ H x y v u Q I rx ry h;obtain⟨i,j,rfl,rfl,hz,q⟩:=h;obtain⟨t,rfl⟩:=rx;obtain⟨t',rfl⟩:=ry;exact add_str (λt' tk=>⟨.str (i++j),H,I.tok _,⟨_,rfl⟩,q⟩) hz
theorem vals1{x:V}(r:Vals [x] us):∃u,us=[u]/\RelV x u:=by
 cases r with
 |cons r1 r2=>cases r2;exact⟨_,rfl,r1⟩
theorem vals2{x y:V}(r:Vals [x,y] us):∃u w',us=[u,w']/\RelV x u/\RelV y w':=by
 cases r with
 |cons r1 r2=>
  cases r2 with
  |cons r3 r4=>cases r4;exact⟨_,_,rfl,r1,r3⟩
theorem ZBH(hc:X.calm=jU):CallR X (.builtin "min") (λxs H Q=>∃i j,xs=[.int i,.int j]/\Q (.int (if j<i then j else i)) H):=by
 intro jR s σ H xs us Q I r h;obtain⟨i,j,rfl,q⟩:=h;obtain⟨u,w',rfl,⟨t,rfl⟩,⟨t',rfl⟩⟩:=vals2 r;refine min_two_ints (I.ok.hd hc) λh' tk k=>⟨_,H,I.kept k,?_,q⟩
 by_cases hj:j<i
 ·rw[if_pos hj,if_pos hj];exact⟨_,rfl⟩
 ·rw[if_neg hj,if_neg hj];exact⟨_,rfl⟩
end
theorem ZEx{dx:qM}{mA:Str->Option jZ}(n:h.Ns1 dx mA):∃od,h.get? dx=jS od/\∀name,PySem.W.lookIn name od=jS (mA name):=by
 obtain⟨o,es,ep,ho,hd,hk,_,hm⟩:=n;refine⟨o,ho,λname=>?_⟩;have e:=hm name;unfold nsFind findBy at e;rw[<-Array.find?_toList]at e;unfold PySem.W.lookIn;rw[hd];dsimp only;split
 ·rename_i y q;rw[q]at e;exact congrArg jS e
 ·rename_i q;rw[q]at e
  have a:es.toList.any (·.refKey)=xQ:=by rw[List.any_eq_false];intro y hy;obtain⟨z,t,hkey⟩:=hk y (Array.mem_toList_iff.mp hy);simp[DictEntry.refKey,hkey]
  have a':¬es.toList.any (·.refKey)=jU:=by rw[a];exact zV
  rw[if_neg a'];exact congrArg jS e
section
variable{prog:qS}{w:jJ}{A:qN}{E:jZ->qU->Prop}{s:qU}{K:PySem.W.Frag}{x dx C f:qM}{mA:Str->Option jZ}{name:Str}{v:jZ}
end
theorem RelO.some_of{o:Option jZ}(r:RelO (jS v) o):∃u,o=jS u/\RelV v u:=by
 cases o with
 |none=>exact(show False from r).elim
 |some u=>exact⟨u,rfl,r⟩
theorem ZDB(r:RelV v u):PySem.W.handedIn u=jU:=by
 cases v with
 |non=>cases(show u=Value.none from r);rfl
 |bl b=>cases(show u=Value.bool b from r);rfl
 |int i=>obtain⟨t,e⟩:=(show∃t,u=Value.int i t from r);cases e;rfl
 |str x=>obtain⟨t,e⟩:=(show∃t,u=Value.str x t from r);cases e;rfl
 |byt b=>obtain⟨t,e⟩:=(show∃t,u=Value.bytes b t from r);cases e;rfl
 |flt b=>obtain⟨t,e⟩:=(show∃t,u=Value.float b t from r);cases e;rfl
 |ref a=>cases(show u=Value.ref a from r);rfl
 |ty n=>cases(show u=Value.type n from r);rfl
section
variable{P:qS}{w:jJ}{H H':Hp}{h h':Heap}{a C dx:qM}{fs fs':List (Str×V)}
end
def NoAttr(K:PySem.W.Frag)(C:qM)(f:Str):Prop:=PySem.W.findIn K (.ref C) f=jS jT
structure Meth (K:PySem.W.Frag) (C:qM) (m:Str) (f:qM):Prop where
 at_:PySem.W.findIn K (.ref C) m=jS (jS (.ref f))
 fn:PySem.W.isFn K (.ref f)=jU
 kp:PySem.W.keepIn K (.ref f)=jU
section
variable{X:Cx}{jR:List (qM×Obj)}{σ:St}{H:Hp}{s:qU}{a C dx:qM}{fs:List (Str×V)}{f:Str}{v:V}{A:qN}{E:jZ->qU->Prop}
theorem ZCw{prog:qS}{env:Env}{f:Str}{pos:Pos}{Q:jZ->qU->Prop}(hb:jV e f env (eval e env)=eval e env)
  (h:jA (j5 prog w) A (eval e env) (λo s₁=>jA (j5 prog w) A (getAttr o f jU) Q E s₁) E s):jA (j5 prog w) A (eval (.Attribute e f pos) env) Q E s:=
 Attribute_any_ h (by rw[arm_eval_Attribute,hb])
end
section
variable{X:Cx}{o e value:qO}{f:Str}{pos pos' tpos:Pos}{ta tv:TE}
end
section
variable{X:Cx}{jR:List (qM×Obj)}{σ:St}{H:Hp}{s:qU}{A:qN}{E:jZ->qU->Prop}{Q:jZ->qU->Prop}{c:jZ}{b:Bool}
end
structure Room (k:Nat) (A:qN):Prop where
 hd:A.handled=jT
 dp:A.depth+3*k+5<recursionLimit
 un:A.units+16*k+200<cLine
theorem Room.mono{j:Nat}(r:Room k A)(h:j<=k):Room j A:=⟨r.hd,by have:=r.dp;lia,by have:=r.un;lia⟩
theorem Room.deeper(r:Room (k+1) A)(env:Env):Room k (A.deeper env):=
 ⟨r.hd,by have:=r.dp;show A.depth+1+3*k+5<_;lia,by have:=r.un;show A.units+3+16*k+200<_;lia⟩
theorem ZC7{C:qM}{kw:List (Str×jZ)}:(A.under (.builtin "type.__call__" ⟨.ref C::us,kw⟩)).depth=A.depth+1:=by
 first|rfl|simp[Around.under,Code.weight,Code.isCreation,Code.isGuard,Code.isCaller,Code.frames,Code.isFrame,guardIds]
theorem ZDt{C:qM}{kw:List (Str×jZ)}:(A.under (.builtin "type.__call__" ⟨.ref C::us,kw⟩)).units=A.units+1:=by
 first|rfl|simp[Around.under,Code.cUnits,Code.frames,Code.isFrame]
theorem Room.make(r:Room (k+1) A)(C:qM)(us:List jZ)(kw:List (Str×jZ)):Room k (A.under (.builtin "type.__call__" ⟨.ref C::us,kw⟩)):=
 ⟨r.hd,by have:=r.dp;rw[ZC7];lia,by have:=r.un;rw[ZDt];lia⟩
theorem Room.depth(r:Room k A):A.depth<recursionLimit:=by have:=r.dp;lia
theorem Room.units(r:Room k A):A.units+64<cLine:=by have:=r.un;lia
noncomputable def tNil:TA:=λ_ H Q=>Q [] H
noncomputable def Sv(ta:TE)(tr:TA):TA:=λσ H Q=>ta σ H λx H1=>tr σ H1 λxs H2=>Q (x::xs) H2
section
variable{X:Cx}{e:qO}{es:List qO}{te:TE}{t:TA}{pos:Pos}
theorem Lf:PA X [] tNil:=λ_ _ _ _ H Q I h=>Calls.spliced_nil ⟨[],H,I,.nil,h⟩
theorem Gw(ha:PE X e te)(hr:PA X es t)(hs:j8 (e::es) X.env=(xQ,eval e X.env)::j8 es X.env:=by rfl):PA X (e::es) (Sv te t):=by intro pos jR s σ H Q I h;rw[hs];show jA _ _ (spliced ((xQ,eval e X.env)::jW pos (j8 es X.env))) _ _ s;refine Calls.spliced_cons (thn (ha jR s σ H _ I h) λu s1 ⟨x,H1,I1,r1,q1⟩=>?_);exact thn (hr pos jR s1 σ H1 _ I1 q1) λus s2 ⟨xs,H2,I2,r2,q2⟩=>⟨x::xs,H2,I2,.cons r1 r2,q2⟩
def tTup(t:TA):TE:=λσ H Q=>t σ H λxs H1=>xs.length<=sizeLine/\∀p,H1 p=jT->Q (.ref p) (upd H1 p (.tup xs))
def tLst(t:TA):TE:=λσ H Q=>t σ H λxs H1=>xs.length<=sizeLine/\∀p,H1 p=jT->Q (.ref p) (upd H1 p (.lst xs))
theorem V1{x1}(h:PA X es t):PE X (.Tuple es x1 pos) (tTup t):=by intro jR s σ H Q I hq;refine wpAny_Tuple_spliced (thn (h pos jR s σ H _ I hq) λus s1 ⟨xs,H1,I1,r,z,q⟩=>⟨by rw[<-r.length];exact z,?_⟩);have hf:H1 s1.heap.objs.size=jT:=I1.hok.fresh (zW _);refine⟨.ref s1.heap.objs.size,upd H1 s1.heap.objs.size (.tup xs),I1.laid (t':=s1.toks) (λb u e=>zZ _ e) (zW _) ?_,rfl,q _ hf⟩;exact⟨z,us,r,⟨_,zj _ rfl,rfl,_,rfl⟩⟩
theorem ZEh(h:PA X es t):PE X (.List es pos) (tLst t):=by intro jR s σ H Q I hq;refine wpAny_List_spliced (thn (h pos jR s σ H _ I hq) λus s1 ⟨xs,H1,I1,r,z,q⟩=>⟨by rw[<-r.length];exact z,?_⟩);have hf:H1 s1.heap.objs.size=jT:=I1.hok.fresh (zW _);refine⟨.ref s1.heap.objs.size,upd H1 s1.heap.objs.size (.lst xs),I1.laid (t':=s1.toks) (λb u e=>zZ _ e) (zW _) ?_,rfl,q _ hf⟩;exact⟨z,us,0,r,zj _ rfl⟩
end
noncomputable abbrev Sp:=List V->Hp->VK->XK->Prop
noncomputable abbrev CXT:=List Env->Hp->qU->XK->jZ->qU->Prop
structure Env0 (P:qS) (w:jJ) (K:PySem.W.Frag) (mg:Str->Option jZ) (base:Heap) (A:qN) (outer:List Env) (s:qU) (H:Hp):Prop where
 frames:A.frames=jS outer
 mod:Mod K mg base
 bs:∀b o,base.get? b=jS o->s.heap.get? b=jS o/\H b=jT
 bsz:base.objs.size<=s.heap.objs.size
 funs:s.heap.FunFrames base outer
 frf:∀b∈frs outer,H b=jT
 hok:HOk P w H s.heap
 bare:AllBare s.gens
def CE(outer:List Env)(P:qS)(w:jJ)(H:Hp)(s:qU)(Q:VK)(u:jZ)(s':qU):Prop:=
 ∃v H',s'.os=s.os/\AllBare s'.gens/\Un (frs outer) [] H H' s.heap s'.heap/\HOk P w H' s'.heap/\RelV v u/\Q v H'
def CR(CX:CXT)(outer:List Env)(P:qS)(w:jJ)(H:Hp)(s:qU)(Q:VK)(E:XK)(r:Result)(s':qU):Prop:=
 match r with
 |.ok (.ret u)=>CE outer P w H s Q u s'
 |.ok _=>False
 |.error e=>CX outer H s E e s'
structure FnOk (P:qS) (w:jJ) (K:PySem.W.Frag) (mg:Str->Option jZ) (base:Heap) (CX:CXT) (k:Nat) (f:qM) (fd:qP) (ps:List Str) (sp:Sp):Prop where
 len:∀vs H Q E,sp vs H Q E->vs.length=ps.length
 run:∀(A:qN)(outer:List Env)(s:qU)(H:Hp)(args:Args)(us:List jZ)(vs:List V)(Q:VK)(E:XK),Room k A->Env0 P w K mg base A outer s H->BindsTo s fd args (ps.zip us)->Vals vs us->sp vs H Q E->
  codeAny (j5 P w) A (.call (.ref f) args) (CR CX outer P w H s Q E) s
theorem Env0.make{outer:List Env}(e:Env0 P w K mg base A outer s H)(C:qM)(us:List jZ)(kw:List (Str×jZ)):
  Env0 P w K mg base (A.under (.builtin "type.__call__" ⟨.ref C::us,kw⟩)) outer s H:=⟨by first|exact e.frames|(simpa[Around.under,Code.envs,Code.isFrame,pushEnvs]using e.frames),e.mod,e.bs,e.bsz,e.funs,e.frf,e.hok,e.bare⟩
section
variable{X:Cx}{jR:List (qM×Obj)}{σ:St}{H:Hp}{s s':qU}
theorem Inv.env0(I:Inv X jR σ H s):Env0 X.prog X.w X.K X.mg X.base X.A X.stack s H:=
 ⟨I.ok.frames,I.ok.mod,I.bs,z0 I.ok.bsz I.sz,I.stack,I.Ou,I.hok,I.bare⟩
theorem Inv.after{Q:VK}(I:Inv X jR σ H s)(h:CE X.stack X.prog X.w H s Q u s'):EP X jR σ Q u s':=by obtain⟨v,H',os,bare,un,hok,r,q⟩:=h;obtain⟨hh,g,d,t,os'⟩:=s';obtain rfl:os'=s.os:=os;exact⟨v,H',I.call (h':=hh) (g':=g) (d':=d) (t':=t) (ch:=[]) un hok bare (λb z=>absurd z (by simp)),r,q⟩
end
noncomputable def Xq(sp:Sp)(dvs:List V)(E:XK)(t:TA):TE:=λσ H Q=>t σ H λvs H1=>sp (vs++dvs) H1 Q E
def Binds(K:PySem.W.Frag)(fd:qP)(ps:List Str)(ds:List jZ):Prop:=
 ∀(s:qU)(us:List jZ),K.In s.heap->(us++ds).length=ps.length->BindsTo s fd ⟨us,[]⟩ (ps.zip (us++ds))
theorem Binds.all{fd:qP}{ps:List Str}(h:∀us:List jZ,us.length=ps.length->bindArgs fd ⟨us,[]⟩=pure (ps.zip us)):Binds K fd ps []:=λs us _ hl=>by rw[zF]at hl⊢;exact .of_eq (h us hl)
def Passes(CX:CXT)(X:Cx)(E:XK):Prop:=∀(jR:List (qM×Obj))(σ:St)(H:Hp)(s:qU)(e:jZ)(s':qU),Inv X jR σ H s->CX X.stack H s E e s'->X.xe e s'
section
variable{X:Cx}{CX:CXT}{k:Nat}{f C:qM}{fd:qP}{ps:List Str}{sp:Sp}{dvs:List V}{ds:List jZ}{E:XK}{x m:Str}{p pos apos:Pos}{e o:qO}{es:List qO}{ta:TE}{t:TA}
theorem ZBj{Q:VK}{vs:List V}(F:FnOk X.prog X.w X.K X.mg X.base CX k f fd ps sp)(hr:Room k X.A)(hb:Binds X.K fd ps ds)(hd:Vals dvs ds)(hx:Passes CX X E)
  (I:Inv X jR σ H s) (r:Vals vs us) (h:sp (vs++dvs) H Q E):jA (j5 X.prog X.w) X.A (call (.ref f) us) (EP X jR σ Q) X.xe s:=by
 have r2:Vals (vs++dvs) (us++ds):=r.append hd;have hl:(us++ds).length=ps.length:=by rw[<-r2.length];exact F.len _ _ _ _ h
 refine wpAny_call (jj (F.run X.A X.stack s H ⟨us,[]⟩ (us++ds) (vs++dvs) Q E hr I.env0 (hb s us I.kIn hl) r2 h) λr s' hq=>?_);cases r with
 |error e=>exact hx jR σ H s e s' I hq
 |ok fl=>
  cases fl with
  |ret u=>exact I.after hq
  |next=>exact False.elim hq
  |brk=>exact False.elim hq
  |cont=>exact False.elim hq
theorem Ym(F:FnOk X.prog X.w X.K X.mg X.base CX k f fd ps sp)(hr:Room k X.A)(hg:Gl X x)(hm:X.mg x=jS (.ref f))(hk:PySem.W.keepIn X.K (.ref f)=jU)(hb:Binds X.K fd ps ds)(hd:Vals dvs ds)(hx:Passes CX X E)
  (ha:PA X (e::es) t) (hdb:(x==("__debug__":Str))=xQ:=by decide) (he:j8 (e::es) X.env=(xQ,eval e X.env)::j8 es X.env:=by rfl) (hpl:(jW pos (j8 es X.env)).any (·.1)=xQ:=by rfl):
  PE X (.Call (.Name x p) (e::es) [] pos) (Xq sp dvs E t):=by
 intro jR s σ H Q I h;refine jB (Ip I hg hm ?_ hdb);refine PySem.W.callWith_K (h₀:=X.base) I.ok.mod.kin hk (thn (ha pos jR s σ H _ I h) λus s1 ⟨vs,H1,I1,r,q⟩=>⟨I1.kIn,?_⟩) he hpl;exact ZBj F hr hb hd hx I1 r q
end
section
variable{X:Cx}{CX:CXT}{k:Nat}{f C:qM}{fd:qP}{ps ks:List Str}{sp:Sp}{E:XK}{x m:Str}{p pos apos kpos:Pos}{e o:qO}{es:List qO}{kws:List Keyword}{te ta:TE}{t tk:TA}{nm:Option Str}
variable{g:List jZ->List jZ->List jZ}{gV:List V->List V->List V}
end
structure FnScope (N P:List Str) (sc:qT):Prop where
 kind:sc.kind=.function
 co:sc.isCoroutine=xQ
 gen:sc.isGenerator=xQ
 nd:N.Nodup
 pre:N.take P.length=P
 par:∀x∈P,sc.names.lookup x=jS .local∨sc.names.lookup x=jS .cell
 nofree:∀y∈sc.names,y.2≠ .free
theorem Wl:∀{binds:List (Str×jZ)}{m:Str->Option jZ},(∀v,(x,v)∉binds)->bindL kindOf binds m x=m x
 |[],_,_=>rfl
 | (n,v)::r,m,h=>by
  unfold bindL;rw[Wl λw hw=>h w (zY _ hw)];split
  ·have:x≠n:=by rintro rfl;exact h v zE
   simp[this]
  ·rfl
theorem Yq:∀{binds:List (Str×jZ)}{m:Str->Option jZ},(∀v,(x,v)∉binds)->bindC kindOf binds m x=m x
 |[],_,_=>rfl
 | (n,v)::r,m,h=>by
  unfold bindC;rw[Yq λw hw=>h w (zY _ hw)];split
  ·rfl
  ·have:x≠n:=by rintro rfl;exact h v zE
   simp[this]
theorem Wu{v:jZ}:∀{P:List Str}{vs:List jZ}{i:Nat}{m:Str->Option jZ},P.Nodup->P[i]?=jS x->vs[i]?=jS v->kindOf x=jS .local->
  bindL kindOf (P.zip vs) m x=jS v
 |[],_,_,_,_,h,_,_=>by simp at h
 |_::_,[],_,_,_,_,h,_=>by simp at h
 |p::P,w::vs,0,m,nd,h1,h2,hk=>by simp at h1 h2;subst h1;subst h2;show bindL kindOf ((p,w)::P.zip vs) m p=_;unfold bindL;rw[Wl λv hv=>(qF.mp nd).1 (qG hv).1,if_pos hk];simp
 |p::P,w::vs,i+1,m,nd,h1,h2,hk=>by show bindL kindOf ((p,w)::P.zip vs) m x=_;unfold bindL;exact Wu (i:=i) (qF.mp nd).2 (by simpa using h1) (by simpa using h2) hk
theorem V2{v:jZ}:∀{P:List Str}{vs:List jZ}{i:Nat}{m:Str->Option jZ},P.Nodup->P[i]?=jS x->vs[i]?=jS v->kindOf x≠jS .local->
  bindC kindOf (P.zip vs) m x=jS v
 |[],_,_,_,_,h,_,_=>by simp at h
 |_::_,[],_,_,_,_,h,_=>by simp at h
 |p::P,w::vs,0,m,nd,h1,h2,hk=>by simp at h1 h2;subst h1;subst h2;show bindC kindOf ((p,w)::P.zip vs) m p=_;unfold bindC;rw[Yq λv hv=>(qF.mp nd).1 (qG hv).1,if_neg hk];simp
 |p::P,w::vs,i+1,m,nd,h1,h2,hk=>by show bindC kindOf ((p,w)::P.zip vs) m x=_;unfold bindC;exact V2 (i:=i) (qF.mp nd).2 (by simpa using h1) (by simpa using h2) hk
noncomputable def start(N:List Str)(vs:List V):St:=vs.map jS++zQ (N.length-vs.length) jT
noncomputable def Dr(CX:CXT)(P:qS)(w:jJ)(K:PySem.W.Frag)(mg:Str->Option jZ)(base:Heap)(N:List Str)(qual:Str)(scope:qT)(f:qM)(cd:jZ)(A:qN)(outer:List Env)(s:qU)(H:Hp)(E:XK):Cx where
 prog:=P
 w:=w
 K:=K
 mg:=mg
 base:=base
 A:=A.deeper (envOfC qual scope s.heap.objs.size f cd)
 N:=N
 s₀:=s
 H₀:=H
 env:=envOfC qual scope s.heap.objs.size f cd
 outer:=outer
 stack:=envOfC qual scope s.heap.objs.size f cd::outer
 ex:=[]
 calm:=jU
 fn:=λ_=>jU
 pn:=[]
 xe:=λe s'=>jA (j5 P w) (A.deeper (envOfC qual scope s.heap.objs.size f cd)) (leaving (envOfC qual scope s.heap.objs.size f cd) e) (λ_ s''=>CX outer H s E e s'') (λe' s''=>CX outer H s E e' s'') s'
theorem W5{sc:qT}{n:Nat}(h:sc.names.lookup x=jS .cell):∃c,(cellsFrom n sc.names []).lookup x=jS c:=by have q:=PySem.W.cellsFrom_some sc.names n [] (.inl h);exact Option.isSome_iff_exists.mp q
theorem Zu{CX:CXT}{N ps:List Str}{qual:Str}{scope:qT}{f:qM}{cd:jZ}{outer:List Env}{s1:qU}{E:XK}{vs:List V}
  (S:FnScope N ps scope) (hd:A.handled=jT) (e0:Env0 P w K mg base A outer s H) (hl:vs.length=ps.length) (r:Vals vs us)
  (x:InCallC s s.heap.objs.size (bindL (envOfC qual scope s.heap.objs.size f cd).kindOf (ps.zip us) λ_=>jT) (cellsFrom (s.heap.objs.size+1) scope.names []) (bindC (envOfC qual scope s.heap.objs.size f cd).kindOf (ps.zip us) λ_=>jT) s1):
  Inv (Dr CX P w K mg base N qual scope f cd A outer s H E) [] (start N vs) H s1:=by
 have hpl:ps.length<=N.length:=by have:=congrArg List.length S.pre;rw[List.length_take]at this;lia
 obtain⟨h1,tk,rfl,hk⟩:=x.done
 have noA:∀b:qM,b∉(Dr CX P w K mg base N qual scope f cd A outer s H E).ex:=λb z=>absurd (show b∈([]:List qM)from z) (by simp)
 refine⟨⟨e0.mod,S.kind,rfl,rfl,zW _,λy z c h1 h2=>?_,λy hy=>?_,λy c _ h=>?_,λ_=>hd,Around.frames_deeper e0.frames,.inr ⟨rfl,rfl⟩,λb z=>absurd z (noA b),e0.bs,e0.bsz,λb _ _=>noA b,λb z=>absurd z (noA b),e0.funs,e0.frf⟩,
  rfl,e0.bare,Un.kept hk,⟨_,x.toInCall.ns,λi y v h1 h2 h3=>?_⟩,λy c h=>⟨_,x.cell y c h⟩,e0.hok.fresh (zW _),λy c h=>?_,λp hp=>absurd (show p∈([]:List (qM×Obj))from hp) (by simp),e0.hok.kept hk,?_⟩
 ·exact name_of_addr x.apart (PySem.mem_of_lookup h1) (PySem.mem_of_lookup h2)
 ·have hy:scope.names.lookup y=jS .cell∨scope.names.lookup y=jS .free:=hy;rcases hy with hy|hy
  ·exact W5 hy
  ·exact absurd rfl (S.nofree _ (PySem.mem_of_lookup hy))
 ·exact Nat.le_of_lt (x.above y c (PySem.mem_of_lookup h))
 ·have hi:i<vs.length:=by
   unfold start at h2;by_cases hi:i<vs.length
   ·exact hi
   ·rw[zy (by simpa using hi)]at h2;rw[zU]at h2
    split at h2<;>cases h2
  have ha:vs[i]?=jS v:=by
   unfold start at h2;rw[zD (by simpa using hi),z5]at h2;cases e:vs[i]? with
   |none=>rw[e]at h2;cases h2
   |some a=>rw[e]at h2;cases h2;rfl
  obtain⟨u,hu,rv⟩:=r.get ha;have hp:ps[i]?=jS y:=by rw[<-S.pre,q0 (by lia)];exact h1
  have ndP:ps.Nodup:=by rw[<-S.pre];exact S.nd.sublist (List.take_sublist _ _)
  refine⟨u,rv,?_⟩;rcases S.par y (List.mem_of_getElem? hp)with k|k
  ·exact .inl ⟨k,Wu ndP hp hu k⟩
  ·obtain⟨c,e⟩:=W5 (n:=s.heap.objs.size+1) k;refine .inr ⟨.inl k,c,e,?_⟩;have q:=x.cell y c e;rw[V2 ndP hp hu (by show scope.names.lookup y≠_;rw[k];decide)]at q;exact q
 ·exact e0.hok.fresh (Nat.le_of_lt (x.above y c (PySem.mem_of_lookup h)))
 ·unfold start;show _=N.length;rw[qJ,qY,zP];lia
theorem V4{CX:CXT}{f:qM}{name qual:Str}{params:Arguments}{body:List jQ}{scope:qT}{dV kV doc pm cdv ct oc:jZ}{an od:Option qM}
  {osl:Array (Option jZ)} {N ps:List Str} {sp:Sp} (lk:K.lookup f=jS ⟨oc,od,.func (PySem.W.fnOf name qual params body scope dV kV doc pm an cdv ct),osl⟩) (hcd:PySem.W.codeIn K cdv qual=jU) (S:FnScope N ps scope)
  (len:∀vs H Q E,sp vs H Q E->vs.length=ps.length)
  (hbody:∀(A:qN)(outer:List Env)(s:qU)(H:Hp)(vs:List V)(Q:VK)(E:XK),Room k (A.deeper (envOfC qual scope s.heap.objs.size f cdv))->sp vs H Q E->
   ∃t,PSs (Dr CX P w K mg base N qual scope f cdv A outer s H E) body t/\t {nx:=λ_ H'=>Q .non H',rt:=Q} (start N vs) H):
  FnOk P w K mg base CX (k+1) f (PySem.W.fnOf name qual params body scope dV kV doc pm an cdv ct) ps sp:=by
 refine⟨len,λA outer s H args us vs Q E hr e0 hb r hsp=>?_⟩;have hl:=len _ _ _ _ hsp;have KX:K.In s.heap:=e0.mod.kin.keeps λb o e=>(e0.bs b o e).1
 have lim:s.heap.NoLimit:=e0.mod.nolimit.keeps λb o e=>(e0.bs b o e).1
 have hkind:∀y∈ps.zip us,scope.names.lookup y.1=jS .local∨(scope.names.lookup y.1=jS .cell/\((cellsFrom (s.heap.objs.size+1) scope.names []).lookup y.1).isSome=jU):=λ⟨n,v⟩ hy=>by
  rcases S.par n (qG hy).1 with q|q
  ·exact .inl q
  ·exact .inr ⟨q,PySem.W.cellsFrom_some _ _ _ (.inl q)⟩
 refine codeAny_call_function hr.depth (KX _ _ lk) rfl S.co S.gen rfl (PySem.W.codeRec_of KX hcd) (hb _ _ _ _ ?_);refine wpAny_newFunctionEnv_cells S.kind hkind λenv he s1 x=>?_
 subst he;refine⟨lim.keeps x.toInCall.keep,codeAny_func ?_⟩;obtain⟨t,ht,hq⟩:=hbody A outer s H vs Q E (hr.deeper _) hsp;have I:Inv (Dr CX P w K mg base N qual scope f cdv A outer s H E) [] (start N vs) H s1:=Zu S hr.hd e0 hl r x;refine jG (ht [] s1 (start N vs) H _ I hq) (λfl s' hs=>?_) λe s' hs=>hs
 have fin:∀{σ':St}{H':Hp}{v:V}{u:jZ},Inv (Dr CX P w K mg base N qual scope f cdv A outer s H E) [] σ' H' s'->RelV v u->Q v H'->CE outer P w H s Q u s':=
  λ{σ' H' v u}J rv q=>⟨v,H',J.os,J.bare,J.base,J.hok,rv,q⟩
 cases fl with
 |ret u=>
  obtain⟨v,σ',H',J,rv,q⟩:=hs;exact fin J rv q
 |next=>
  obtain⟨σ',H',J,q⟩:=hs;exact fin (v:=V.non) (u:=Value.none) J rfl q
 |brk=>
  obtain⟨_,_,_,q⟩:=hs;exact False.elim q
 |cont=>
  obtain⟨_,_,_,q⟩:=hs;exact False.elim q
section
variable{X:Cx}{x:Str}{p pos:Pos}{e:qO}{es:List qO}{t:TA}{id T:String}{r:List V->Hp->VK->Prop}
noncomputable def tCB(r:List V->Hp->VK->Prop)(t:TA):TE:=λσ H Q=>t σ H λvs H1=>r vs H1 Q
theorem Sy(hc:CallR X (.builtin id) r)(hg:Gl X x)(hm:X.mg x=jT)(hv:jq x=jS (.builtin id))(ha:PA X (e::es) t)(hn:x≠"__name__":=by decide)(hdb:(x==("__debug__":Str))=xQ:=by decide)
  (he:j8 (e::es) X.env=(xQ,eval e X.env)::j8 es X.env:=by rfl) (hpl:(jW pos (j8 es X.env)).any (·.1)=xQ:=by rfl):PE X (.Call (.Name x p) (e::es) [] pos) (tCB r t):=by
 intro jR s σ H Q I h;refine jB (Ka I hg hm hv ?_ hn hdb);exact PyProof.Rows.callWith_builtin1 (thn (ha pos jR s σ H _ I h) λus s1 ⟨vs,H1,I1,r1,q1⟩=>hc jR s1 σ H1 vs us Q I1 r1 q1) he hpl
theorem ZBY(hc:CallR X (.type T) r)(hg:Gl X x)(hm:X.mg x=jT)(hv:jq x=jS (.type T))(ha:PA X (e::es) t)(hn:x≠"__name__":=by decide)(hdb:(x==("__debug__":Str))=xQ:=by decide)
  (he:j8 (e::es) X.env=(xQ,eval e X.env)::j8 es X.env:=by rfl) (hpl:(jW pos (j8 es X.env)).any (·.1)=xQ:=by rfl):PE X (.Call (.Name x p) (e::es) [] pos) (tCB r t):=by
 intro jR s σ H Q I h;refine jB (Ka I hg hm hv ?_ hn hdb);exact PyProof.Rows.callWith_type1 (thn (ha pos jR s σ H _ I h) λus s1 ⟨vs,H1,I1,r1,q1⟩=>hc jR s1 σ H1 vs us Q I1 r1 q1) he hpl
end
end L2
namespace HT
open PySem PyProof.Rows
section
open PySem.SeqAt
open PySem.AutoSeq1 (wpAny_loadPart')
open PySem.MeetsSeq PySem.MeetsSeq2 PySem.MeetsSeq3
end
section
variable{prog:qS}{w:jJ}{A:qN}{E:jZ->qU->Prop}{s:qU}
theorem ZCA{t b:qM}{vs ws:List jZ}{Q:jZ->qU->Prop}(ht:IsTup s.heap t vs.toArray)(hb:IsTup s.heap b ws.toArray)(hv:vs≠[])
  (h1:ws=[]->Q (.ref t) s) (h2:ws≠[]->Q (.ref s.heap.objs.size) {s with heap:=s.heap.push {cls:=.type "tuple",data:=.seq (vs++ws).toArray}})
  (hsz:vs.length+ws.length<=sizeLine):jA (j5 prog w) A (jY .Add (.ref t) (.ref b)) Q E s:=by
 obtain⟨⟨cls,dd,data,sl⟩,ho,hc,n,hd⟩:=id ht;obtain⟨⟨cls2,dd2,data2,sl2⟩,ho2,hc2,n2,hd2⟩:=id hb;simp only at hc hd hc2 hd2;subst hc hd hc2 hd2;have e:vs.toArray++ws.toArray=(vs++ws).toArray:=by simp
 by_cases hw:ws=[]
 ·exact concat_meets ⟨_,ho,rfl⟩ ⟨_,ho2,rfl⟩ noFill_tuple_add seq_tuple_add PySem.F.slot_tuple_add PySem.F.entry_tuple_add (PySem.F.args_tuple_add_2 _ _)
   (tuple_addW1 t b vs.toArray ws.toArray n n2 dd dd2 sl sl2 (by simpa using hv) (by simp[hw])) ⟨ho,ho2,h1 hw⟩
 ·refine concat_meets ⟨_,ho,rfl⟩ ⟨_,ho2,rfl⟩ noFill_tuple_add seq_tuple_add PySem.F.slot_tuple_add PySem.F.entry_tuple_add (PySem.F.args_tuple_add_2 _ _)
   (tuple_addW2 t b vs.toArray ws.toArray n n2 dd dd2 sl sl2 (by simpa using hv) (by simpa using hw) (by rw[zq,zq];exact hsz)) ⟨ho,ho2,?_⟩
  rw[e];exact h2 hw
end
end HT
namespace L2
open PySem PySem.Spec PyProof.Rows
noncomputable abbrev TO:=St->Hp->(Option Int->Hp->Prop)->Prop
def PO(X:Cx)(e:Option qO)(t:TO):Prop:=
 ∀(jR:List (qM×Obj))(s:qU)(σ:St)(H:Hp)(Q:Option Int->Hp->Prop),Inv X jR σ H s->t σ H Q->
  jA (j5 X.prog X.w) X.A (evalPart e X.env) (λu s'=>∃o H',Inv X jR σ H' s'/\IsPart u o/\Q o H') X.xe s
section
variable{X:Cx}{e:qO}{te:TE}{lo hi:Option qO}{tl th:TO}{pos p2:Pos}
def Zg(K:PySem.W.Frag):R2:=λx y H Q=>∃a b xs ys,x=.ref a/\y=.ref b/\SqT K H a xs/\SqT K H b ys/\xs≠[]/\xs.length+ys.length<=sizeLine/\
 (ys=[]->Q (.ref a) H)/\(ys≠[]->∀p,H p=jT->Q (.ref p) (upd H p (.tup (xs++ys))))
theorem Vals.Ul{xs:List V}{us:List jZ}(r:Vals xs us):us=[]↔xs=[]:=by
 cases r with
 |nil=>simp
 |cons _ _=>simp
theorem ZCY:OpR X (jY .Add) (Zg X.K):=by
 intro jR s σ H x y v u Q I rx ry h;obtain⟨a,b,xs,ys,rfl,rfl,ha,hb,hx,hz,q1,q2⟩:=h;cases rx;cases ry;obtain⟨its,r1,p1,_⟩:=I.tuple ha;obtain⟨its2,r2,p2,_⟩:=I.tuple hb;refine HT.ZCA p1 p2 (λz=>hx (r1.Ul.mp z)) (λz=>⟨.ref a,H,I,rfl,q1 (r2.Ul.mp z)⟩) (λz=>?_) (by rw[<-r1.length,<-r2.length];exact hz);refine⟨.ref s.heap.objs.size,_,I.laid (t':=s.toks) (o:=.tup (xs++ys)) (λb ob q=>zZ _ q) (zW _) ?_,rfl,q2 (λw=>z (r2.Ul.mpr w)) _ (I.hok.fresh (zW _))⟩
 exact⟨by rw[qJ];exact hz,_,r1.append r2,IsTup.new _ _⟩
end
noncomputable def ixN(n:Nat)(i:Int):Option Nat:=if 0<=i then(if i<n then jS i.toNat else jT)else if -(n:Int)<=i then jS (i+n).toNat else jT
def atI{α:Type}(xs:List α)(i:Int):Option α:=(ixN xs.length i).bind λj=>xs[j]?
theorem ZDM{n:Nat}{i:Int}{j:Nat}(h:ixN n i=jS j):seqIndex? i n=jS j/\j<n/\ -(n:Int)<=i/\i<n:=by
 unfold ixN at h;by_cases h0:0<=i
 ·rw[if_pos h0]at h;by_cases h1:i<n
  ·rw[if_pos h1]at h;have e:i.toNat=j:=Option.some.inj h;exact⟨by rw[seqIndex_of h0 h1,e],by lia,by lia,h1⟩
  ·rw[if_neg h1]at h;cases h
 ·rw[if_neg h0]at h;by_cases h1: -(n:Int)<=i
  ·rw[if_pos h1]at h;have e:(i+n).toNat=j:=Option.some.inj h;exact⟨by rw[seqIndex_neg (by lia) h1,e],by lia,h1,by lia⟩
  ·rw[if_neg h1]at h;cases h
theorem Q6{α:Type}{xs:List α}{i:Int}{v:α}(h:atI xs i=jS v):∃j,seqIndex? i xs.length=jS j/\xs[j]?=jS v/\j<xs.length/\ -(xs.length:Int)<=i/\i<xs.length:=by
 unfold atI at h;cases e:ixN xs.length i with
 |none=>rw[e]at h;cases h
 |some j=>
  rw[e]at h;obtain⟨h1,h2,h3,h4⟩:=ZDM e;exact⟨j,h1,h,h2,h3,h4⟩
def PlainIx(b:qO):Prop:=∀o i,subscripted b xQ o i=operate [o,i] (getItem o i)
def IxR(X:Cx)(r:R2):Prop:=
 ∀(value slice:qO)(jR:List (qM×Obj))(s:qU)(σ:St)(H:Hp)(x y:V)(v u:jZ)(Q:VK),Inv X jR σ H s->RelV x v->RelV y u->r x y H Q->
  subscripted slice xQ v u=operate [v,u] (getItem v u)->jA (j5 X.prog X.w) X.A (subscriptTail value slice v u) (EP X jR σ Q) X.xe s
def MtR(X:Cx)(id:String)(r:V->List V->Hp->VK->Prop):Prop:=
 ∀(jR:List (qM×Obj))(s:qU)(σ:St)(H:Hp)(x:V)(xs:List V)(v:jZ)(us:List jZ)(Q:VK),Inv X jR σ H s->RelV x v->Vals xs us->r x xs H Q->
  jA (j5 X.prog X.w) X.A (call (.builtin id) (v::us)) (EP X jR σ Q) X.xe s
section
variable{X:Cx}{a b:qO}{ta tb:TE}{pos:Pos}
theorem IxR.or{r r':R2}(h:IxR X r)(h':IxR X r'):IxR X (λx y H Q=>r x y H Q∨r' x y H Q):=by
 intro value slice jR s σ H x y v u Q I rx ry q hs;rcases q with q|q
 ·exact h value slice jR s σ H x y v u Q I rx ry q hs
 ·exact h' value slice jR s σ H x y v u Q I rx ry q hs
theorem ZDa{r:R2}(hr:IxR X r)(ha:PE X a ta)(hb:PE X b tb)(hs:PlainIx b):PE X (.Subscript a b pos) (tOp r ta tb):=by intro jR s σ H Q I h;exact Subscript_ (Qg ha hb I h λv u s2 x y H2 I2 rx ry q=>hr a b jR s2 σ H2 x y v u Q I2 rx ry q (hs _ _))
def rIxL(K:PySem.W.Frag):R2:=λx y H Q=>∃p xs i v,x=.ref p/\y=.int i/\SqL K H p xs/\atI xs i=jS v/\Q v H
def rIxT(K:PySem.W.Frag):R2:=λx y H Q=>∃p xs i v,x=.ref p/\y=.int i/\SqT K H p xs/\atI xs i=jS v/\Q v H
def rIxS:R2:=λx y H Q=>∃z i c,x=.str z/\y=.int i/\z.length<=sizeLine/\atI z.cps.toList i=jS c/\Q (.str ⟨#[c]⟩) H
theorem ZB7:IxR X (rIxL X.K):=by
 intro value slice jR s σ H x y v u Q I rx ry h hs;obtain⟨p,xs,i,z,rfl,rfl,hq,he,q⟩:=h;cases rx;obtain⟨t,rfl⟩:=ry;obtain⟨its,r,pl,hz⟩:=I.list hq;obtain⟨j,h1,h2,h3,h4,h5⟩:=Q6 he;obtain⟨w,ew,rw'⟩:=r.get h2;have hl:=r.length;have hn:=line63;have fin:EP X jR σ Q w s:=⟨z,H,I,rw',q⟩;by_cases h0:0<=i
 ·have hj:i.toNat=j:=by rw[seqIndex_of h0 h5]at h1;exact Option.some.inj h1
  exact item_listR pl.isList h0 (by lia) (by rw[hj];simpa using ew) fin hs
 ·have hj:(i+(its.toArray.size:Int)).toNat=j:=by rw[seqIndex_neg (by lia) h4]at h1;rw[zq,<-hl];exact Option.some.inj h1
  exact subscriptTail_builtinR (x:=w) pl.isList.typeIs slot_list_getitem.lookup
   (wpAny_getItem_list_neg (Q:=λr s'=>r=w/\EP X jR σ Q r s') pl.isList (by lia) (by rw[zq]<;>lia) (by lia) (by rw[hj];simpa using ew) ⟨rfl,fin⟩) hs
theorem ZER:IxR X (rIxT X.K):=by
 intro value slice jR s σ H x y v u Q I rx ry h hs;obtain⟨p,xs,i,z,rfl,rfl,hq,he,q⟩:=h;cases rx;obtain⟨t,rfl⟩:=ry;obtain⟨its,r,pl,hz⟩:=I.tuple hq;obtain⟨j,h1,h2,h3,h4,h5⟩:=Q6 he;obtain⟨w,ew,rw'⟩:=r.get h2;have hl:=r.length;have hn:=line63;have fin:EP X jR σ Q w s:=⟨z,H,I,rw',q⟩;exact subscriptTail_builtinR (x:=w) pl.typeIs slot_tuple_getitem.lookup
  (getItem_tuple (j:=j) (Q:=λr s'=>r=w/\EP X jR σ Q r s') pl (by lia) (by lia) (by rw[zq,<-hl];exact h1) (by simpa using ew) ⟨rfl,fin⟩) hs
theorem ZCa:IxR X rIxS:=by
 intro value slice jR s σ H x y v u Q I rx ry h hs;obtain⟨z,i,c,rfl,rfl,hz,he,q⟩:=h;obtain⟨t,rfl⟩:=rx;obtain⟨t',rfl⟩:=ry;obtain⟨j,h1,h2,h3,h4,h5⟩:=Q6 he;have hl:z.cps.toList.length=z.length:=by simp[Str.length]
 rw[hl]at h1 h4 h5;have hn:=line63;exact tail_any (typeIs_str s z t) slot_str_getitem.lookup (getItem_str (c:=c) (by have e1:decide (i < -(2^63:Int))=xQ:=decide_eq_false (by lia);have e2:decide (i ≥ 2^63)=xQ:=decide_eq_false (by lia);rw[e1,e2,Bool.or_false]) (by rw[h1];simpa using h2) ⟨.str ⟨#[c]⟩,H,I.tok _,⟨_,rfl⟩,q⟩) hs
def rIx(K:PySem.W.Frag):R2:=λx y H Q=>rIxL K x y H Q∨rIxT K x y H Q∨rIxS x y H Q
theorem ZCX:IxR X (rIx X.K):=ZB7.or (ZER.or ZCa)
noncomputable def Gf:V->Bool
 |.non=>jU
 |.bl _=>jU
 |.int _=>jU
 |.str _=>jU
 |_=>xQ
noncomputable def eqV:V->V->Bool
 |.non,.non=>jU
 |.bl a,.bl b=>a==b
 |.bl a,.int b=>(if a then 1 else 0)==b
 |.int a,.bl b=>a==(if b then 1 else 0)
 |.int a,.int b=>a==b
 |.str a,.str b=>a==b
 |_,_=>xQ
theorem ZAN{A:qN}{s:qU}{y x:V}{u v:jZ}(ry:RelV y u)(rx:RelV x v)(fy:Gf y=jU)(fx:Gf x=jU):SeqAt.EqAt A s u v (eqV y x):=by
 cases y with
 |non=>
  cases ry;cases x with
  |non=>cases rx;exact SeqAt.EqAt.same _
  |bl b=>cases rx;exact SeqAt.EqAt.none_bool b
  |int b=>obtain⟨t,rfl⟩:=rx;exact SeqAt.EqAt.none_int b t
  |str b=>obtain⟨t,rfl⟩:=rx;exact SeqAt.EqAt.none_str b t
  |_=>exact absurd (show xQ=jU from fx) zV
 |bl a=>
  cases ry;cases x with
  |non=>cases rx;exact SeqAt.EqAt.bool_none a
  |bl b=>cases rx;exact SeqAt.EqAt.bool_bool a b
  |int b=>obtain⟨t,rfl⟩:=rx;exact SeqAt.EqAt.bool_int a b t
  |str b=>obtain⟨t,rfl⟩:=rx;exact SeqAt.EqAt.bool_str a b t
  |_=>exact absurd (show xQ=jU from fx) zV
 |int a=>
  obtain⟨t',rfl⟩:=ry;cases x with
  |non=>cases rx;exact SeqAt.EqAt.int_none a t'
  |bl b=>cases rx;exact SeqAt.EqAt.int_bool a t' b
  |int b=>obtain⟨t,rfl⟩:=rx;exact SeqAt.EqAt.int_int a t' b t
  |str b=>obtain⟨t,rfl⟩:=rx;exact SeqAt.EqAt.int_str a t' b t
  |_=>exact absurd (show xQ=jU from fx) zV
 |str a=>
  obtain⟨t',rfl⟩:=ry;cases x with
  |non=>cases rx;exact SeqAt.EqAt.str_none a t'
  |bl b=>cases rx;exact SeqAt.EqAt.str_bool a t' b
  |int b=>obtain⟨t,rfl⟩:=rx;exact SeqAt.EqAt.str_int a t' b t
  |str b=>obtain⟨t,rfl⟩:=rx;exact SeqAt.EqAt.str_str a t' b t
  |_=>exact absurd (show xQ=jU from fx) zV
 |_=>exact absurd (show xQ=jU from fy) zV
theorem ZCV:CallR X (.builtin "len") (λxs H Q=>∃p ys,xs=[.ref p]/\(SqL X.K H p ys∨SqT X.K H p ys)/\Q (.int ys.length) H):=by
 intro jR s σ H xs us Q I r h;obtain⟨p,ys,rfl,hq,q⟩:=h;obtain⟨u,rfl,rx⟩:=vals1 r;cases rx;have hn:=line63;rcases hq with hq|hq
 ·obtain⟨its,r',pl,hz⟩:=I.list hq;have hlen:=r'.length
  exact Calls.call_len_list pl.isList (by simp only[zq]<;>lia) ⟨.int ys.length,H,I.tok _,⟨s.toks+1,by rw[zq,hlen]⟩,q⟩
 ·obtain⟨its,r',pl,hz⟩:=I.tuple hq;have hlen:=r'.length
  exact len_tuple pl (by simp only[zq]<;>lia) ⟨.int ys.length,H,I.tok _,⟨s.toks+1,by rw[zq,hlen]⟩,q⟩
theorem ZA5:CallR X (.builtin "len") (λxs H Q=>∃z,xs=[.str z]/\z.length<=sizeLine/\Q (.int z.length) H):=by intro jR s σ H xs us Q I r h;obtain⟨z,rfl,hz,q⟩:=h;obtain⟨u,rfl,t,rfl⟩:=vals1 r;have hn:=line63;exact len_str (by lia) ⟨.int z.length,H,I.tok _,⟨_,rfl⟩,q⟩
theorem CallR.or{f:jZ}{r r':List V->Hp->VK->Prop}(h:CallR X f r)(h':CallR X f r'):CallR X f (λxs H Q=>r xs H Q∨r' xs H Q):=by
 intro jR s σ H xs us Q I rs q;rcases q with q|q
 ·exact h jR s σ H xs us Q I rs q
 ·exact h' jR s σ H xs us Q I rs q
theorem ZBI:CallR X (.type "tuple") (λxs H Q=>∃p ys,xs=[.ref p]/\((SqL X.K H p ys/\∀l,H l=jT->Q (.ref l) (upd H l (.tup ys)))∨(SqT X.K H p ys/\Q (.ref p) H))):=by
 intro jR s σ H xs us Q I r h;obtain⟨p,ys,rfl,h⟩:=h;obtain⟨u,rfl,rx⟩:=vals1 r;cases rx;rcases h with⟨hq,q⟩|⟨hq,q⟩
 ·obtain⟨its,r',pl,hz⟩:=I.list hq;have hlen:=r'.length
  refine call_tuple_list pl.isList (λh' kp=>?_) (by simp only[zq]<;>lia)
  have I1:Inv X jR σ H {s with heap:=h'}:=I.kept (t':=s.toks) kp;have I2:Inv X jR σ (upd H h'.objs.size (.tup ys)) {s with heap:=h'.push {cls:=.type "tuple",data:=.seq its.toArray}}:=
   I1.laid (t':=s.toks) (λb o e=>zZ _ e) (zW _) (show ObjOk X.prog X.w _ _ _ (.tup ys)from⟨hz,its,r',IsTup.new _ _⟩)
  exact⟨.ref h'.objs.size,_,I2,rfl,q _ (I1.hok.fresh (zW _))⟩
 ·obtain⟨its,r',pl,hz⟩:=I.tuple hq;exact call_tuple_same pl ⟨.ref p,H,I,rfl,q⟩
def tyV(K:PySem.W.Frag)(T:String)(x:V)(H:Hp):Prop:=match x with
 |.str _=>T="str"
 |.int _=>T="int"
 | .ref p=>(T="list"/\∃xs,SqL K H p xs)∨(T="tuple"/\∃o,K.lookup p=jS o/\o.cls=.type "tuple"/\o.dict=jT)∨
   (T="dict"/\((∃kvs,H p=jS (.dK kvs))∨∃kvs,H p=jS (.dT kvs)))∨(T="set"/\∃S n,H p=jS (.set S n))
 |_=>False
theorem ZDi{jR:List (qM×Obj)}{σ:St}{H:Hp}{s:qU}{T:String}{x:V}{v:jZ}(I:Inv X jR σ H s)(r:RelV x v)(ty:tyV X.K T x H):
  s.TypeIs v T/\∀a,v=.ref a->∃ob,s.heap.get? a=jS ob/\ob.dict=jT:=by
 cases x with
 |str z=>
  obtain⟨t,rfl⟩:=r
  cases(show T="str" from ty)
  exact⟨typeIs_str s z t,λ_ e=>nomatch e⟩
 |int i=>
  obtain⟨t,rfl⟩:=r
  cases(show T="int" from ty)
  exact⟨typeIs_int s i t,λ_ e=>nomatch e⟩
 | ref p=>
  cases r;rcases ty with⟨rfl,xs,hq⟩|⟨rfl,o,hk,hc,hd⟩|⟨rfl,hk⟩|⟨rfl,S,n,hk⟩
  ·obtain⟨its,_,pl,_⟩:=I.list hq;refine⟨pl.isList.typeIs,λa e=>?_⟩;cases e;obtain⟨o,n,e,c,hd,_⟩:=pl;exact⟨o,e,hd⟩
  ·refine⟨⟨o,I.kIn p o hk,hc⟩,λa e=>?_⟩;cases e;exact⟨o,I.kIn _ o hk,hd⟩
  ·have z:∃o,s.heap.get? p=jS o/\o.ExactDict:=by
    rcases hk with⟨kvs,hk⟩|⟨kvs,hk⟩
    ·obtain⟨_,_,_,_,o,_,_,e,ex,_⟩:=I.hok p _ hk;exact⟨o,e,ex⟩
    ·obtain⟨_,_,_,_,o,_,_,e,ex,_⟩:=I.hok p _ hk;exact⟨o,e,ex⟩
   obtain⟨o,e,ex⟩:=z;refine⟨⟨o,e,ex.1⟩,λa e2=>?_⟩;cases e2;exact⟨o,e,ex.2.1⟩
  ·obtain⟨o,_,_,_,e,ex,_⟩:=I.hok p _ hk;refine⟨⟨o,e,ex.1⟩,λa e2=>?_⟩;cases e2;exact⟨o,e,ex.2.1⟩
 |_=>exact False.elim ty
noncomputable def tBM(K:PySem.W.Frag)(T:String)(r:V->List V->Hp->VK->Prop)(to:TE)(t:TA):TE:=λσ H Q=>to σ H λx H1=>tyV K T x H1/\t σ H1 λxs H2=>r x xs H2 Q
variable{o e:qO}{es:List qO}{to:TE}{t:TA}{name:Str}{apos cpos:Pos}{T id:String}{r:V->List V->Hp->VK->Prop}
theorem ZB8(pa:PlainAttrs T)(slot:Slot T name id)(hty:typeOf (.builtin id)=pure (.type "method_descriptor"))(hm:MtR X id r)(ho:PE X o to)(ha:PA X (e::es) t)
  (hbase:jV o name X.env (eval o X.env)=eval o X.env:=by rfl)
  (hfew:((jW cpos (j8 (e::es) X.env)).all (λx=> !x.1)&&(backToKw cpos (keywordEach [] X.env)).all (λx=>x.1.isSome)
   && decide ((e::es).length+([]:List Keyword).length+(if([]:List Keyword).isEmpty then 0 else 1)<30))=jU:=by rfl)
  (hline:(apos.endLine==cpos.line)=jU:=by rfl) (hs:j8 (e::es) X.env=(xQ,eval e X.env)::j8 es X.env:=by rfl) (hplain:(jW cpos (j8 es X.env)).any (·.1)=xQ:=by rfl):
  PE X (.Call (.Attribute o name apos) (e::es) [] cpos) (tBM X.K T r to t):=by
 intro jR s σ H Q I h;refine wpAny_Call_method_late hbase hfew hline rfl (thn (ho jR s σ H _ I h) λv s1 ⟨x,H1,I1,r1,ty,q1⟩=>?_);obtain⟨h1,h2⟩:=ZDi I1 r1 ty;refine⟨T,id,pa,slot,hty,h1,h2,?_⟩;have hA:=ha cpos jR s1 σ H1 _ I1 q1;rw[hs]at hA⊢
 refine Calls.callWith_builtin (by show(xQ||(jW cpos (j8 es X.env)).any (·.1))=xQ;rw[hplain]<;>rfl) (Calls.evalArgs_plain ?_)
 exact thn hA λus s2 ⟨vs,H2,I2,r2,q2⟩=>hm jR s2 σ H2 x vs v us Q I2 r1 r2 q2
end
def MtM(X:Cx)(id:String)(r:V->List V->Hp->VK->Prop):Prop:=
 ∀(jR:List (qM×Obj))(s:qU)(σ:St)(H:Hp)(x:V)(xs:List V)(v:jZ)(us:List jZ)(Q:VK),Inv X jR σ H s->RelV x v->Vals xs us->r x xs H Q->
  jA (j5 X.prog X.w) X.A (call (.builtin id) (v::us)) (EP X jR σ Q) X.xe s
theorem Vals.one:∀{x:V}{us:List jZ},Vals [x] us->∃u,us=[u]/\RelV x u
 |_,_,.cons r .nil=>⟨_,rfl,r⟩
section
variable{X:Cx}{jR:List (qM×Obj)}{σ:St}{H:Hp}{s:qU}{l b:qM}{xs ys zs:List V}
theorem Inv.lset{its its':List jZ}{n:Nat}{f:Array jZ->Array jZ}{t':Nat}(I:Inv X jR σ H s)(hH:H l=jS (.lst xs))
  (e:s.heap.get? l=jS {cls:=.type "list",data:=.seq its.toArray n}) (hf:f its.toArray=its'.toArray) (hv:Vals ys its') (hz:ys.length<=sizeLine):
  Inv X jR σ (upd H l (.lst ys)) {s with heap:=s.heap.update l (Obj.mapSeq f),toks:=t'}:=by
 have q:=PySem.IsL.update e f;rw[hf]at q;refine I.write (x:=l) (e:=l) (by rw[hH];exact trivial) (.inl rfl) (λb' u hb hu=>(zH s.heap (Obj.mapSeq f) (Ne.symm hb)).trans hu) ⟨_,q⟩ ?_;exact⟨hz,its',_,hv,q⟩
theorem Inv.lnew{its:List jZ}{t':Nat}(I:Inv X jR σ H s)(hv:Vals ys its)(hz:ys.length<=sizeLine):
  Inv X jR σ (upd H s.heap.objs.size (.lst ys)) {s with heap:=s.heap.push {cls:=.type "list",data:=.seq its.toArray},toks:=t'}:=
 I.laid (λ_ _ q=>zZ _ q) (zW _) ⟨hz,its,0,hv,zj _ rfl⟩
theorem Inv.fresh(I:Inv X jR σ H s):H s.heap.objs.size=jT:=I.hok.fresh (zW _)
theorem Inv.lstM(I:Inv X jR σ H s)(hH:H l=jS (.lst xs)):xs.length<=sizeLine/\∃(its:List jZ)(n:Nat),Vals xs its/\xs.length=its.length/\s.heap.get? l=jS {cls:=.type "list",data:=.seq its.toArray n}:=by obtain⟨z,its,n,r,e⟩:=I.hok l _ hH;exact⟨z,its,n,r,r.length,e⟩
end
section
variable{X:Cx}
def ZDx:V->List V->Hp->VK->Prop:=λx vs H Q=>∃l xs y,x=.ref l/\vs=[y]/\H l=jS (.lst xs)/\xs.length<sizeLine/\Q .non (upd H l (.lst (xs++[y])))
theorem ZDz:MtM X "list.append" ZDx:=by
 intro jR s σ H x vs v us Q I rx rv h;obtain⟨l,xs,y,rfl,rfl,hH,hz,q⟩:=h;cases rx;obtain⟨u,rfl,ru⟩:=rv.one;obtain⟨z,its,n,r,hl,e⟩:=I.lstM hH;refine call_meets F.slot_list_append ⟨_,e,rfl⟩ F.entry_list_append (F.args_list_append_2 _ _) (PySem.list_append l its.toArray n u (by rw[zq];lia)) ⟨e,?_⟩;refine⟨.non,_,I.lset (its':=its++[u]) hH e (by simp) (r.append (.cons ru .nil)) ?_,rfl,q⟩
 rw[qJ,List.length_singleton];lia
end
section
variable{prog:qS}{w:jJ}{A:qN}{E:jZ->qU->Prop}{s:qU}
end
section
variable{X:Cx}
end
end L2
namespace Att
open PySem PySem.W PySem.Calls PyProof.Rows
theorem ZAo{P:Params}{h:Heap}:∀(ns:List Int)(vs:List jZ),WellAll P h vs (ns.map WData.int)->IntsAre vs ns:=by
 intro ns
 induction ns with
 |nil=>
  intro vs w;rw[List.map_nil]at w;cases w;exact .nil
 | cons n ns ih=>
  intro vs w;rw[zI]at w;cases w with
  |cons a b=>
   cases a;exact .cons _ _ (ih _ b)
theorem ZD4{l:OpenLaw}{n:Nat}(hn:l.most=jS n){P:Params}{h:Heap}{args:List WData}{vals:List jZ}
  (hpre:l.row.toRowW.claim.pre args=jU) (hwl:WellAll P h vals args):
  ∃a vs ns,vals=[Value.ref a]/\args=[WData.list (ns.map WData.int)]/\h.get? a=jS {cls:=.type "list",data:=.seq vs.toArray}/\IntsAre vs ns/\ns.length<=n:=by
 have hsh:WShape.hasAll [] args [.list .int]=jU:=(pre_splitW hpre).1;have hc:l.pre.holds [] {args:=args}=jU:=(pre_splitW hpre).2;obtain⟨d,r,rfl,h1,h2⟩:=hasAllW_cons hsh;obtain rfl:=hasAllW_nil h2;obtain⟨xs,rfl,h3⟩:=hasW_list h1;obtain⟨ns,rfl⟩:=items_int h3;have hlen:ns.length<=n:=by
  unfold OpenLaw.pre at hc;have h4:(WTm.not (.lt (.lit (.int (n:Int))) (.len (.arg 0)))).holds [] {args:=[.list (ns.map .int)]}=jU:=by have h4:=(holds_andW hc).1;rw[hn]at h4;exact h4
  have h5:=condW_of h4 (w_not (w_lt w_lit (w_len_list (w_arg rfl))));rw[qY]at h5;refine Nat.le_of_not_lt λq=>?_
  have q':(n:Int)<((ns.length:Nat):Int):=by lia
  first
   |(rw[decide_eq_true q']at h5;exact absurd h5 (by decide))
   |(simp at h5;lia)
 cases hwl with
 |cons w1 w2=>
  cases w2;cases w1 with
  |list ho hall=>exact⟨_,_,ns,rfl,rfl,ho,ZAo ns _ hall,hlen⟩
theorem ZCd(l:OpenLaw)(args:List WData):l.row.toRowW.claim.post args (.bool jU) args=jU:=
 postW_of (r:=l.row.toRowW) (X:=(jU==jU))
  (show WShape.has [] (.bool jU) .bool=jU by first|rfl|decide|simp[WShape.has,WShape.arms,WShape.armsAll])
  (show(WTm.eq .res (.lit (.bool jU))).value [] {args:=args,res:=jS (.bool jU),after:=args}=jS (.bool (jU==jU))from w_eq_bool (w_res rfl) w_lit) rfl
theorem ZAx{l:OpenLaw}{n:Nat}{q:qS}{loose:List Str}{XP:(Str->Option jZ)->Heap->Prop}{YP:jJ->Heap->Prop}{d:DefRec}
  (hn:l.most=jS n) (hdf:d.params.defaults=[])
  (call:∀(w:jJ)(s₀ s₁:qU)(mg mb:Str->Option jZ)(fa:qM)(o:Obj)(pm cd doc:jZ)(a:qM)(vs:List jZ)(ns:List Int),
   Ground q loose [] XP w s₀ mg mb s₁.heap->YP w s₁.heap->
   s₁.heap.get? fa=jS o->o.data=.func (docDef d.name d.params d.body d.scope pm cd doc)->s₁.heap.CodeRec cd d.name->mg d.name=jS (.ref fa)->
   s₁.heap.get? a=jS {cls:=.type "list",data:=.seq vs.toArray}->IntsAre vs ns->ns.length<=n->s₁.gens= #[]->
   codeAny (j5 l.prog w) callerA (.call (.ref fa) ⟨[.ref a],[]⟩) (λr s'=>r=.ok (.ret (.bool jU))/\OldK s₁.heap s'.heap/\s'.os=s₁.os/\AllBare s'.gens) s₁):
  WalkO q loose XP YP l.row.toRowW d [] (λf vs=>PySem.call f vs):=by
 intro w s₀ s₁ mg mb G Y fa o pm cd doc dV kV ho hd hcd hD hmg hg args vals as hpre hlay hrd hwl hlo;obtain rfl:dV=.none:=Dflts.none hD hdf;obtain rfl:kV=.none:=Dflts.noKw hD;obtain⟨a,vs,ns,rfl,rfl,hobj,hints,hlen⟩:=ZD4 hn hpre hwl;refine enter_call (jj (call w s₀ s₁ mg mb fa o pm cd doc a vs ns G Y ho (fd_plain hd) hcd hmg hobj hints hlen hg) λr s' hq=>?_);obtain⟨rfl,h2,h3,h4⟩:=hq
 exact⟨.inl ⟨.bool jU,.bool jU,[],rfl,λ_=>rfl,.bool jU,ZCd l _,λ_=>⟨List.Pairwise.nil,λ_ hm=>(nomatch hm)⟩⟩,h2,h3,h4⟩
section
variable{prog:qS}{w:jJ}{A:qN}{E:jZ->qU->Prop}{s:qU}{K:jO}
end
end Att
namespace L2
open PySem PySem.Spec PyProof.Rows
variable{k:Nat}{fd:qP}{x:Str}
theorem Nq:∀{vs:List jZ}{ns:List Int},IntsAre vs ns->Vals (ns.map V.int) vs
 |_,_,.nil=>.nil
 |_,_,.cons n t h=>.cons ⟨t,rfl⟩ (Nq h)
def Only(H:Hp):Prop:=∀b,H b=jT∨∃o xs,H b=jS (.frz o (.lst xs))
theorem ZD0{P:qS}{w:jJ}{K:PySem.W.Frag}{mg mb:Str->Option jZ}{CX:CXT}{fa a:qM}{sp:Sp}{s₁:qU}{vs:List jZ}{ns:List Int}
  (KX:K.In s₁.heap) (hns:s₁.heap.Ns j4 mg) (hb:s₁.heap.Ns builtinsNs mb) (hbb:∀x:Str,x≠"__name__"->mb x=jq x) (hlim:s₁.heap.NoLimit) (hg:s₁.gens= #[])
  (ha:s₁.heap.get? a=jS {cls:=.type "list",data:=.seq vs.toArray}) (hi:IntsAre vs ns) (hl:ns.length<=sizeLine) (hr:Room k callerA)
  (F:∀base:Heap,K.In base->base.Ns j4 mg->FnOk P w K mg base CX k fa fd [x] sp) (hbind:∀(s:qU)(u:jZ),BindsTo s fd ⟨[u],[]⟩ [(x,u)])
  (hsp:∀H:Hp,Only H->SqL K H a (ns.map V.int)->sp [.ref a] H (λv _=>v=.bl jU) λ_ _ _=>False)
  (hCX:∀H e s',CX [] H s₁ (λ_ _ _=>False) e s'->False):
  codeAny (j5 P w) callerA (.call (.ref fa) ⟨[.ref a],[]⟩) (λr s'=>r=.ok (.ret (.bool jU))/\OldK s₁.heap s'.heap/\s'.os=s₁.os/\AllBare s'.gens) s₁:=by
 have rv:=Nq hi;have lenV:=hi.length;have core:∀H:Hp,Only H->SqL K H a (ns.map V.int)->HOk P w H s₁.heap->(∀b,H b≠jT->b=a)->(H a≠jT->K.lookup a=jT)->
   codeAny (j5 P w) callerA (.call (.ref fa) ⟨[.ref a],[]⟩) (λr s'=>r=.ok (.ret (.bool jU))/\OldK s₁.heap s'.heap/\s'.os=s₁.os/\AllBare s'.gens) s₁:=by
  intro H hO hS hok hA hK;have base_of:∀{b:qM}{o:Obj},s₁.heap.get? b=jS o->H b=jT->(Fy s₁.heap H).get? b=jS o:=λe n=>ZCu e n
  have noA:∀{b:qM}{o:Obj}{es:Array DictEntry}{ep:Nat},s₁.heap.get? b=jS o->o.data=.dict es ep->H b=jT:=λ{b o es ep}e d=>by
   cases q:H b with
   |none=>rfl
   |some u=>
    have e':b=a:=hA b (by rw[q];simp);subst e';rw[ha]at e;cases e;have d':Data.seq vs.toArray _=Data.dict es ep:=d;cases d'
  have nsK:∀{b:qM}{m:Str->Option jZ},s₁.heap.Ns b m->(Fy s₁.heap H).Ns b m:=λ{b m}⟨o,es,ep,e,d,r⟩=>⟨o,es,ep,base_of e (noA e d),d,r⟩
  have hKb:K.In (Fy s₁.heap H):=λb o e=>base_of (KX b o e) (by
   cases q:H b with
   |none=>rfl
   |some u=>
    have e':b=a:=hA b (by rw[q];simp);subst e';rw[hK (by rw[q];simp)]at e;cases e)
  have hM:Mod K mg (Fy s₁.heap H):=⟨hKb,nsK hns,⟨mb,nsK hb,hbb⟩,let⟨mc,h1,h2⟩:=hlim;⟨mc,nsK h1,h2⟩⟩
  have e0:Env0 P w K mg (Fy s₁.heap H) callerA [] s₁ H:=⟨rfl,hM,λb o e=>ZCy e,Nat.le_of_eq (ZDb _ _),trivial,λb hb=>absurd (show b∈([]:List qM)from hb) (by simp),hok,.of_eq hg⟩
  refine jj ((F _ hKb (nsK hns)).run callerA [] s₁ H ⟨[.ref a],[]⟩ [.ref a] [.ref a] _ _ hr e0 (hbind s₁ (.ref a)) (.cons rfl .nil) (hsp H hO hS)) λr s' h=>?_
  cases r with
  |error e=>exact(hCX H e s' h).elim
  | ok fl=>
   cases fl with
   |next=>exact False.elim h
   |brk=>exact False.elim h
   |cont=>exact False.elim h
   | ret u=>
    obtain⟨v,H',os,bare,un,hok',r',q⟩:=h;have q':v=.bl jU:=q;subst q';obtain rfl:u=Value.bool jU:=r';refine⟨rfl,OldK.of_keep λb o e=>?_,os,bare⟩;cases q:H b with
    |none=>exact un.keep b o e q (by intro z;exact absurd (show b∈([]:List qM)from z) (by simp)) (by simp)
    |some u=>
     rcases hO b with z|⟨ob,xs,z⟩
     ·rw[q]at z;cases z
     ·have z2:=un.frzs b ob _ z;obtain⟨e1,_⟩:=hok b _ z;obtain⟨e2,_⟩:=hok' b _ z2;rw[e]at e1;cases e1;exact e2
 cases hk:K.lookup a with
 |some o=>
  have e:=KX a o hk;rw[ha]at e;cases e;refine core (λ_=>jT) (λ_=>.inl rfl) (.inr ⟨_,vs.toArray,_,hk,rfl,rfl,rfl,by rw[zq,lenV];exact hl,by simpa using rv⟩) (λb u z=>by have z':(jT:Option HO)=jS u:=z;cases z') (λb z=>absurd rfl z) λz=>absurd rfl z
 | none=>
  refine core (λb=>if b=a then jS (.frz {cls:=.type "list",data:=.seq vs.toArray} (.lst (ns.map V.int)))else jT) (λb=>?_) (.inl (.inr ⟨{cls:=.type "list",data:=.seq vs.toArray},if_pos rfl⟩)) (λb u z=>?_) (λb z=>?_) λ_=>hk
  ·by_cases hb:b=a
   ·exact .inr ⟨_,_,if_pos hb⟩
   ·exact .inl (if_neg hb)
  ·by_cases hb:b=a
   ·have z':=(if_pos hb).symm.trans z;cases z';subst hb;exact⟨ha,by rw[qY];exact hl,vs,_,rv,ha⟩
   ·have z':=(if_neg hb).symm.trans z;cases z'
  ·by_cases hb:b=a
   ·exact hb
   ·exact absurd (if_neg hb) z
theorem ZAK{l:PySem.W.OpenLaw}{n:Nat}{q:qS}{loose:List Str}{XP:(Str->Option jZ)->Heap->Prop}{YP:jJ->Heap->Prop}{d:DefRec}{K:jJ->PySem.W.Frag}{CX:jJ->CXT}{sp:jJ->Sp} 
  (hn:l.most=jS n) (hn2:n<=sizeLine) (hdf:d.params.defaults=[]) (hr:Room k callerA)
  (hY:∀(w:jJ)(h:Heap),YP w h->(K w).In h)
  (F:∀(w:jJ)(mg:Str->Option jZ)(fa:qM)(h:Heap),(K w).In h->h.Ns j4 mg->mg d.name=jS (.ref fa)->
   ∃fd:qP,(∀(s:qU)(u:jZ),BindsTo s fd ⟨[u],[]⟩ [(x,u)])/\
    ∀base:Heap,(K w).In base->base.Ns j4 mg->FnOk l.prog w (K w) mg base (CX w) k fa fd [x] (sp w))
  (hsp:∀(w:jJ)(H:Hp)(a:qM)(ns:List Int),ns.length<=n->Only H->SqL (K w) H a (ns.map V.int)->sp w [.ref a] H (λv _=>v=.bl jU) λ_ _ _=>False)
  (hCX:∀(w:jJ)(H:Hp)(s:qU)(e:jZ)(s':qU),CX w [] H s (λ_ _ _=>False) e s'->False):
  PySem.W.WalkO q loose XP YP l.row.toRowW d [] (λf vs=>PySem.call f vs):=by
 refine Att.ZAx hn hdf λw s₀ s₁ mg mb fa o pm cd doc a vs ns G Y ho hd hcd hmg hobj hints hlen hg=>?_
 have KX:=hY w _ Y;obtain⟨fd,hb,hF⟩:=F w mg fa _ KX G.T.g hmg;exact ZD0 KX G.T.g G.T.b G.T.builtins G.T.nolimit hg hobj hints (z0 hlen hn2) hr hF hb (λH hO hS=>hsp w H a ns hlen hO hS) λH e s'=>hCX w H s₁ e s'
noncomputable def Fp(s:jQ):Arguments:=match s with
 |.FunctionDef _ a _ _ _ _ _ _ _ _=>a
 |_=>{posonlyargs:=[],args:=[],vararg:=jT,kwonlyargs:=[],kw_defaults:=[],kwarg:=jT,defaults:=[]}
noncomputable def Dk(s:jQ):List jQ:=match s with
 |.FunctionDef _ _ b _ _ _ _ _ _ _=>b
 |_=>[]
noncomputable def Ao(s:jQ):qT:=match s with
 |.FunctionDef _ _ _ _ _ _ sc _ _ _=>sc
 |_=>{kind:=.function,names:=[],isGenerator:=xQ,isCoroutine:=xQ}
noncomputable abbrev CX0:CXT:=λ_ _ _ _ _ _=>False
noncomputable abbrev E0:XK:=λ_ _ _=>False
theorem pass0{X:Cx}:Passes CX0 X E0:=λ_ _ _ _ _ _ _ h=>h.elim
structure Fun (K:PySem.W.Frag) (x qual:Str) (st:jQ) (f:qM) (fd:qP):Prop where
 ex:∃(oc:jZ)(od:Option qM)(kV doc pm:jZ)(an:Option qM)(cdv ct:jZ)(osl:Array (Option jZ)),
  fd=PySem.W.fnOf x qual (Fp st) (Dk st) (Ao st) .none kV doc pm an cdv ct/\K.lookup f=jS ⟨oc,od,.func fd,osl⟩/\PySem.W.codeIn K cdv qual=jU
 kp:PySem.W.keepIn K (.ref f)=jU
section
variable{P:qS}{w:jJ}{K:PySem.W.Frag}{mg:Str->Option jZ}{base:Heap}
theorem Fun.ok{qual:Str}{st:jQ}{f:qM}{N ps:List Str}{sp:Sp}(F:Fun K x qual st f fd)(S:FnScope N ps (Ao st))(len:∀vs H Q E,sp vs H Q E->vs.length=ps.length)
  (hbody:∀(cdv:jZ)(A:qN)(outer:List Env)(s:qU)(H:Hp)(vs:List V)(Q:VK)(E:XK),Room k (A.deeper (envOfC qual (Ao st) s.heap.objs.size f cdv))->sp vs H Q E->
   ∃t,PSs (Dr CX0 P w K mg base N qual (Ao st) f cdv A outer s H E).nox (Dk st) t/\t {nx:=λ_ H'=>Q .non H',rt:=Q} (start N vs) H):FnOk P w K mg base CX0 (k+1) f fd ps sp:=by
 obtain⟨oc,od,kV,doc,pm,an,cdv,ct,osl,rfl,lk,hcd⟩:=F.ex;refine V4 lk hcd S len λA outer s H vs Q E hr hsp=>?_
 obtain⟨t,h,q⟩:=hbody cdv A outer s H vs Q E hr hsp;exact⟨t,h.nox,q⟩
theorem Fun.binds{qual:Str}{st:jQ}{f:qM}{ps:List Str}(F:Fun K x qual st f fd)
  (h:∀(kV doc pm:jZ)(an:Option qM)(cdv ct:jZ)(us:List jZ),us.length=ps.length->bindArgs (PySem.W.fnOf x qual (Fp st) (Dk st) (Ao st) .none kV doc pm an cdv ct) ⟨us,[]⟩=pure (ps.zip us)):Binds K fd ps []:=by
 obtain⟨oc,od,kV,doc,pm,an,cdv,ct,osl,rfl,lk,hcd⟩:=F.ex;exact .all (h kV doc pm an cdv ct)
end
section
variable{X:Cx}
theorem pv(i:Nat){pos:Pos}(hN:X.N[i]?=jS x:=by rfl)(hv:Vis X.env.scope x:=by first|exact Or.inl rfl|exact Or.inr (Or.inl rfl)|exact Or.inr (Or.inr rfl))(hd:(x==("__debug__":Str))=xQ:=by decide)
  (hcd:(x==("__classdict__":Str))=xQ:=by decide):PE X (.Name x pos) (Ir i):=K9 hN hv hd hcd
end
section
variable{κ:Type}[DecidableEq κ]
end
section
variable{P:qS}{w:jJ}{H:Hp}{h:Heap}{a:qM}
end
section
variable{X:Cx}{jR:List (qM×Obj)}{σ:St}{H:Hp}{s:qU}{a:qM}{y v:V}{u r:jZ}{o:Option V}{A:qN}{E:jZ->qU->Prop}
end
section
variable{X:Cx}{jR:List (qM×Obj)}{σ:St}{H:Hp}{s:qU}{a:qM}{kvs:List (Key×V)}{k:Key}{u:jZ}{A:qN}{E:jZ->qU->Prop}
end
section
variable{X:Cx}{o i e value:qO}{pos pos' tpos:Pos}{td ty tv:TE}
end
section
variable{X:Cx}{pos:Pos}
end
section
variable{X:Cx}{jR:List (qM×Obj)}{σ:St}{H:Hp}{s:qU}{a:qM}{y d:V}{u r:jZ}{o:Option V}{A:qN}{E:jZ->qU->Prop}
end
section
variable{X:Cx}{o e f:qO}{apos cpos:Pos}{td ty tx:TE}
end
section
variable{X:Cx}{jR:List (qM×Obj)}{σ:St}{H:Hp}{s:qU}{a:qM}{kvs:List (Key×V)}{A:qN}{E:jZ->qU->Prop}
end
section
variable{X:Cx}{jR:List (qM×Obj)}{σ:St}{H:Hp}{s:qU}{a:qM}{y:V}{u:jZ}{A:qN}{E:jZ->qU->Prop}
end
section
variable{X:Cx}
end
end L2
namespace L2
section
variable{κ:Type}[DecidableEq κ]
end
end L2
namespace DL
open PySem PySem.Spec L2
open PyProof.Rows hiding St
variable{α β:Type}{H:Hp}{p:qM}{v:V}{vs:List V}{σ:St}{E:XK}{Q:VK}{W:Ends}{e tg:qO}{ho:HO}{i j k:Nat}{x:Str}{op:CmpOp}{P:qS}{w:jJ}{scope:qT}{env:Env}{X:Cx}
inductive D where
 |non|bl (b:Bool)|int (i:Int)|str (x:Str)|ty (n:String)
 |tup (xs:List D)
 |fl (xs:List D)
 |ref (i:Nat)
variable{d:D}{ds xs:List D}
inductive DO where
 |lst (xs:List D)
 |dct (kvs:List (Key×D))
 |ins (c:Str) (fs:List (Str×D))
 |tab (c m:Str)
 |exc (c:Str) (fs:List (Str×D))
 |gone
variable{o:DO}
noncomputable abbrev DH:=List DO
variable{G G' L:DH}
noncomputable abbrev DSt:=List (Option D)
variable{S:DSt}
structure Xn where
 cls:Str
 fs:List (Str×D)
inductive R (α:Type) where
 |ok (a:α) (G:DH)
 |err (x:Xn) (G:DH)
 |bad
variable{r:R D}
noncomputable def R.bind{α β:Type}(r:R α)(f:α->DH->R β):R β:=match r with
 |.ok a G=>f a G
 |.err x G=>.err x G
 |.bad=>.bad
@[simp]theorem R.ZFw(a:α)(G:DH)(f:α->DH->R β):(R.ok a G).bind f=f a G:=id rfl
@[simp]theorem R.ZFi(f:α->DH->R β):(R.bad:R α).bind f=.bad:=id rfl
inductive SR where
 |nx (S:DSt) (G:DH)
 |rt (d:D) (G:DH)
 |bk (S:DSt) (G:DH)
 |ct (S:DSt) (G:DH)
 |err (x:Xn) (G:DH)
 |bad
noncomputable abbrev DE:=DSt->DH->R D
variable{t te:DE}
noncomputable abbrev DB:=DSt->DH->R Bool
noncomputable abbrev DA:=DSt->DH->R (List D)
noncomputable abbrev DS:=DSt->DH->SR
variable{u:DS}
def FzL(K:PySem.W.Frag)(H:Hp)(a:qM)(xs:List V):Prop:=
 (∃o,H a=jS (.frz o (.lst xs)))∨
  ∃(o:Obj)(its:Array jZ)(n:Nat),K.lookup a=jS o/\o.cls=.type "list"/\o.dict=jT/\o.data=.seq its n/\its.size<=sizeLine/\Vals xs its.toList
theorem FzL.sq{K:PySem.W.Frag}{a:qM}{xs:List V}(h:FzL K H a xs):SqL K H a xs:=by
 rcases h with⟨o,h⟩|h
 ·exact .inl (.inr ⟨o,h⟩)
 ·exact .inr h
structure Wd where
 K:PySem.W.Frag
 n:Nat
 m:Nat->qM
 H:Hp
variable{a b c:Wd}
mutual
def Rep(a:Wd):D->V->Prop
 |.non,v=>v=.non
 |.bl b,v=>v=.bl b
 |.int i,v=>v=.int i
 |.str x,v=>v=.str x
 |.ty n,v=>v=.ty n
 |.tup ds,v=>∃p vs,v=.ref p/\SqT a.K a.H p vs/\Reps a ds vs
 |.fl ds,v=>∃p vs,v=.ref p/\FzL a.K a.H p vs/\Reps a ds vs
 |.ref i,v=>i<a.n/\v=.ref (a.m i)
def Reps(a:Wd):List D->List V->Prop
 |[],vs=>vs=[]
 |d::ds,vs=>∃v r,vs=v::r/\Rep a d v/\Reps a ds r
end
noncomputable def lamQ:Str:="Sending.send_by.<locals>.<lambda>"
def TabOk(H:Hp)(P:qM):Prop:=
 ∃ps:Array jZ,H P=jS (.tbl ps)/\TriplesOk ps.toList/\∀pos cv,codeAmong pos ps.toList=jS cv->∃(c:qM)(oc:Obj)(vs:Array jZ)(t:Tok),cv=.ref c/\H c=jS (.frz oc (.own 0))/\oc.data=.fields vs/\vs[1]?=jS (.str lamQ t)
theorem TabOk.mono{H':Hp}{P:qM}(h:TabOk H P)(ht:∀p ps,H p=jS (.tbl ps)->H' p=jS (.tbl ps))(hf:∀p o u,H p=jS (.frz o u)->H' p=jS (.frz o u)):TabOk H' P:=by obtain⟨ps,e,t,k⟩:=h;refine⟨ps,ht _ _ e,t,λpos cv hc=>?_⟩;obtain⟨c,oc,vs,tk,e1,e2,e3,e4⟩:=k pos cv hc;exact⟨c,oc,vs,tk,e1,hf _ _ _ e2,e3,e4⟩
def TabAt(K:PySem.W.Frag)(C m:Str)(c P:qM):Prop:=
 ∃(Ca f:qM)(oc:jZ)(od:Option qM)(fd:qP)(sl:Array (Option jZ)),PySem.W.nsIn K j4 C=jS (jS (.ref Ca))/\PySem.W.findIn K (.ref Ca) m=jS (jS (.ref f))/\K.lookup f=jS ⟨oc,od,.func fd,sl⟩/\fd.code=.ref c/\PySem.W.codeHdIn K c P=jU
structure Ext (a b:Wd):Prop where
 k:b.K=a.K
 n:a.n<=b.n
 m:∀i,i<a.n->b.m i=a.m i
 tup:∀p xs,a.H p=jS (.tup xs)->b.H p=jS (.tup xs)
 frz:∀p o u,a.H p=jS (.frz o u)->b.H p=jS (.frz o u)
 tab:∀p,TabOk a.H p->TabOk b.H p
theorem Ext.refl(a:Wd):Ext a a:=⟨rfl,zW _,λ_ _=>rfl,λ_ _ h=>h,λ_ _ _ h=>h,λ_ h=>h⟩
theorem Ext.trans(x:Ext a b)(y:Ext b c):Ext a c:=
 ⟨y.k.trans x.k,z0 x.n y.n,λi h=>(y.m i (zJ h x.n)).trans (x.m i h),λp xs h=>y.tup p xs (x.tup p xs h),λp o u h=>y.frz p o u (x.frz p o u h),λp h=>y.tab p (x.tab p h)⟩
theorem Ext.sqT(x:Ext a b){xs:List V}(h:SqT a.K a.H p xs):SqT b.K b.H p xs:=by
 rcases h with(h|⟨o,h⟩)|h
 ·exact .inl (.inl (x.tup _ _ h))
 ·exact .inl (.inr ⟨o,x.frz _ _ _ h⟩)
 ·exact .inr (by rw[x.k];exact h)
theorem Ext.fzL(x:Ext a b){xs:List V}(h:FzL a.K a.H p xs):FzL b.K b.H p xs:=by
 rcases h with⟨o,h⟩|h
 ·exact .inl ⟨o,x.frz _ _ _ h⟩
 ·exact .inr (by rw[x.k];exact h)
mutual
theorem Rep.mono(x:Ext a b):∀{d:D}{v:V},Rep a d v->Rep b d v
 |.non,_,h=>h
 |.bl _,_,h=>h
 |.int _,_,h=>h
 |.str _,_,h=>h
 |.ty _,_,h=>h
 |.tup ds,v,h=>by obtain⟨p,vs,e,q,r⟩:=h;exact⟨p,vs,e,x.sqT q,Reps.mono x r⟩
 |.fl ds,v,h=>by obtain⟨p,vs,e,q,r⟩:=h;exact⟨p,vs,e,x.fzL q,Reps.mono x r⟩
 |.ref i,v,h=>by obtain⟨l,e⟩:=h;exact⟨zJ l x.n,by rw[x.m i l];exact e⟩
theorem Reps.mono(x:Ext a b):∀{ds:List D}{vs:List V},Reps a ds vs->Reps b ds vs
 |[],_,h=>h
 |d::ds,vs,h=>by obtain⟨v,r,e,h1,h2⟩:=h;exact⟨v,r,e,Rep.mono x h1,Reps.mono x h2⟩
end
theorem Reps.length:∀{ds:List D}{vs:List V},Reps a ds vs->ds.length=vs.length
 |[],vs,h=>by cases(show vs=[]from h);rfl
 |d::ds,vs,h=>by obtain⟨v,r,e,h1,h2⟩:=h;subst e;show ds.length+1=r.length+1;rw[Reps.length h2]
theorem Reps.get:∀{ds:List D}{vs:List V}{i:Nat}{d:D},Reps a ds vs->ds[i]?=jS d->∃v,vs[i]?=jS v/\Rep a d v
 |[],vs,_,_,h,e=>by simp at e
 |d::ds,vs,0,d',h,e=>by obtain⟨v,r,e1,h1,h2⟩:=h;subst e1;simp at e;subst e;exact⟨v,rfl,h1⟩
 |d::ds,vs,i+1,d',h,e=>by obtain⟨v,r,e1,h1,h2⟩:=h;subst e1;obtain⟨w,e2,h3⟩:=Reps.get (i:=i) (d:=d') h2 (by simpa using e);exact⟨w,by simpa using e2,h3⟩
theorem Reps.get':∀{ds:List D}{vs:List V}{i:Nat}{v:V},Reps a ds vs->vs[i]?=jS v->∃d,ds[i]?=jS d/\Rep a d v
 |[],vs,_,_,h,e=>by cases(show vs=[]from h);simp at e
 |d::ds,vs,0,v',h,e=>by obtain⟨v,r,e1,h1,h2⟩:=h;subst e1;simp at e;subst e;exact⟨d,rfl,h1⟩
 |d::ds,vs,i+1,v',h,e=>by obtain⟨v,r,e1,h1,h2⟩:=h;subst e1;obtain⟨w,e2,h3⟩:=Reps.get' (i:=i) (v:=v') h2 (by simpa using e);exact⟨w,by simpa using e2,h3⟩
theorem Reps.append:∀{ds es:List D}{vs us:List V},Reps a ds vs->Reps a es us->Reps a (ds++es) (vs++us)
 |[],_,vs,_,h,h'=>by cases(show vs=[]from h);exact h'
 |d::ds,es,vs,us,h,h'=>by obtain⟨v,r,e1,h1,h2⟩:=h;subst e1;exact⟨v,r++us,rfl,h1,Reps.append h2 h'⟩
theorem Reps.cons(h:Rep a d v)(r:Reps a ds vs):Reps a (d::ds) (v::vs):=⟨v,vs,rfl,h,r⟩
theorem Reps.nil:Reps a [] []:=rfl
theorem Reps.ints:∀(ns:List Int),Reps a (ns.map D.int) (ns.map V.int)
 |[]=>rfl
 |n::ns=>⟨.int n,ns.map V.int,rfl,rfl,Reps.ints ns⟩
def RepKV(a:Wd)(kvs:List (Key×D))(us:List (Key×V)):Prop:=kvs.map (·.1)=us.map (·.1)/\Reps a (kvs.map (·.2)) (us.map (·.2))
def RepF(a:Wd)(fs:List (Str×D))(us:List (Str×V)):Prop:=fs.map (·.1)=us.map (·.1)/\Reps a (fs.map (·.2)) (us.map (·.2))
def XD(a:Wd)(od:Option qM)(fs:List (Str×D)):Prop:=(fs=[]/\od=jT)∨∃dx o us,od=jS dx/\a.H dx=jS (.frz o (.xd us))/\RepF a fs us
def ORep(a:Wd):DO->Option HO->Prop
 |.lst ds,o=>∃vs,o=jS (.lst vs)/\Reps a ds vs
 |.dct kvs,o=>∃us,o=jS (.dK us)/\RepKV a kvs us
 |.ins c fs,o=>∃C dx us,PySem.W.nsIn a.K j4 c=jS (jS (.ref C))/\o=jS (.ins C dx us)/\RepF a fs us
 |.tab C m,_=>∃c P,TabAt a.K C m c P/\TabOk a.H P
 |.exc c fs,o=>∃C oe u vs,PySem.W.nsIn a.K j4 c=jS (jS (.ref C))/\o=jS (.frz oe u)/\oe.cls=.ref C/\oe.data=.fields vs/\XD a oe.dict fs
 |.gone,_=>True
structure Sim (a:Wd) (G:DH):Prop where
 len:G.length=a.n
 inj:∀i j,i<a.n->j<a.n->a.m i=a.m j->i=j
 obj:∀(i:Nat)(o:DO),G[i]?=jS o->ORep a o (a.H (a.m i))
 tr:∀i,i<a.n->a.H (a.m i)≠jT
structure RepS (a:Wd) (S:DSt) (σ:St):Prop where
 len:S.length=σ.length
 get:∀(i:Nat)(d:D),S[i]?=jS (jS d)->∃v,σ[i]?=jS (jS v)/\Rep a d v
theorem RepS.mono(x:Ext a b)(r:RepS a S σ):RepS b S σ:=⟨r.len,λi d h=>let⟨v,e,q⟩:=r.get i d h;⟨v,e,q.mono x⟩⟩
theorem RepS.set(r:RepS a S σ)(i:Nat)(h:Rep a d v):RepS a (S.set i (jS d)) (σ.set i (jS v)):=by
 refine⟨by simpa using r.len,λj e he=>?_⟩;rw[zS]at he⊢;by_cases hij:i=j
 ·subst hij;rw[if_pos rfl]at he⊢;by_cases hl:i<S.length
  ·rw[if_pos hl]at he;have e1:d=e:=by simpa using he
   subst e1;rw[if_pos (by rw[<-r.len];exact hl)];exact⟨v,rfl,h⟩
  ·rw[if_neg hl]at he;cases he
 ·rw[if_neg hij]at he⊢;exact r.get j e he
def XOk(E:XK)(a:Wd)(x:Xn)(G:DH):Prop:=E≠E0/\∀(b:Wd)(C:qM)(od:Option qM),Ext a b->Sim b G->PySem.W.nsIn b.K j4 x.cls=jS (jS (.ref C))->XD b od x.fs->E (.ref C) od b.H
def out(E:XK)(a:Wd)(r:R D)(Q:VK):Prop:=match r with
 |.ok d G=>∀(b:Wd)(v:V),Ext a b->Sim b G->Rep b d v->Q v b.H
 |.err x G=>XOk E a x G
 |.bad=>False
def Dl(E:XK)(a:Wd)(r:R Bool)(Q:Bool->Hp->Prop):Prop:=match r with
 |.ok k G=>∀(b:Wd),Ext a b->Sim b G->Q k b.H
 |.err x G=>XOk E a x G
 |.bad=>False
def Dj(E:XK)(a:Wd)(r:R (List D))(Q:List V->Hp->Prop):Prop:=match r with
 |.ok ds G=>∀(b:Wd)(vs:List V),Ext a b->Sim b G->Reps b ds vs->Q vs b.H
 |.err x G=>XOk E a x G
 |.bad=>False
def Bk(E:XK)(a:Wd)(r:SR)(W:Ends):Prop:=match r with
 |.nx S G=>∀(b:Wd)(σ:St),Ext a b->Sim b G->RepS b S σ->W.nx σ b.H
 |.bk S G=>∀(b:Wd)(σ:St),Ext a b->Sim b G->RepS b S σ->W.bk σ b.H
 |.ct S G=>∀(b:Wd)(σ:St),Ext a b->Sim b G->RepS b S σ->W.ct σ b.H
 |.rt d G=>∀(b:Wd)(v:V),Ext a b->Sim b G->Rep b d v->W.rt v b.H
 |.err x G=>XOk E a x G
 |.bad=>False
theorem XOk.mono(x:Ext a b){e:Xn}(h:XOk E a e G):XOk E b e G:=⟨h.1,λc C od y s n q=>h.2 c C od (x.trans y) s n q⟩
theorem out.mono(x:Ext a b)(h:out E a r Q):out E b r Q:=by
 cases r with
 |ok d G=>exact λc v y s q=>h c v (x.trans y) s q
 |err e G=>exact XOk.mono (E:=E) (e:=e) (G:=G) x h
 |bad=>exact h
theorem Dl.mono(x:Ext a b){r:R Bool}{Q:Bool->Hp->Prop}(h:Dl E a r Q):Dl E b r Q:=by
 cases r with
 |ok d G=>exact λc y s=>h c (x.trans y) s
 |err e G=>exact XOk.mono (E:=E) (e:=e) (G:=G) x h
 |bad=>exact h
theorem Dj.mono(x:Ext a b){r:R (List D)}{Q:List V->Hp->Prop}(h:Dj E a r Q):Dj E b r Q:=by
 cases r with
 |ok d G=>exact λc vs y s q=>h c vs (x.trans y) s q
 |err e G=>exact XOk.mono (E:=E) (e:=e) (G:=G) x h
 |bad=>exact h
theorem Bk.mono(x:Ext a b){r:SR}(h:Bk E a r W):Bk E b r W:=by
 cases r with
 |nx d G=>exact λc vs y s q=>h c vs (x.trans y) s q
 |bk d G=>exact λc vs y s q=>h c vs (x.trans y) s q
 |ct d G=>exact λc vs y s q=>h c vs (x.trans y) s q
 |rt d G=>exact λc vs y s q=>h c vs (x.trans y) s q
 |err e G=>exact XOk.mono (E:=E) (e:=e) (G:=G) x h
 |bad=>exact h
def lE(K:PySem.W.Frag)(E:XK)(t:DE):TE:=λσ H Q=>∃(a:Wd)(S:DSt)(G:DH),a.K=K/\a.H=H/\Sim a G/\RepS a S σ/\out E a (t S G) Q
def lB(K:PySem.W.Frag)(E:XK)(t:DB):TT:=λσ H Q=>∃(a:Wd)(S:DSt)(G:DH),a.K=K/\a.H=H/\Sim a G/\RepS a S σ/\Dl E a (t S G) Q
def lA(K:PySem.W.Frag)(E:XK)(t:DA):TA:=λσ H Q=>∃(a:Wd)(S:DSt)(G:DH),a.K=K/\a.H=H/\Sim a G/\RepS a S σ/\Dj E a (t S G) Q
def lS(K:PySem.W.Frag)(E:XK)(t:DS):TS:=λW σ H=>∃(a:Wd)(S:DSt)(G:DH),a.K=K/\a.H=H/\Sim a G/\RepS a S σ/\Bk E a (t S G) W
def lR2(K:PySem.W.Frag)(E:XK)(f:D->D->DH->R D):R2:=λx y H Q=>∃(a:Wd)(G:DH)(d e:D),a.K=K/\a.H=H/\Sim a G/\Rep a d x/\Rep a e y/\out E a (f d e G) Q
def lRn(K:PySem.W.Frag)(E:XK)(f:List D->DH->R D):List V->Hp->VK->Prop:=λxs H Q=>∃(a:Wd)(G:DH)(ds:List D),a.K=K/\a.H=H/\Sim a G/\Reps a ds xs/\out E a (f ds G) Q
def lF(K:PySem.W.Frag)(f:List D->DH->R D):Sp:=λxs H Q _=>∃(a:Wd)(G:DH)(ds:List D),a.K=K/\a.H=H/\Sim a G/\Reps a ds xs/\out E0 a (f ds G) Q
def lFx(K:PySem.W.Frag)(f:List D->DH->R D):Sp:=λxs H Q E=>∃(a:Wd)(G:DH)(ds:List D),a.K=K/\a.H=H/\Sim a G/\Reps a ds xs/\out E a (f ds G) Q
section
variable{X:Cx}{E:XK}
def QE(X:Cx)(E:XK)(e:qO)(t:DE):Prop:=PE X e (lE X.K E t)
def QT(X:Cx)(E:XK)(e:qO)(t:DB):Prop:=PT X e (lB X.K E t)
def QA(X:Cx)(E:XK)(es:List qO)(t:DA):Prop:=PA X es (lA X.K E t)
def QS(X:Cx)(E:XK)(st:jQ)(t:DS):Prop:=PS X st (lS X.K E t)
def QSs(X:Cx)(E:XK)(st:List jQ)(t:DS):Prop:=PSs X st (lS X.K E t)
theorem _root_.L2.PE.mono{t t':TE}(h:PE X e t)(w:∀σ H Q,t' σ H Q->t σ H Q):PE X e t':=λjR s σ H Q I q=>h jR s σ H Q I (w σ H Q q)
theorem _root_.L2.PT.mono{t t':TT}(h:PT X e t)(w:∀σ H Q,t' σ H Q->t σ H Q):PT X e t':=λjR s σ H Q I q=>h jR s σ H Q I (w σ H Q q)
theorem _root_.L2.PA.mono{e:List qO}{t t':TA}(h:PA X e t)(w:∀σ H Q,t' σ H Q->t σ H Q):PA X e t':=λpos jR s σ H Q I q=>h pos jR s σ H Q I (w σ H Q q)
theorem _root_.L2.PS.mono{e:jQ}{t t':TS}(h:PS X e t)(w:∀W σ H,t' W σ H->t W σ H):PS X e t':=λjR s σ H W I q=>h jR s σ H W I (w W σ H q)
theorem _root_.L2.PSs.mono{e:List jQ}{t t':TS}(h:PSs X e t)(w:∀W σ H,t' W σ H->t W σ H):PSs X e t':=λjR s σ H W I q=>h jR s σ H W I (w W σ H q)
theorem _root_.L2.OpR.mono{f:jZ->jZ->Sem jZ}{r r':R2}(h:OpR X f r)(w:∀x y H Q,r' x y H Q->r x y H Q):OpR X f r':=λjR s σ H x y v u Q I rx ry q=>h jR s σ H x y v u Q I rx ry (w _ _ _ _ q)
end
theorem Ea{f:D->DH->R D}(h:out E a (r.bind f) Q):
  out E a r (λv H=>∃(b:Wd)(d:D)(G:DH),b.H=H/\Ext a b/\Sim b G/\Rep b d v/\r=.ok d G/\out E b (f d G) Q):=by
 cases r with
 |ok d G=>exact λb v x s q=>⟨b,d,G,rfl,x,s,q,rfl,out.mono x h⟩
 |err e G=>exact h
 |bad=>exact h
theorem Ot{r:R (List D)}{f:List D->DH->R D}(h:out E a (r.bind f) Q):
  Dj E a r (λvs H=>∃(b:Wd)(ds:List D)(G:DH),b.H=H/\Ext a b/\Sim b G/\Reps b ds vs/\r=.ok ds G/\out E b (f ds G) Q):=by
 cases r with
 |ok d G=>exact λb v x s q=>⟨b,d,G,rfl,x,s,q,rfl,out.mono x h⟩
 |err e G=>exact h
 |bad=>exact h
theorem Yt{r:R Bool}{f:Bool->DH->R D}(h:out E a (r.bind f) Q):
  Dl E a r (λk H=>∃(b:Wd)(G:DH),b.H=H/\Ext a b/\Sim b G/\r=.ok k G/\out E b (f k G) Q):=by
 cases r with
 |ok d G=>exact λb x s=>⟨b,G,rfl,x,s,rfl,out.mono x h⟩
 |err e G=>exact h
 |bad=>exact h
theorem ZDT{f:D->DH->R Bool}{Q:Bool->Hp->Prop}(h:Dl E a (r.bind f) Q):
  out E a r (λv H=>∃(b:Wd)(d:D)(G:DH),b.H=H/\Ext a b/\Sim b G/\Rep b d v/\r=.ok d G/\Dl E b (f d G) Q):=by
 cases r with
 |ok d G=>exact λb v x s q=>⟨b,d,G,rfl,x,s,q,rfl,Dl.mono x h⟩
 |err e G=>exact h
 |bad=>exact h
theorem Tj{r:R Bool}{f:Bool->DH->R Bool}{Q:Bool->Hp->Prop}(h:Dl E a (r.bind f) Q):
  Dl E a r (λk H=>∃(b:Wd)(G:DH),b.H=H/\Ext a b/\Sim b G/\r=.ok k G/\Dl E b (f k G) Q):=by
 cases r with
 |ok d G=>exact λb x s=>⟨b,G,rfl,x,s,rfl,Dl.mono x h⟩
 |err e G=>exact h
 |bad=>exact h
theorem ZFI{f:D->DH->R (List D)}{Q:List V->Hp->Prop}(h:Dj E a (r.bind f) Q):
  out E a r (λv H=>∃(b:Wd)(d:D)(G:DH),b.H=H/\Ext a b/\Sim b G/\Rep b d v/\r=.ok d G/\Dj E b (f d G) Q):=by
 cases r with
 |ok d G=>exact λb v x s q=>⟨b,d,G,rfl,x,s,q,rfl,Dj.mono x h⟩
 |err e G=>exact h
 |bad=>exact h
theorem ZCe{r:R (List D)}{f:List D->DH->R (List D)}{Q:List V->Hp->Prop}(h:Dj E a (r.bind f) Q):
  Dj E a r (λvs H=>∃(b:Wd)(ds:List D)(G:DH),b.H=H/\Ext a b/\Sim b G/\Reps b ds vs/\r=.ok ds G/\Dj E b (f ds G) Q):=by
 cases r with
 |ok d G=>exact λb v x s q=>⟨b,d,G,rfl,x,s,q,rfl,Dj.mono x h⟩
 |err e G=>exact h
 |bad=>exact h
noncomputable def R.toS{α:Type}(r:R α)(f:α->DH->SR):SR:=match r with
 |.ok a G=>f a G
 |.err x G=>.err x G
 |.bad=>.bad
@[simp]theorem R.J7(a:α)(G:DH)(f:α->DH->SR):(R.ok a G).toS f=f a G:=id rfl
@[simp]theorem R.ZFl(f:α->DH->SR):(R.bad:R α).toS f=.bad:=id rfl
theorem Kw{f:D->DH->SR}(h:Bk E a (r.toS f) W):
  out E a r (λv H=>∃(b:Wd)(d:D)(G:DH),b.H=H/\Ext a b/\Sim b G/\Rep b d v/\r=.ok d G/\Bk E b (f d G) W):=by
 cases r with
 |ok d G=>exact λb v x s q=>⟨b,d,G,rfl,x,s,q,rfl,Bk.mono x h⟩
 |err e G=>exact h
 |bad=>exact h
theorem ZB2{r:R Bool}{f:Bool->DH->SR}(h:Bk E a (r.toS f) W):
  Dl E a r (λk H=>∃(b:Wd)(G:DH),b.H=H/\Ext a b/\Sim b G/\r=.ok k G/\Bk E b (f k G) W):=by
 cases r with
 |ok d G=>exact λb x s=>⟨b,G,rfl,x,s,rfl,Bk.mono x h⟩
 |err e G=>exact h
 |bad=>exact h
section
theorem out.imp{Q':VK}(h:out E a r Q)(w:∀v H,Q v H->Q' v H):out E a r Q':=by
 cases r with
 |ok d G=>exact λb v x s q=>w _ _ (h b v x s q)
 |err e G=>exact h
 |bad=>exact h
theorem Dj.imp{r:R (List D)}{Q Q':List V->Hp->Prop}(h:Dj E a r Q)(w:∀v H,Q v H->Q' v H):Dj E a r Q':=by
 cases r with
 |ok d G=>exact λb v x s q=>w _ _ (h b v x s q)
 |err e G=>exact h
 |bad=>exact h
theorem Dl.imp{r:R Bool}{Q Q':Bool->Hp->Prop}(h:Dl E a r Q)(w:∀v H,Q v H->Q' v H):Dl E a r Q':=by
 cases r with
 |ok d G=>exact λb x s=>w _ _ (h b x s)
 |err e G=>exact h
 |bad=>exact h
def Wd.push(a:Wd)(p:qM)(ho:HO):Wd:=⟨a.K,a.n+1,λk=>if k=a.n then p else a.m k,upd a.H p ho⟩
def Wd.put(a:Wd)(p:qM)(ho:HO):Wd:={a with H:=upd a.H p ho}
theorem Ext.put(h:a.H p=jT):Ext a (a.put p ho):=
 ⟨rfl,zW _,λ_ _=>rfl,λq xs e=>by show upd a.H p ho q=_;rw[Aq (Ef e h)];exact e,λq o u e=>by show upd a.H p ho q=_;rw[Aq (Ef e h)];exact e,λ_ t=>t.mono (λq ps e=>by show upd a.H p ho q=_;rw[Aq (Ef e h)];exact e) (λq o u e=>by show upd a.H p ho q=_;rw[Aq (Ef e h)];exact e)⟩
theorem Ext.push(h:a.H p=jT):Ext a (a.push p ho):=
 ⟨rfl,qz _,λi hi=>by show(if i=a.n then p else a.m i)=a.m i;rw[if_neg (zA hi)],λq xs e=>by show upd a.H p ho q=_;rw[Aq (Ef e h)];exact e,λq o u e=>by show upd a.H p ho q=_;rw[Aq (Ef e h)];exact e,λ_ t=>t.mono (λq ps e=>by show upd a.H p ho q=_;rw[Aq (Ef e h)];exact e) (λq o u e=>by show upd a.H p ho q=_;rw[Aq (Ef e h)];exact e)⟩
theorem XD.mono(x:Ext a b){od:Option qM}{fs:List (Str×D)}(h:XD a od fs):XD b od fs:=by
 rcases h with h|⟨dx,o,us,e,f,k,r⟩
 ·exact .inl h
 ·exact .inr ⟨dx,o,us,e,x.frz _ _ _ f,k,r.mono x⟩
theorem ORep.mono(x:Ext a b){q:Option HO}(h:ORep a o q):ORep b o q:=by
 cases o with
 |lst ds=>obtain⟨vs,e,r⟩:=h;exact⟨vs,e,r.mono x⟩
 |dct kvs=>obtain⟨us,e,k,r⟩:=h;exact⟨us,e,k,r.mono x⟩
 |ins c fs=>obtain⟨C,dx,us,n,e,k,r⟩:=h;exact⟨C,dx,us,by rw[x.k];exact n,e,k,r.mono x⟩
 |tab C m=>obtain⟨c,P,e,t⟩:=h;exact⟨c,P,by rw[x.k];exact e,x.tab _ t⟩
 |exc c fs=>obtain⟨C,oe,u,vs,n,e,k1,k2,z⟩:=h;exact⟨C,oe,u,vs,by rw[x.k];exact n,e,k1,k2,z.mono x⟩
 |gone=>trivial
theorem Sim.lt(s:Sim a G)(h:G[i]?=jS o):i<a.n:=by rw[<-s.len];exact(zx.mp h).1
theorem Sim.put(s:Sim a G)(h:a.H p=jT):Sim (a.put p ho) G:=by
 refine⟨s.len,s.inj,λi o e=>?_,λi hi=>?_⟩
 ·have z:a.H (a.m i)≠jT:=s.tr i (s.lt e);have ne:a.m i≠p:=λq=>z (by rw[q];exact h)
  show ORep _ o (upd a.H p ho (a.m i));rw[Aq ne];exact(s.obj i o e).mono (Ext.put h)
 ·have z:a.H (a.m i)≠jT:=s.tr i hi;have ne:a.m i≠p:=λq=>z (by rw[q];exact h)
  show upd a.H p ho (a.m i)≠jT;rw[Aq ne];exact z
theorem Sim.push(s:Sim a G)(h:a.H p=jT)(r:ORep (a.push p ho) o (jS ho)):Sim (a.push p ho) (G++[o]):=by
 have nep:∀i,i<a.n->a.m i≠p:=λi hi q=>s.tr i hi (by rw[q];exact h)
 have old:∀i,i<a.n->(a.push p ho).m i=a.m i:=λi hi=>by show(if i=a.n then p else a.m i)=_;rw[if_neg (zA hi)]
 have new:(a.push p ho).m a.n=p:=by show(if a.n=a.n then p else a.m a.n)=_;rw[if_pos rfl]
 refine⟨by simp[s.len,Wd.push],λi j hi hj e=>?_,λi u e=>?_,λi hi=>?_⟩
 ·have hi':i<a.n+1:=hi;have hj':j<a.n+1:=hj;by_cases h1:i<a.n
  ·by_cases h2:j<a.n
   ·rw[old i h1,old j h2]at e;exact s.inj i j h1 h2 e
   ·have:j=a.n:=by lia
    subst this;rw[old i h1,new]at e;exact absurd e (nep i h1)
  ·have:i=a.n:=by lia
   subst this;by_cases h2:j<a.n
   ·rw[old j h2,new]at e;exact absurd e.symm (nep j h2)
   ·lia
 ·by_cases h1:i<a.n
  ·rw[zD (by rw[s.len];exact h1)]at e;rw[old i h1];show ORep _ u (upd a.H p ho (a.m i));rw[Aq (nep i h1)];exact(s.obj i u e).mono (Ext.push h)
  ·have hl:i<(G++[o]).length:=(zx.mp e).1;have:i=a.n:=by rw[qJ,s.len]at hl;simp at hl;lia
   subst this;rw[zy (by rw[s.len];exact zW _),s.len]at e;simp at e;subst e;rw[new];show ORep _ o (upd a.H p ho p);rw[Eh];exact r
 ·have hi':i<a.n+1:=hi;by_cases h1:i<a.n
  ·rw[old i h1];show upd a.H p ho (a.m i)≠jT;rw[Aq (nep i h1)];exact s.tr i h1
  ·have:i=a.n:=by lia
   subst this;rw[new];show upd a.H p ho p≠jT;rw[Eh];simp
theorem Ext.wr(h:a.H p=jS (.lst vs)):Ext a (a.put p ho):=
 ⟨rfl,zW _,λ_ _=>rfl,λq xs e=>by
  show upd a.H p ho q=_;rw[Aq (λz=>by subst z;rw[h]at e;cases e)];exact e,λq o u e=>by
  show upd a.H p ho q=_;rw[Aq (λz=>by subst z;rw[h]at e;cases e)];exact e,λ_ t=>t.mono (λq ps e=>by show upd a.H p ho q=_;rw[Aq (λz=>by subst z;rw[h]at e;cases e)];exact e) (λq o u e=>by show upd a.H p ho q=_;rw[Aq (λz=>by subst z;rw[h]at e;cases e)];exact e)⟩
theorem Sim.wr(s:Sim a G)(hi:i<a.n){vs':List V}{ds':List D}(h:a.H (a.m i)=jS (.lst vs))(r:Reps (a.put (a.m i) (.lst vs')) ds' vs'):Sim (a.put (a.m i) (.lst vs')) (G.set i (.lst ds')):=by
 refine⟨by rw[qH];exact s.len,s.inj,λj o e=>?_,λj hj=>?_⟩
 ·rw[zS]at e;show ORep _ o (upd a.H (a.m i) (.lst vs') (a.m j));by_cases hij:i=j
  ·subst hij;rw[if_pos rfl,if_pos (by rw[s.len];exact hi)]at e;cases e;rw[Eh];exact⟨vs',rfl,r⟩
  ·rw[if_neg hij]at e;rw[Aq λz=>hij (s.inj _ _ (s.lt e) hi z).symm];exact(s.obj j o e).mono (Ext.wr h)
 ·show upd a.H (a.m i) (.lst vs') (a.m j)≠jT;by_cases hij:a.m j=a.m i
  ·rw[hij,Eh];simp
  ·rw[Aq hij];exact s.tr j hj
mutual
noncomputable def bel(n:Nat):D->Bool
 |.ref i=>decide (i<n)
 |.tup ds=>bels n ds
 |.fl ds=>bels n ds
 |_=>jU
noncomputable def bels(n:Nat):List D->Bool
 |[]=>jU
 |d::ds=>bel n d&&bels n ds
end
def Hu(n:Nat):DO->Bool
 |.lst ds=>bels n ds
 |.dct kvs=>bels n (kvs.map (·.2))
 |.ins _ fs=>bels n (fs.map (·.2))
 |.tab _ _=>jU
 |.exc _ fs=>bels n (fs.map (·.2))
 |.gone=>jU
mutual
theorem Rep.bel:∀{d:D}{v:V},Rep a d v->bel a.n d=jU
 |.non,_,_=>by simp[DL.bel]
 |.bl _,_,_=>by simp[DL.bel]
 |.int _,_,_=>by simp[DL.bel]
 |.str _,_,_=>by simp[DL.bel]
 |.ty _,_,_=>by simp[DL.bel]
 |.tup ds,v,h=>by obtain⟨p,vs,e,q,r⟩:=h;simp only[DL.bel];exact Reps.bels r
 |.fl ds,v,h=>by obtain⟨p,vs,e,q,r⟩:=h;simp only[DL.bel];exact Reps.bels r
 |.ref i,v,h=>by obtain⟨l,e⟩:=h;simp only[DL.bel];exact decide_eq_true l
theorem Reps.bels:∀{ds:List D}{vs:List V},Reps a ds vs->bels a.n ds=jU
 |[],_,_=>by simp[DL.bels]
 |d::ds,vs,h=>by
  obtain⟨v,r,e,h1,h2⟩:=h;simp only[DL.bels];rw[Rep.bel h1,Reps.bels h2]
  rfl
end
structure Cut (b c:Wd):Prop where
 k:c.K=b.K
 h:c.H=b.H
mutual
theorem Rep.cut(x:Cut b c){n:Nat}(hn:n<=c.n)(hm:∀i,i<n->c.m i=b.m i):∀{d:D}{v:V},Rep b d v->bel n d=jU->Rep c d v
 |.non,_,h,_=>h
 |.bl _,_,h,_=>h
 |.int _,_,h,_=>h
 |.str _,_,h,_=>h
 |.ty _,_,h,_=>h
 |.tup ds,v,h,q=>by obtain⟨p,vs,e,t,r⟩:=h;simp only[DL.bel]at q;exact⟨p,vs,e,by rw[x.k,x.h];exact t,Reps.cut x hn hm r q⟩
 |.fl ds,v,h,q=>by obtain⟨p,vs,e,t,r⟩:=h;simp only[DL.bel]at q;exact⟨p,vs,e,by rw[x.k,x.h];exact t,Reps.cut x hn hm r q⟩
 |.ref i,v,h,q=>by obtain⟨l,e⟩:=h;simp only[DL.bel]at q;have q':=of_decide_eq_true q;exact⟨zJ q' hn,by rw[hm i q'];exact e⟩
theorem Reps.cut(x:Cut b c){n:Nat}(hn:n<=c.n)(hm:∀i,i<n->c.m i=b.m i):∀{ds:List D}{vs:List V},Reps b ds vs->bels n ds=jU->Reps c ds vs
 |[],_,h,_=>h
 |d::ds,vs,h,q=>by obtain⟨v,r,e,h1,h2⟩:=h;simp only[DL.bels,zz]at q;exact⟨v,r,e,Rep.cut x hn hm h1 q.1,Reps.cut x hn hm h2 q.2⟩
end
theorem ORep.cut(x:Cut b c){n:Nat}(hn:n<=c.n)(hm:∀i,i<n->c.m i=b.m i){q:Option HO}(h:ORep b o q)(l:Hu n o=jU):ORep c o q:=by
 cases o with
 |lst ds=>obtain⟨vs,e,r⟩:=h;exact⟨vs,e,Reps.cut x hn hm r l⟩
 |dct kvs=>obtain⟨us,e,k,r⟩:=h;exact⟨us,e,k,Reps.cut x hn hm r l⟩
 |ins c fs=>obtain⟨C,dx,us,n,e,k,r⟩:=h;exact⟨C,dx,us,by rw[x.k];exact n,e,k,Reps.cut x hn hm r l⟩
 |tab C m=>obtain⟨c,P,e,t⟩:=h;exact⟨c,P,by rw[x.k];exact e,by rw[x.h];exact t⟩
 |exc c fs=>
  obtain⟨C,oe,u,vs,n,e,k1,k2,z⟩:=h;refine⟨C,oe,u,vs,by rw[x.k];exact n,e,k1,k2,?_⟩;rcases z with z|⟨dx,o,us,e,f,k,r⟩
  ·exact .inl z
  ·exact .inr ⟨dx,o,us,e,by rw[x.h];exact f,k,Reps.cut x hn hm r l⟩
 |gone=>trivial
theorem ORep.Hu{q:Option HO}(h:ORep a o q):Hu a.n o=jU:=by
 cases o with
 |lst ds=>obtain⟨vs,e,r⟩:=h;exact r.bels
 |dct kvs=>obtain⟨us,e,k,r⟩:=h;exact r.bels
 |ins c fs=>obtain⟨C,dx,us,n,e,k,r⟩:=h;exact r.bels
 |tab C m=>rfl
 |exc c fs=>
  obtain⟨C,oe,u,vs,n,e,k1,k2,z⟩:=h;rcases z with⟨z,_⟩|⟨dx,o,us,e,f,k,r⟩
  ·rw[z];rfl
  ·exact r.bels
 |gone=>rfl
open Classical in
def tidy (G:DH) (r:R D):R D:=match r with
 | .ok d G'=>if G'.take G.length=G then
   (if bel G.length d=jU then .ok d G else match d with
    |.ref i=>match G'[i]? with
     |some o=>if Hu G.length o=jU then .ok (.ref G.length) (G++[o])else .ok d G'
     |none=>.ok d G'
    |_=>.ok d G')else .ok d G'
 |r=>r
theorem Nj (s:Sim a G) (h:out E a (tidy G r) Q):out E a r Q:=by
 cases r with
 |err e G'=>exact h
 |bad=>exact h
 | ok d G'=>
  intro b v x sb rb;unfold tidy at h;dsimp only at h;split at h
  ·rename_i hG;have hlen:∀i o,G[i]?=jS o->G'[i]?=jS o:=λi o e=>by have hi:i<G.length:=(zx.mp e).1;rw[<-hG,q0 hi]at e;exact e
   have base:∀(c:Wd),Cut b c->a.n<=c.n->(∀i,i<a.n->c.m i=b.m i)->∀i o,G[i]?=jS o->ORep c o (c.H (c.m i)):=λc cc hn hm i o e=>by have q:=sb.obj i o (hlen i o e);rw[cc.h,hm i (s.lt e)];exact q.cut cc hn hm (s.obj i o e).Hu
   split at h
   ·rename_i hb;rw[s.len]at hb;let c:Wd:=⟨b.K,a.n,b.m,b.H⟩;have cc:Cut b c:=⟨rfl,rfl⟩;refine h c v ⟨x.k,zW _,x.m,x.tup,x.frz,x.tab⟩ ⟨s.len,λi j hi hj=>sb.inj i j (zJ hi x.n) (zJ hj x.n),base c cc (zW _) (λ_ _=>rfl),λi hi=>sb.tr i (zJ hi x.n)⟩ ?_;exact rb.cut cc (zW _) (λ_ _=>rfl) hb
   ·rename_i hb;split at h
    ·rename_i i;obtain⟨il,iv⟩:=rb;split at h
     ·rename_i o ho;split at h
      ·rename_i hbo;rw[s.len]at hbo hb h;simp only[DL.bel,decide_eq_true_eq]at hb;let c:Wd:=⟨b.K,a.n+1,λk=>if k=a.n then b.m i else b.m k,b.H⟩;have cc:Cut b c:=⟨rfl,rfl⟩;have cm:∀j,j<a.n->c.m j=b.m j:=λj hj=>by show(if j=a.n then b.m i else b.m j)=_;rw[if_neg (zA hj)]
       have cn:c.m a.n=b.m i:=by show(if a.n=a.n then b.m i else b.m a.n)=_;rw[if_pos rfl]
       have lt':∀j,j<a.n->j<b.n:=λj hj=>zJ hj x.n
       refine h c v ⟨x.k,qz _,λj hj=>(cm j hj).trans (x.m j hj),x.tup,x.frz,x.tab⟩ ⟨by simp[s.len,c],λj k hj hk e=>?_,λj u e=>?_,λj hj=>?_⟩ ⟨zN _,by rw[cn];exact iv⟩
       ·have hj':j<a.n+1:=hj;have hk':k<a.n+1:=hk;by_cases h1:j<a.n
        ·by_cases h2:k<a.n
         ·rw[cm j h1,cm k h2]at e;exact sb.inj j k (lt' j h1) (lt' k h2) e
         ·have:k=a.n:=by lia
          subst this;rw[cm j h1,cn]at e;have:=sb.inj j i (lt' j h1) il e;lia
        ·have:j=a.n:=by lia
         subst this;by_cases h2:k<a.n
         ·rw[cm k h2,cn]at e;have:=sb.inj i k il (lt' k h2) e;lia
         ·lia
       ·by_cases h1:j<a.n
        ·rw[zD (by rw[s.len];exact h1)]at e;exact base c cc (qz _) cm j u e
        ·have hl:j<(G++[o]).length:=(zx.mp e).1;have:j=a.n:=by rw[qJ,s.len]at hl;simp at hl;lia
         subst this;rw[zy (by rw[s.len];exact zW _),s.len]at e;simp at e;subst e;rw[cn];exact(sb.obj i o ho).cut cc (qz _) cm hbo
       ·have hj':j<a.n+1:=hj;by_cases h1:j<a.n
        ·rw[cm j h1];exact sb.tr j (lt' j h1)
        ·have:j=a.n:=by lia
         subst this;rw[cn];exact sb.tr i il
      ·exact h b v x sb ⟨il,iv⟩
     ·exact h b v x sb ⟨il,iv⟩
    ·exact h b v x sb rb
  ·exact h b v x sb rb
end
noncomputable def dV(i:Nat):DE:=λS G=>match S[i]? with
 |some (jS d)=>.ok d G
 |_=>.bad
noncomputable def dC(d:D):DE:=λ_ G=>.ok d G
def dOp(f:D->D->DH->R D)(a b:DE):DE:=λS G=>(a S G).bind λx G1=>(b S G1).bind λy G2=>f x y G2
def dUn(f:D->DH->R D)(a:DE):DE:=λS G=>(a S G).bind f
noncomputable def Ag:DA:=λ_ G=>.ok [] G
def Ac(a:DE)(r:DA):DA:=λS G=>(a S G).bind λx G1=>(r S G1).bind λxs G2=>.ok (x::xs) G2
def dFn(f:List D->DH->R D)(t:DA):DE:=λS G=>(t S G).bind f
def Jt(t:DE):DE:=λS G=>tidy G (t S G)
def asB:D->DH->R Bool
 |.bl k,G=>.ok k G
 |_,_=>.bad
def Bb(t:DE):DB:=λS G=>(t S G).bind asB
def Ih(t u:DB):DB:=λS G=>(t S G).bind λk G1=>if k=jU then u S G1 else .ok xQ G1
def dOr(t u:DB):DB:=λS G=>(t S G).bind λk G1=>if k=jU then .ok jU G1 else u S G1
def Ku(t:DB):DB:=λS G=>(t S G).bind λk G1=>.ok (!k) G1
def Ey(t u:DE):DE:=λS G=>(t S G).bind λx G1=>(asB x G1).bind λk G2=>if k=jU then u S G2 else .ok (.bl xQ) G2
def Tq(t u:DE):DE:=λS G=>(t S G).bind λx G1=>(asB x G1).bind λk G2=>if k=jU then .ok (.bl jU) G2 else u S G2
def Ma(t:DE):DE:=λS G=>(t S G).bind λx G1=>(asB x G1).bind λk G2=>.ok (.bl (!k)) G2
def dIf(c:DB)(t u:DE):DE:=λS G=>(c S G).bind λk G1=>if k=jU then t S G1 else u S G1
def Kr(f g:D->D->DH->R D)(a b c:DE):DE:=λS G=>(a S G).bind λx G1=>(b S G1).bind λy G2=>(f x y G2).bind λz G3=>(asB z G3).bind λk G4=>
 if k=jU then(c S G4).bind λw G5=>g y w G5 else .ok (.bl xQ) G4
noncomputable def Bg(ds:List D)(G:DH):R D:=if ds.length<=1000000 then .ok (.tup ds) G else .bad
noncomputable def Ay(ds:List D)(G:DH):R D:=if ds.length<=1000000 then .ok (.ref G.length) (G++[.lst ds])else .bad
noncomputable def Ce(d:D)(G:DH):Option (List D):=match d with
 |.tup xs=>jS xs
 |.fl xs=>jS xs
 |.ref i=>match G[i]? with
  |some (.lst xs)=>jS xs
  |_=>jT
 |_=>jT
theorem size6:(1000000:Nat)<=sizeLine:=by decide
section
variable{X:Cx}{E:XK}{a b c:qO}{ta tb tc:DE}{pos:Pos}
theorem two{K:PySem.W.Frag}{f:D->D->DH->R D}(h:lE K E (dOp f ta tb) σ H Q):tOp (lR2 K E f) (lE K E ta) (lE K E tb) σ H Q:=by obtain⟨a,S,G,hk,rfl,s,r,h⟩:=h;refine⟨a,S,G,hk,rfl,s,r,(Ea h).imp ?_⟩;rintro v _ ⟨b,d,G1,rfl,x,s1,q,_,h1⟩;refine⟨b,S,G1,x.k.trans hk,rfl,s1,r.mono x,(Ea h1).imp ?_⟩;rintro w _ ⟨c,e,G2,rfl,y,s2,q2,_,h2⟩;exact⟨c,G2,d,e,y.k.trans (x.k.trans hk),rfl,s2,q.mono y,q2,h2⟩
theorem Aa(i:Nat){pos:Pos}(hN:X.N[i]?=jS x:=by rfl)(hv:Vis X.env.scope x:=by first|exact Or.inl rfl|exact Or.inr (Or.inl rfl)|exact Or.inr (Or.inr rfl))(hd:(x==("__debug__":Str))=xQ:=by decide)
  (hcd:(x==("__classdict__":Str))=xQ:=by decide):QE X E (.Name x pos) (dV i):=by
 refine(K9 hN hv hd hcd).mono λσ H Q h=>?_
 obtain⟨a,S,G,hk,rfl,s,r,h⟩:=h;unfold dV at h;split at h
 ·rename_i d e;obtain⟨v,e',q⟩:=r.get i d e;exact⟨v,e',h a v (Ext.refl a) s q⟩
 ·exact h.elim
theorem Jd{K:PySem.W.Frag}(h:lE K E (dC d) σ H Q)(r:∀a:Wd,a.K=K->Rep a d v):Q v H:=by obtain⟨a,S,G,hk,rfl,s,_,h⟩:=h;exact h a v (Ext.refl a) s (r a hk)
theorem Ab{i:Int}:QE X E (.Constant (.int i) j pos) (dC (.int i)):=ZEg.mono λσ H Q h=>Jd h λ_ _=>rfl
theorem Ky{i:Bool}:QE X E (.Constant (.bool i) j pos) (dC (.bl i)):=ZEu.mono λσ H Q h=>Jd h λ_ _=>rfl
theorem Ln:QE X E (.Constant .none j pos) (dC .non):=ZCR.mono λσ H Q h=>Jd h λ_ _=>rfl
theorem Fe{i:Str}:QE X E (.Constant (.str i) j pos) (dC (.str i)):=Tt.mono λσ H Q h=>Jd h λ_ _=>rfl
theorem M8{u:jZ}(hg:Gl X x)(hm:X.mg x=jS u)(r:RelV v u)(rd:∀a:Wd,a.K=X.K->Rep a d v)(hd:(x==("__debug__":Str))=xQ:=by decide):QE X E (.Name x pos) (dC d):=
 (S8 hg hm r hd).mono λσ H Q h=>Jd h rd
theorem Ae{op:Operator}{f:D->D->DH->R D}(ho:OpR X (jY op) (lR2 X.K E f))(ha:QE X E a ta)(hb:QE X E b tb):QE X E (.BinOp a op b pos) (dOp f ta tb):=
 (ZCW ho ha hb).mono λ_ _ _ h=>two h
theorem Jl{f:D->D->DH->R D}(ho:OpR X (jx op) (lR2 X.K E f))(ha:QE X E a ta)(hb:QE X E b tb)(hm:jK op b=xQ):QE X E (.Compare a [op] [b] pos) (dOp f ta tb):=
 (ZEf ho ha hb hm).mono λ_ _ _ h=>two h
theorem U6{K:PySem.W.Frag}{Q:Bool->Hp->Prop}(h:lB K E (Bb t) σ H Q):Kf (lE K E t) σ H Q:=by
 obtain⟨a,S,G,hk,rfl,s,r,h⟩:=h;refine⟨a,S,G,hk,rfl,s,r,(ZDT h).imp ?_⟩;rintro v _ ⟨b,d,G1,rfl,x,s1,q,_,h1⟩;cases d with
 |bl k=>exact⟨k,q,h1 b (Ext.refl b) s1⟩
 |_=>exact h1.elim
theorem W0{t t':TE}(w:∀σ H Q,t' σ H Q->t σ H Q)(σ:St)(H:Hp)(Q:Bool->Hp->Prop)(h:Kf t' σ H Q):Kf t σ H Q:=w _ _ _ h
theorem Bt{f:D->D->DH->R D}(ho:OpR X (jx op) (lR2 X.K E f))(ha:QE X E a ta)(hb:QE X E b tb)(hm:jK op b=xQ):QT X E (.Compare a [op] [b] pos) (Bb (dOp f ta tb)):=
 (ZBV ho ha hb hm).mono λσ H Q h=>W0 (λ_ _ _ z=>two z) σ H Q (U6 h)
theorem chain{K:PySem.W.Frag}{f g:D->D->DH->R D}(h:lE K E (Kr f g ta tb tc) σ H Q):Zh (lR2 K E f) (lR2 K E g) (lE K E ta) (lE K E tb) (lE K E tc) σ H Q:=by
 obtain⟨a,S,G,hk,rfl,s,r,h⟩:=h;refine⟨a,S,G,hk,rfl,s,r,(Ea h).imp ?_⟩;rintro v _ ⟨b,d,G1,rfl,x,s1,q,_,h1⟩;refine⟨b,S,G1,x.k.trans hk,rfl,s1,r.mono x,(Ea h1).imp ?_⟩;rintro w _ ⟨c,e,G2,rfl,y,s2,q2,_,h2⟩;refine⟨c,G2,d,e,y.k.trans (x.k.trans hk),rfl,s2,q.mono y,q2,(Ea h2).imp ?_⟩;rintro z _ ⟨c3,e3,G3,rfl,y3,s3,q3,_,h3⟩;cases e3 with
 | bl k=>
  refine⟨k,q3,?_⟩;cases k with
  |false=>exact h3 c3 (.bl xQ) (Ext.refl _) s3 rfl
  |true=>
   refine⟨c3,S,G3,(y3.k.trans (y.k.trans (x.k.trans hk))),rfl,s3,((r.mono x).mono y).mono y3,(Ea h3).imp ?_⟩;rintro z4 _ ⟨c4,e4,G4,rfl,y4,s4,q4,_,h4⟩;exact⟨c4,G4,e,e4,y4.k.trans (y3.k.trans (y.k.trans (x.k.trans hk))),rfl,s4,(q2.mono y3).mono y4,q4,h4⟩
 |_=>exact h3.elim
theorem Zt{op':CmpOp}{f g:D->D->DH->R D}(ho:OpR X (jx op) (lR2 X.K E f))(ho':OpR X (jx op') (lR2 X.K E g))(ha:QE X E a ta)(hb:QE X E b tb)(hc:QE X E c tc)
  (hm:lastMarks [op,op'] [b,c]=xQ:=by with_unfolding_all rfl):QT X E (.Compare a [op,op'] [b,c] pos) (Bb (Kr f g ta tb tc)):=
 (ZEt ho ho' ha hb hc hm).mono λσ H Q h=>W0 (λ_ _ _ z=>chain z) σ H Q (U6 h)
theorem Hj(ha:QE X E a ta)(he:∀whole,isTrue a X.env whole=(do let v<-whole;standAt a.pos;holding [v] (truthy v)):=by intro _;rfl):QT X E a (Bb ta):=
 (ZFC ha he).mono λσ H Q h=>U6 h
theorem Ox(ha:QE X E a ta):QE X E a (Jt ta):=L2.PE.mono ha λσ H Q h=>by obtain⟨w,S,G,hk,rfl,s,r,h⟩:=h;exact⟨w,S,G,hk,rfl,s,r,Nj s h⟩
def QW(X:Cx)(E:XK)(e:qO)(t:DB):Prop:=PW X e (lB X.K E t)
theorem _root_.L2.PW.mono{t t':TT}(h:PW X e t)(w:∀σ H Q,t' σ H Q->t σ H Q):PW X e t':=λwh jR s σ H Q I q=>h wh jR s σ H Q I (w σ H Q q)
variable{u t:DB}{rest:List qO}
theorem ZEY{K:PySem.W.Frag}{Q:Bool->Hp->Prop}(h:lB K E (Ih t u) σ H Q):tAnd (lB K E t) (lB K E u) σ H Q:=by
 obtain⟨a,S,G,hk,rfl,s,r,h⟩:=h;refine⟨a,S,G,hk,rfl,s,r,(Tj h).imp ?_⟩;rintro k _ ⟨b,G1,rfl,x,s1,_,h1⟩;cases k with
 |true=>exact⟨b,S,G1,x.k.trans hk,rfl,s1,r.mono x,h1⟩
 |false=>exact h1 b (Ext.refl b) s1
theorem ZBO{K:PySem.W.Frag}{Q:Bool->Hp->Prop}(h:lB K E (dOr t u) σ H Q):tOr (lB K E t) (lB K E u) σ H Q:=by
 obtain⟨a,S,G,hk,rfl,s,r,h⟩:=h;refine⟨a,S,G,hk,rfl,s,r,(Tj h).imp ?_⟩;rintro k _ ⟨b,G1,rfl,x,s1,_,h1⟩;cases k with
 |true=>exact h1 b (Ext.refl b) s1
 |false=>exact⟨b,S,G1,x.k.trans hk,rfl,s1,r.mono x,h1⟩
theorem Oj(ha:QT X E a t):QW X E (.BoolOp .And [a] pos) t:=pw_and1 ha
theorem Ry(ha:QT X E a t):QW X E (.BoolOp .Or [a] pos) t:=pw_or1 ha
theorem My(ha:QT X E a t)(hb:QW X E (.BoolOp .And (b::rest) pos) u):QW X E (.BoolOp .And (a::b::rest) pos) (Ih t u):=(pw_and ha hb).mono λ_ _ _ h=>ZEY h
theorem Ni(ha:QT X E a t)(hb:QW X E (.BoolOp .Or (b::rest) pos) u):QW X E (.BoolOp .Or (a::b::rest) pos) (dOr t u):=(pw_or ha hb).mono λ_ _ _ h=>ZBO h
theorem Hx(h:QW X E a t):QT X E a t:=L2.PW.pt h
theorem Qc(ha:QT X E a t):QT X E (.UnaryOp .Not a pos) (Ku t):=(ZAS ha).mono λσ H Q h=>by obtain⟨a,S,G,hk,rfl,s,r,h⟩:=h;refine⟨a,S,G,hk,rfl,s,r,(Tj h).imp ?_⟩;rintro k _ ⟨b,G1,rfl,x,s1,_,h1⟩;exact h1 b (Ext.refl b) s1
theorem K8{op}(h:QE X E a ta):QE X E (.BoolOp op [a] pos) ta:=ZDk h
theorem Ie(ha:QE X E a ta)(hb:QE X E (.BoolOp .And (b::rest) pos) tb):QE X E (.BoolOp .And (a::b::rest) pos) (Ey ta tb):=(ZB1 ha hb).mono λσ H Q h=>by
 obtain⟨a,S,G,hk,rfl,s,r,h⟩:=h;refine⟨a,S,G,hk,rfl,s,r,(Ea h).imp ?_⟩;rintro v _ ⟨b,d,G1,rfl,x,s1,q,_,h1⟩;cases d with
 |bl k=>
  refine⟨k,q,?_⟩;cases k with
  |true=>exact⟨b,S,G1,x.k.trans hk,rfl,s1,r.mono x,h1⟩
  |false=>exact h1 b _ (Ext.refl b) s1 rfl
 |_=>exact h1.elim
theorem ZFL(ha:QE X E a ta)(hb:QE X E (.BoolOp .Or (b::rest) pos) tb):QE X E (.BoolOp .Or (a::b::rest) pos) (Tq ta tb):=(ZDm ha hb).mono λσ H Q h=>by
 obtain⟨a,S,G,hk,rfl,s,r,h⟩:=h;refine⟨a,S,G,hk,rfl,s,r,(Ea h).imp ?_⟩;rintro v _ ⟨b,d,G1,rfl,x,s1,q,_,h1⟩;cases d with
 |bl k=>
  refine⟨k,q,?_⟩;cases k with
  |false=>exact⟨b,S,G1,x.k.trans hk,rfl,s1,r.mono x,h1⟩
  |true=>exact h1 b _ (Ext.refl b) s1 rfl
 |_=>exact h1.elim
theorem Z7(ha:QE X E a ta):QE X E (.UnaryOp .Not a pos) (Ma ta):=(ZCT ha).mono λσ H Q h=>by
 obtain⟨a,S,G,hk,rfl,s,r,h⟩:=h;refine⟨a,S,G,hk,rfl,s,r,(Ea h).imp ?_⟩;rintro v _ ⟨b,d,G1,rfl,x,s1,q,_,h1⟩;cases d with
 |bl k=>exact⟨k,q,h1 b _ (Ext.refl b) s1 rfl⟩
 |_=>exact h1.elim
theorem ZAE(hc:QT X E c t)(ha:QE X E a ta)(hb:QE X E b tb):QE X E (.IfExp c a b pos) (dIf t ta tb):=(ZEL hc ha hb).mono λσ H Q h=>by
 obtain⟨a,S,G,hk,rfl,s,r,h⟩:=h;refine⟨a,S,G,hk,rfl,s,r,(Yt h).imp ?_⟩;rintro k _ ⟨b,G1,rfl,x,s1,_,h1⟩;cases k with
 |true=>exact⟨b,S,G1,x.k.trans hk,rfl,s1,r.mono x,h1⟩
 |false=>exact⟨b,S,G1,x.k.trans hk,rfl,s1,r.mono x,h1⟩
variable{es:List qO}{tr:DA}
theorem Ah:QA X E [] Ag:=Lf.mono λσ H Q h=>by obtain⟨a,S,G,hk,rfl,s,r,h⟩:=h;exact h a [] (Ext.refl a) s rfl
noncomputable def notStar:qO->Bool
 |.Starred _ _=>xQ
 |_=>jU
theorem Du(a:qO)(es:List qO)(env:Env)(h:notStar a=jU):j8 (a::es) env=(xQ,eval a env)::j8 es env:=by
 cases a<;>first
  |exact absurd h zV
  |rfl
theorem H8(pos:Pos)(env:Env):∀es:List qO,es.all notStar=jU->(jW pos (j8 es env)).any (·.1)=xQ
 |[],_=>rfl
 |a::es,h=>by
  rw[List.all_cons,zz]at h;rw[Du a es env h.1];have ih:=H8 pos env es h.2;unfold jW at ih⊢;rw[zI,List.any_cons,ih]
  rfl
theorem Ad(ha:QE X E a ta)(hr:QA X E es tr)(hs:notStar a=jU:=by rfl):QA X E (a::es) (Ac ta tr):=(Gw ha hr (Du a es X.env hs)).mono λσ H Q h=>by obtain⟨a,S,G,hk,rfl,s,r,h⟩:=h;refine⟨a,S,G,hk,rfl,s,r,(ZFI h).imp ?_⟩;rintro v _ ⟨b,d,G1,rfl,x,s1,q,_,h1⟩;refine⟨b,S,G1,x.k.trans hk,rfl,s1,r.mono x,(ZCe h1).imp ?_⟩;rintro vs _ ⟨c,ds,G2,rfl,y,s2,q2,_,h2⟩;exact h2 c _ (Ext.refl c) s2 (Reps.cons (q.mono y) q2)
theorem Dq{x1}(h:QA X E es tr):QE X E (.Tuple es x1 pos) (dFn Bg tr):=(V1 h).mono λσ H Q h=>by
 obtain⟨a,S,G,hk,rfl,s,r,h⟩:=h;refine⟨a,S,G,hk,rfl,s,r,(Ot h).imp ?_⟩;rintro vs _ ⟨b,ds,G1,rfl,x,s1,q,_,h1⟩;unfold Bg at h1;split at h1
 ·rename_i hl;refine⟨by rw[<-q.length];exact z0 hl size6,λp hp=>?_⟩;exact h1 (b.put p (.tup vs)) (.ref p) (Ext.put hp) (s1.put hp) ⟨p,vs,rfl,.of Eh,q.mono (Ext.put hp)⟩
 ·exact h1.elim
theorem Hh(h:QA X E es tr):QE X E (.List es pos) (dFn Ay tr):=(ZEh h).mono λσ H Q h=>by
 obtain⟨a,S,G,hk,rfl,s,r,h⟩:=h;refine⟨a,S,G,hk,rfl,s,r,(Ot h).imp ?_⟩;rintro vs _ ⟨b,ds,G1,rfl,x,s1,q,_,h1⟩;unfold Ay at h1;split at h1
 ·rename_i hl;refine⟨by rw[<-q.length];exact z0 hl size6,λp hp=>?_⟩;refine h1 (b.push p (.lst vs)) (.ref p) (Ext.push hp) (s1.push hp ⟨vs,rfl,q.mono (Ext.push hp)⟩) ⟨?_,?_⟩
  ·rw[s1.len];exact zN _
  ·rw[s1.len];show V.ref p=.ref (if b.n=b.n then p else b.m b.n);rw[if_pos rfl]
 ·exact h1.elim
variable{e:qO}{x:Str}{p:Pos}
theorem Kh{K:PySem.W.Frag}{f:List D->DH->R D}(h:lE K E (dFn f tr) σ H Q):lA K E tr σ H (λvs H1=>lRn K E f vs H1 Q):=by obtain⟨a,S,G,hk,rfl,s,r,h⟩:=h;refine⟨a,S,G,hk,rfl,s,r,(Ot h).imp ?_⟩;rintro vs _ ⟨b,ds,G1,rfl,x,s1,q,_,h1⟩;exact⟨b,G1,ds,x.k.trans hk,rfl,s1,q,h1⟩
theorem Cq{id:String}{f:List D->DH->R D}(hc:CallR X (.builtin id) (lRn X.K E f))(hg:Gl X x)(hm:X.mg x=jT)(hv:jq x=jS (.builtin id))(ha:QA X E (e::es) tr)(hn:x≠"__name__":=by decide)(hdb:(x==("__debug__":Str))=xQ:=by decide)
  (he:notStar e=jU:=by rfl) (hpl:es.all notStar=jU:=by rfl):QE X E (.Call (.Name x p) (e::es) [] pos) (dFn f tr):=
 (Sy hc hg hm hv ha hn hdb (Du e es X.env he) (H8 pos X.env es hpl)).mono λσ H Q h=>Kh h
theorem Hz{id:String}{f:List D->DH->R D}(hc:CallR X (.type id) (lRn X.K E f))(hg:Gl X x)(hm:X.mg x=jT)(hv:jq x=jS (.type id))(ha:QA X E (e::es) tr)(hn:x≠"__name__":=by decide)(hdb:(x==("__debug__":Str))=xQ:=by decide)
  (he:notStar e=jU:=by rfl) (hpl:es.all notStar=jU:=by rfl):QE X E (.Call (.Name x p) (e::es) [] pos) (dFn f tr):=
 (ZBY hc hg hm hv ha hn hdb (Du e es X.env he) (H8 pos X.env es hpl)).mono λσ H Q h=>Kh h
theorem ZBp{CX:CXT}{f:qM}{fd:qP}{ps:List Str}{F:List D->DH->R D}(FF:FnOk X.prog X.w X.K X.mg X.base CX k f fd ps (lF X.K F))(hr:Room k X.A)(hg:Gl X x)(hm:X.mg x=jS (.ref f))(hk:PySem.W.keepIn X.K (.ref f)=jU)(hb:Binds X.K fd ps [])
  (hx:Passes CX X E0) (ha:QA X E0 (e::es) tr) (hdb:(x==("__debug__":Str))=xQ:=by decide) (he:notStar e=jU:=by rfl) (hpl:es.all notStar=jU:=by rfl):
  QE X E0 (.Call (.Name x p) (e::es) [] pos) (dFn F tr):=
 (Ym FF hr hg hm hk hb .nil hx ha hdb (Du e es X.env he) (H8 pos X.env es hpl)).mono λσ H Q h=>by obtain⟨a,S,G,hk,rfl,s,r,h⟩:=Kh h;refine⟨a,S,G,hk,rfl,s,r,h.imp ?_⟩;rintro vs _ ⟨b,G1,ds,hk,rfl,s1,q,h1⟩;exact⟨b,G1,ds,hk,rfl,s1,by rw[zF];exact q,h1⟩
theorem Bd{f:D->D->DH->R D}(hr:IxR X (lR2 X.K E f))(ha:QE X E a ta)(hb:QE X E b tb)(hs:PlainIx b:=by intro _ _;rfl):QE X E (.Subscript a b pos) (dOp f ta tb):=
 (ZDa hr ha hb hs).mono λ_ _ _ h=>two h
end
noncomputable instance (i j:Int):Decidable (CMul i j):=by unfold CMul;infer_instance
noncomputable instance (i j:Int):Decidable (CPow i j):=by unfold CPow;infer_instance
def CDivL(j:Int):Prop:=0<j/\j.natAbs.log2<9000
noncomputable instance (j:Int):Decidable (CDivL j):=by unfold CDivL;infer_instance
def Ff:D->D->DH->R D
 |.int i,.int j,G=>.ok (.int (i-j)) G
 |_,_,_=>.bad
def Bj:D->D->DH->R D
 |.int i,.int j,G=>if CDivL j then .ok (.int (i/j)) G else .bad
 |_,_,_=>.bad
def Av:D->D->DH->R D
 |.int i,.int j,G=>if 0<j then .ok (.int (i%j)) G else .bad
 |_,_,_=>.bad
def Fw:D->D->DH->R D
 |.int i,.int j,G=>if CPow i j then .ok (.int (i^j.toNat)) G else .bad
 |_,_,_=>.bad
def Fj:D->D->DH->R D
 |.int i,.int j,G=>.ok (.bl (decide (i<j))) G
 |.str i,.str j,G=>.ok (.bl (decide (i.cps.toList<j.cps.toList))) G
 |_,_,_=>.bad
def Lr:D->D->DH->R D
 |.int i,.int j,G=>.ok (.bl (decide (i<=j))) G
 |.str i,.str j,G=>.ok (.bl (!decide (j.cps.toList<i.cps.toList))) G
 |_,_,_=>.bad
def Fv:D->D->DH->R D
 |.int i,.int j,G=>.ok (.bl (decide (j<i))) G
 |.str i,.str j,G=>.ok (.bl (decide (j.cps.toList<i.cps.toList))) G
 |_,_,_=>.bad
def T8:D->D->DH->R D
 |.int i,.int j,G=>.ok (.bl (decide (j<=i))) G
 |.str i,.str j,G=>.ok (.bl (!decide (i.cps.toList<j.cps.toList))) G
 |_,_,_=>.bad
noncomputable def Jr(d:D)(G:DH):Option (List D):=match d with
 |.fl xs=>jS xs
 |.ref i=>match G[i]? with
  |some (.lst xs)=>jS xs
  |_=>jT
 |_=>jT
def Al:D->D->DH->R D
 |.int i,.int j,G=>.ok (.int (i+j)) G
 |.str i,.str j,G=>if i.length+j.length<=1000000 then .ok (.str (i++j)) G else .bad
 |.tup xs,.tup ys,G=>if xs≠[]/\xs.length+ys.length<=1000000 then .ok (.tup (xs++ys)) G else .bad
 |d,e,G=>match Jr d G,Jr e G with
  |some xs,jS ys=>if xs.length+ys.length<=1000000 then .ok (.ref G.length) (G++[.lst (xs++ys)])else .bad
  |_,_=>.bad
section
variable{X:Cx}{E:XK}
theorem El{f:jZ->jZ->Sem jZ}{r:R2}{F:D->D->DH->R D}(ho:OpR X f r)
  (h:∀(a:Wd)(G:DH)(d e:D)(x y:V)(Q:VK),a.K=X.K->Sim a G->Rep a d x->Rep a e y->out E a (F d e G) Q->r x y a.H Q):OpR X f (lR2 X.K E F):=
 ho.mono λx y H Q ⟨a,G,d,e,hk,hH,s,rd,re,q⟩=>by subst hH;exact h a G d e x y Q hk s rd re q
theorem Gb:OpR X (jY .Sub) (lR2 X.K E Ff):=El ZCo λa G d e x y Q hk s rd re q=>by
 cases d<;>cases e<;>first
  |exact q.elim
  |exact⟨_,_,rd,re,q a _ (Ext.refl a) s rfl⟩
theorem ZCh:OpR X (jY .FloorDiv) (rI (λ_ j=>CDivL j) λi j=>.int (i/j)):=opI λi j _ _ _ _ _ hc q=>by have e:i.fdiv j=i/j:=Int.fdiv_eq_ediv_of_nonneg _ (Int.le_of_lt hc.1);refine floordiv_int (by have:=hc.1;lia) (by rw[e];exact q) (.inl (PyProof.noPylong_of_log2 hc.2))
theorem Bo:OpR X (jY .FloorDiv) (lR2 X.K E Bj):=El ZCh λa G d e x y Q hk s rd re q=>by
 cases d<;>cases e<;>first
  |exact q.elim
  | (
    rename_i i j;unfold Bj at q;dsimp only at q;split at q
    ·exact⟨_,_,rd,re,by assumption,q a _ (Ext.refl a) s rfl⟩
    ·exact q.elim)
theorem Ax:OpR X (jY .Mod) (lR2 X.K E Av):=El ZFA λa G d e x y Q hk s rd re q=>by
 cases d<;>cases e<;>first
  |exact q.elim
  | (
    rename_i i j;unfold Av at q;dsimp only at q;split at q
    ·exact⟨_,_,rd,re,by assumption,q a _ (Ext.refl a) s rfl⟩
    ·exact q.elim)
theorem Jf:OpR X (jY .Pow) (lR2 X.K E Fw):=El ZBX λa G d e x y Q hk s rd re q=>by
 cases d<;>cases e<;>first
  |exact q.elim
  | (
    rename_i i j;unfold Fw at q;dsimp only at q;split at q
    ·exact⟨_,_,rd,re,by assumption,q a _ (Ext.refl a) s rfl⟩
    ·exact q.elim)
theorem H9:OpR X (jx .Lt) (lR2 X.K E Fj):=El (ZC1.or ZBU) λa G d e x y Q hk s rd re q=>by
 cases d<;>cases e<;>first
  |exact q.elim
  |exact .inl ⟨_,_,rd,re,q a _ (Ext.refl a) s rfl⟩
  |exact .inr ⟨_,_,rd,re,q a _ (Ext.refl a) s rfl⟩
theorem ZCU:OpR X (jx .LtE) (λx y H Q=>∃i j,x=.str i/\y=.str j/\Q (.bl (!decide (j.cps.toList<i.cps.toList))) H):=by intro jR s σ H x y v u Q I rx ry h;obtain⟨i,j,rfl,rfl,q⟩:=h;obtain⟨t,rfl⟩:=rx;obtain⟨t',rfl⟩:=ry;exact PySem.P.le_str ⟨.bl _,H,I,rfl,q⟩
theorem ZCz:OpR X (jx .Gt) (λx y H Q=>∃i j,x=.str i/\y=.str j/\Q (.bl (decide (j.cps.toList<i.cps.toList))) H):=by intro jR s σ H x y v u Q I rx ry h;obtain⟨i,j,rfl,rfl,q⟩:=h;obtain⟨t,rfl⟩:=rx;obtain⟨t',rfl⟩:=ry;exact PySem.P.gt_str ⟨.bl _,H,I,rfl,q⟩
theorem ZDD:OpR X (jx .GtE) (λx y H Q=>∃i j,x=.str i/\y=.str j/\Q (.bl (!decide (i.cps.toList<j.cps.toList))) H):=by intro jR s σ H x y v u Q I rx ry h;obtain⟨i,j,rfl,rfl,q⟩:=h;obtain⟨t,rfl⟩:=rx;obtain⟨t',rfl⟩:=ry;exact PySem.P.ge_str ⟨.bl _,H,I,rfl,q⟩
theorem U9:OpR X (jx .LtE) (lR2 X.K E Lr):=El (ZBB.or ZCU) λa G d e x y Q hk s rd re q=>by
 cases d<;>cases e<;>first
  |exact q.elim
  |exact .inl ⟨_,_,rd,re,q a _ (Ext.refl a) s rfl⟩
  |exact .inr ⟨_,_,rd,re,q a _ (Ext.refl a) s rfl⟩
theorem K3:OpR X (jx .Gt) (lR2 X.K E Fv):=El (ZBR.or ZCz) λa G d e x y Q hk s rd re q=>by
 cases d<;>cases e<;>first
  |exact q.elim
  |exact .inl ⟨_,_,rd,re,q a _ (Ext.refl a) s rfl⟩
  |exact .inr ⟨_,_,rd,re,q a _ (Ext.refl a) s rfl⟩
theorem o_ge:OpR X (jx .GtE) (lR2 X.K E T8):=El (ZBc.or ZDD) λa G d e x y Q hk s rd re q=>by
 cases d<;>cases e<;>first
  |exact q.elim
  |exact .inl ⟨_,_,rd,re,q a _ (Ext.refl a) s rfl⟩
  |exact .inr ⟨_,_,rd,re,q a _ (Ext.refl a) s rfl⟩
theorem Sim.lst(s:Sim a G)(h:G[i]?=jS (.lst xs)):∃vs,a.H (a.m i)=jS (.lst vs)/\Reps a xs vs:=s.obj i _ h
theorem Za(s:Sim a G)(r:Reps a ds vs)(h:out E a (.ok (.ref G.length) (G++[.lst ds])) Q)(p:qM)(hp:a.H p=jT):Q (.ref p) (upd a.H p (.lst vs)):=by
 refine h (a.push p (.lst vs)) (.ref p) (Ext.push hp) (s.push hp ⟨vs,rfl,r.mono (Ext.push hp)⟩) ⟨?_,?_⟩
 ·rw[s.len];exact zN _
 ·rw[s.len];show V.ref p=.ref (if a.n=a.n then p else a.m a.n);rw[if_pos rfl]
theorem Xx(s:Sim a G)(r:Reps a ds vs)(h:out E a (.ok (.tup ds) G) Q)(p:qM)(hp:a.H p=jT):Q (.ref p) (upd a.H p (.tup vs)):=
 h (a.put p (.tup vs)) (.ref p) (Ext.put hp) (s.put hp) ⟨p,vs,rfl,.of Eh,r.mono (Ext.put hp)⟩
theorem Zj{x:V}(s:Sim a G)(r:Rep a d x)(h:Jr d G=jS xs):∃p vs,x=.ref p/\SqL a.K a.H p vs/\Reps a xs vs:=by
 cases d with
 |fl ys=>
  have e:ys=xs:=Option.some.inj h;subst e;obtain⟨p,vs,e,q,rr⟩:=r;exact⟨p,vs,e,q.sq,rr⟩
 |ref i=>
  unfold Jr at h;dsimp only at h;split at h
  ·rename_i ys hi;have e:ys=xs:=Option.some.inj h;subst e;obtain⟨vs,e1,r1⟩:=s.lst hi;exact⟨a.m i,vs,r.2,.of e1,r1⟩
  ·cases h
 |_=>cases h
def Z9(K:PySem.W.Frag):R2:=λx y H Q=>∃l b xs zs,x=.ref l/\y=.ref b/\SqL K H l xs/\SqL K H b zs/\xs.length+zs.length<=sizeLine/\∀p,H p=jT->Q (.ref p) (upd H p (.lst (xs++zs)))
theorem ZDv:OpR X (jY .Add) (Z9 X.K):=by
 intro jR s σ H x y v u Q I rx ry h;obtain⟨l,b,xs,zs,rfl,rfl,hH,hB,hz,q⟩:=h;cases rx;cases ry;obtain⟨its,r,p1,_⟩:=I.list hH;obtain⟨its2,r2,p2,_⟩:=I.list hB;obtain⟨⟨cls,dd,data,sl⟩,n,ho,hc,_,hd⟩:=p1;obtain⟨⟨cls2,dd2,data2,sl2⟩,n2,ho2,hc2,_,hd2⟩:=p2;cases hc;cases hd;cases hc2;cases hd2;have hl:=r.length;have hl2:=r2.length;refine concat_meets ⟨_,ho,rfl⟩ ⟨_,ho2,rfl⟩ noFill_list_add seq_list_add PySem.F.slot_list_add PySem.F.entry_list_add (PySem.F.args_list_add_2 _ _) (list_addW l b its.toArray its2.toArray n n2 dd dd2 sl sl2 (by rw[zq,zq];lia)) ⟨ho,ho2,?_⟩
 have ea:its.toArray++its2.toArray=(its++its2).toArray:=by simp
 rw[ea];exact⟨.ref _,_,I.lnew (t':=s.toks) (r.append r2) (by rw[qJ];lia),rfl,q _ I.fresh⟩
theorem Ar:OpR X (jY .Add) (lR2 X.K E Al):=El (ZDe.or (ZDZ.or (ZDv.or ZCY))) λa G d e x y Q hk s rd re q=>by
 have lst:out E a (match Jr d G,Jr e G with
  |some xs,jS ys=>if xs.length+ys.length<=1000000 then .ok (.ref G.length) (G++[.lst (xs++ys)])else .bad
  |_,_=>.bad) Q->Z9 X.K x y a.H Q:=λq=>by
  split at q
  ·rename_i xs ys h1 h2;split at q
   ·rename_i hl;obtain⟨p,vs,e1,q1,r1⟩:=Zj s rd h1;obtain⟨p',vs',e2,q2,r2⟩:=Zj s re h2;rw[hk]at q1 q2;exact⟨p,p',vs,vs',e1,e2,q1,q2,by rw[<-r1.length,<-r2.length];exact z0 hl size6,λp hp=>Za s (r1.append r2) q p hp⟩
   ·exact q.elim
  ·exact q.elim
 have L:=λq=>Or.inr (a:=rI0 (λi j=>V.int (i+j)) x y a.H Q) (Or.inr (a:=∃i j,x=.str i/\y=.str j/\i.length+j.length<=sizeLine/\Q (.str (i++j)) a.H) (Or.inl (b:=Zg X.K x y a.H Q) (lst q)))
 cases d<;>cases e<;>first
  |exact .inl ⟨_,_,rd,re,q a _ (Ext.refl a) s rfl⟩
  |exact L q
  |skip
 ·rename_i i j;unfold Al at q;dsimp only at q;split at q
  ·rename_i hl;exact .inr (.inl ⟨_,_,rd,re,z0 hl size6,q a _ (Ext.refl a) s rfl⟩)
  ·exact q.elim
 ·rename_i xs ys;unfold Al at q;dsimp only at q;split at q
  ·rename_i hl;obtain⟨p,vs,e1,h1,r1⟩:=rd;obtain⟨p',vs',e2,h2,r2⟩:=re;rw[hk]at h1 h2;refine .inr (.inr (.inr ⟨p,p',vs,vs',e1,e2,h1,h2,λz=>hl.1 (zT (by rw[r1.length,z];rfl)),by rw[<-r1.length,<-r2.length];exact z0 hl.2 size6,λz=>?_,λ_ p0 hp=>?_⟩))
   ·refine q a (.ref p) (Ext.refl a) s ⟨p,vs,rfl,by rw[hk];exact h1,?_⟩;have e3:ys=[]:=zT (by rw[r2.length,z];rfl);rw[e3,zF];exact r1
   ·exact Xx s (r1.append r2) q p0 hp
  ·exact q.elim
inductive VD where
 |flat (v:V)
 |lst (xs:List D)
 |tup (xs:List D)
 |bad
def view(G:DH):D->VD
 |.non=>.flat .non
 |.bl b=>.flat (.bl b)
 |.int i=>.flat (.int i)
 |.str x=>.flat (.str x)
 |.ty _=>.bad
 |.tup xs=>.tup xs
 |.fl xs=>.lst xs
 |.ref i=>match G[i]? with
  |some (.lst xs)=>.lst xs
  |_=>.bad
noncomputable def eqZ(f:D->D->Option Bool):List D->List D->Option Bool
 |x::xs,y::ys=>match f x y,eqZ f xs ys with
  |some a,jS b=>jS (a&&b)
  |_,_=>jT
 |_,_=>jS jU
def eqD:Nat->DH->D->D->Option Bool
 |0=>λ_ _ _=>jT
 | n+1=>λG d e=>match view G d,view G e with
  |.flat a,.flat b=>jS (eqV a b)
  |.lst xs,.lst ys=>if xs.length=ys.length then eqZ (eqD n G) xs ys else jS xQ
  |.tup xs,.tup ys=>match eqZ (eqD n G) xs ys with
   |some b=>jS (b&&xs.length==ys.length)
   |none=>jT
  |.bad,_=>jT
  |_,.bad=>jT
  |_,_=>jS xQ
theorem N5{f:D->D->Option Bool}:∀{xs ys:List D}{k:Bool},eqZ f xs ys=jS k->∃e:Nat->Bool,(∀(j:Nat)(x y:D),xs[j]?=jS x->ys[j]?=jS y->f x y=jS (e j))/\k=(zG (min xs.length ys.length)).all e
 | [],ys,k,h=>⟨λ_=>jU,λj x y e1 _=>by simp at e1,by
   have h':jS jU=jS k:=by cases ys<;>exact h
   cases h';simp⟩
 |x::xs,[],k,h=>⟨λ_=>jU,λj x y _ e1=>by simp at e1,by have h':jS jU=jS k:=h;cases h';simp⟩
 | x::xs,y::ys,k,h=>by
  unfold eqZ at h;split at h
  ·rename_i a b h1 h2;obtain⟨e,he,hk⟩:=N5 h2;have h':(a&&b)=k:=Option.some.inj h
   refine⟨λj=>match j with |0=>a|j+1=>e j,λj x' y' e1 e2=>?_,?_⟩
   ·cases j with
    |zero=>simp at e1 e2;subst e1;subst e2;exact h1
    |succ j=>exact he j x' y' (by simpa using e1) (by simpa using e2)
   ·rw[<-h',hk];have:min (x::xs).length (y::ys).length=min xs.length ys.length+1:=by simp only[List.length_cons];lia
    rw[this,List.range_succ_eq_map,List.all_cons,List.all_map]
    rfl
  ·cases h
theorem Mh(s:Sim a G){x:V}(r:Rep a d x):match view G d with
  |.flat v=>x=v/\Gf v=jU
  |.lst xs=>∃p vs,x=.ref p/\SqL a.K a.H p vs/\Reps a xs vs
  |.tup xs=>∃p vs,x=.ref p/\SqT a.K a.H p vs/\Reps a xs vs
  |.bad=>True:=by
 cases d with
 |non=>exact⟨r,rfl⟩
 |bl b=>exact⟨r,rfl⟩
 |int b=>exact⟨r,rfl⟩
 |str b=>exact⟨r,rfl⟩
 |ty n=>trivial
 |tup xs=>
  obtain⟨p,vs,e,h,q⟩:=r;exact⟨p,vs,e,h,q⟩
 |fl xs=>
  obtain⟨p,vs,e,h,q⟩:=r;exact⟨p,vs,e,h.sq,q⟩
 | ref i=>
  unfold view;dsimp only;split
  ·rename_i v hv
   split at hv<;>cases hv
  ·rename_i xs hv;split at hv
   ·rename_i ys hi;cases hv;obtain⟨vs,e1,r1⟩:=s.lst hi;exact⟨a.m i,vs,r.2,.of e1,r1⟩
   ·cases hv
  ·rename_i xs hv
   split at hv<;>cases hv
  ·trivial
theorem ZAW{A:qN}{s:qU}{y x:V}{u v:jZ}(ry:RelV y u)(rx:RelV x v)(fy:Gf y=jU)(fx:Gf x=jU):SeqAt.RcAt A s u v (eqV y x):=by
 cases y with
 |non=>
  cases ry;cases x with
  |non=>cases rx;exact SeqAt.RcAt.none_none
  |bl b=>cases rx;exact SeqAt.RcAt.none_bool b
  |int b=>obtain⟨t,rfl⟩:=rx;exact SeqAt.RcAt.none_int b t
  |str b=>obtain⟨t,rfl⟩:=rx;exact SeqAt.RcAt.none_str b t
  |_=>exact absurd (show xQ=jU from fx) zV
 |bl a=>
  cases ry;cases x with
  |non=>cases rx;exact SeqAt.RcAt.bool_none a
  |bl b=>cases rx;exact SeqAt.RcAt.bool_bool a b
  |int b=>obtain⟨t,rfl⟩:=rx;exact SeqAt.RcAt.bool_int a b t
  |str b=>obtain⟨t,rfl⟩:=rx;exact SeqAt.RcAt.bool_str a b t
  |_=>exact absurd (show xQ=jU from fx) zV
 |int a=>
  obtain⟨t',rfl⟩:=ry;cases x with
  |non=>cases rx;exact SeqAt.RcAt.int_none a t'
  |bl b=>cases rx;exact SeqAt.RcAt.int_bool a t' b
  |int b=>obtain⟨t,rfl⟩:=rx;exact SeqAt.RcAt.int_int a t' b t
  |str b=>obtain⟨t,rfl⟩:=rx;exact SeqAt.RcAt.int_str a t' b t
  |_=>exact absurd (show xQ=jU from fx) zV
 |str a=>
  obtain⟨t',rfl⟩:=ry;cases x with
  |non=>cases rx;exact SeqAt.RcAt.str_none a t'
  |bl b=>cases rx;exact SeqAt.RcAt.str_bool a t' b
  |int b=>obtain⟨t,rfl⟩:=rx;exact SeqAt.RcAt.str_int a t' b t
  |str b=>obtain⟨t,rfl⟩:=rx;exact SeqAt.RcAt.str_str a t' b t
  |_=>exact absurd (show xQ=jU from fx) zV
 |_=>exact absurd (show xQ=jU from fy) zV
theorem ZEq{A:qN}{s:qU}{y x:V}{u v:jZ}(ry:RelV y u)(rx:RelV x v)(fy:Gf y=jU)(fx:Gf x=jU):SeqAt.RcNeAt A s u v (!eqV y x):=by
 cases y with
 |non=>
  cases ry;cases x with
  |non=>cases rx;exact SeqAt.RcNeAt.none_none
  |bl b=>cases rx;exact SeqAt.RcNeAt.none_bool b
  |int b=>obtain⟨t,rfl⟩:=rx;exact SeqAt.RcNeAt.none_int b t
  |str b=>obtain⟨t,rfl⟩:=rx;exact SeqAt.RcNeAt.none_str b t
  |_=>exact absurd (show xQ=jU from fx) zV
 |bl a=>
  cases ry;cases x with
  |non=>cases rx;exact SeqAt.RcNeAt.bool_none a
  |bl b=>cases rx;exact SeqAt.RcNeAt.bool_bool a b
  |int b=>obtain⟨t,rfl⟩:=rx;exact SeqAt.RcNeAt.bool_int a b t
  |str b=>obtain⟨t,rfl⟩:=rx;exact SeqAt.RcNeAt.bool_str a b t
  |_=>exact absurd (show xQ=jU from fx) zV
 |int a=>
  obtain⟨t',rfl⟩:=ry;cases x with
  |non=>cases rx;exact SeqAt.RcNeAt.int_none a t'
  |bl b=>cases rx;exact SeqAt.RcNeAt.int_bool a t' b
  |int b=>obtain⟨t,rfl⟩:=rx;exact SeqAt.RcNeAt.int_int a t' b t
  |str b=>obtain⟨t,rfl⟩:=rx;exact SeqAt.RcNeAt.int_str a t' b t
  |_=>exact absurd (show xQ=jU from fx) zV
 |str a=>
  obtain⟨t',rfl⟩:=ry;cases x with
  |non=>cases rx;exact SeqAt.RcNeAt.str_none a t'
  |bl b=>cases rx;exact SeqAt.RcNeAt.str_bool a t' b
  |int b=>obtain⟨t,rfl⟩:=rx;exact SeqAt.RcNeAt.str_int a t' b t
  |str b=>obtain⟨t,rfl⟩:=rx;exact SeqAt.RcNeAt.str_str a t' b t
  |_=>exact absurd (show xQ=jU from fx) zV
 |_=>exact absurd (show xQ=jU from fy) zV
end
section
variable{X:Cx}{E:XK}{jR:List (qM×Obj)}{σ:St}{s:qU}
theorem ZEO(v:V)(h:Gf v=jU):eqV v v=jU:=by cases v<;>first|rfl|exact absurd (show xQ=jU from h) zV|(simp[eqV])
theorem Xy(I:Inv X jR σ a.H s)(hk:a.K=X.K)(sm:Sim a G):∀(n:Nat){d e:D}{x:V}{k:Bool},Rep a d x->Rep a e x->eqD n G d e=jS k->k=jU
 |0,_,_,_,_,_,_,h=>by cases h
 | n+1,d,e,x,k,rd,re,h=>by
  have vd:=Mh sm rd;have ve:=Mh sm re;have items:∀{xs ys:List D}{vs:List V}{b:Bool},Reps a xs vs->Reps a ys vs->eqZ (eqD n G) xs ys=jS b->b=jU:=λ{xs ys vs b}r1 r2 hz=>by obtain⟨f,hf,hb⟩:=N5 hz;rw[hb,qA];intro j hj;have hj':j<min xs.length ys.length:=qI.mp hj;have h1:xs[j]?=jS (xs[j]'(by lia)):=zK (by lia);have h2:ys[j]?=jS (ys[j]'(by lia)):=zK (by lia);obtain⟨v1,e1,q1⟩:=r1.get h1;obtain⟨v2,e2,q2⟩:=r2.get h2;rw[e1]at e2;cases e2;exact Xy I hk sm n q1 q2 (hf j _ _ h1 h2)
  unfold eqD at h
  try dsimp only at h
  revert h vd ve
  cases view G d<;>cases view G e<;>intro vd ve h<;>dsimp only at h vd ve<;>first
   |cases h
   |skip
  ·
   rename_i v w;obtain⟨rfl,f1⟩:=vd;obtain⟨rfl,f2⟩:=ve;exact ZEO _ f1
  ·obtain⟨rfl,f1⟩:=vd;obtain⟨p,vs,e1,_⟩:=ve;subst e1;cases f1
  ·obtain⟨rfl,f1⟩:=vd;obtain⟨p,vs,e1,_⟩:=ve;subst e1;cases f1
  ·obtain⟨rfl,f1⟩:=ve;obtain⟨p,vs,e1,_⟩:=vd;subst e1;cases f1
  ·obtain⟨p,vs,e1,h1,r1⟩:=vd;obtain⟨p',vs',e2,h2,r2⟩:=ve;rw[e1]at e2;cases e2;rw[hk]at h1 h2;cases I.Rb h1 h2;split at h
   ·exact items r1 r2 h
   ·rename_i hl;exact absurd (r1.length.trans r2.length.symm) hl
  ·obtain⟨p,vs,e1,h1,r1⟩:=vd;obtain⟨p',vs',e2,h2,r2⟩:=ve;rw[e1]at e2;cases e2;rw[hk]at h1 h2;obtain⟨_,_,pl,_⟩:=I.list h1;obtain⟨_,_,pt,_⟩:=I.tuple h2;exact absurd rfl (SeqAt.ne_of_list_tuple pl.isList pt)
  ·obtain⟨rfl,f1⟩:=ve;obtain⟨p,vs,e1,_⟩:=vd;subst e1;cases f1
  ·obtain⟨p,vs,e1,h1,r1⟩:=vd;obtain⟨p',vs',e2,h2,r2⟩:=ve;rw[e1]at e2;cases e2;rw[hk]at h1 h2;obtain⟨_,_,pl,_⟩:=I.list h2;obtain⟨_,_,pt,_⟩:=I.tuple h1;exact absurd rfl (SeqAt.ne_of_list_tuple pl.isList pt)
  ·obtain⟨p,vs,e1,h1,r1⟩:=vd;obtain⟨p',vs',e2,h2,r2⟩:=ve;rw[e1]at e2;cases e2;rw[hk]at h1 h2;cases I.Q3 h1 h2;split at h
   ·rename_i b hz;have h':(b&&_)=k:=Option.some.inj h;rw[<-h',items r1 r2 hz,r1.length,r2.length];simp
   ·cases h
theorem Nm{its:List jZ}(r:Reps a xs vs)(q:Vals vs its)(h:j<its.toArray.size):∃d v,xs[j]?=jS d/\Rep a d v/\RelV v its.toArray[j]:=by
 have hl:j<its.length:=by simpa using h
 have h2:j<vs.length:=by rw[q.length];exact hl
 obtain⟨v,e1⟩:∃v,vs[j]?=jS v:=⟨vs[j],zK h2⟩;obtain⟨d,e2,rd⟩:=r.get' e1;obtain⟨u,e3,ru⟩:=q.get e1;have e4:u=its.toArray[j]:=by have:its[j]?=jS its[j]:=zK hl;rw[this]at e3;simpa using(Option.some.inj e3).symm
 exact⟨d,v,e2,rd,by rw[<-e4];exact ru⟩
theorem M5(I:Inv X jR σ a.H s)(hk:a.K=X.K)(sm:Sim a G):∀(n:Nat){A:qN}{d e:D}{x y:V}{u w:jZ}{k:Bool},A.units+n<cLine->Rep a d x->Rep a e y->RelV x u->RelV y w->eqD n G d e=jS k->
  SeqAt.EqAt A s u w k/\SeqAt.RcAt A s u w k/\SeqAt.RcNeAt A s u w (!k)
 |0,_,_,_,_,_,_,_,_,_,_,_,_,_,h=>by cases h
 | n + 1,A,d,e,x,y,u,w,k,hu,rd,re,ru,rw',h=>by
  have vd:=Mh sm rd;have ve:=Mh sm re;have hu1:A.units<cLine:=by lia
  have hu2:A.in1.units+n<cLine:=by show A.units+1+n<cLine;lia
  have same:∀{z:V},Rep a d z->Rep a e z->eqD (n+1) G d e=jS k->k=jU:=λr1 r2 r3=>Xy I hk sm (n+1) r1 r2 r3
  have h0:=h;unfold eqD at h
  try dsimp only at h
  have refs:∀{p q:qM}{k:Bool},(p=q->k=jU)->SeqAt.RcAt A s (.ref p) (.ref q) k->SeqAt.EqAt A s (.ref p) (.ref q) k:=λ{p q k}hs hr=>by
   by_cases e:p=q
   ·rw[hs e,e];exact SeqAt.EqAt.same _
   ·exact SeqAt.EqAt.of_refs e hr
  revert h vd ve
  cases hvd:view G d<;>cases hve:view G e<;>intro vd ve h<;>dsimp only at h vd ve<;>first
   |cases h
   |skip
  ·
   obtain⟨rfl,f1⟩:=vd;obtain⟨rfl,f2⟩:=ve;exact⟨ZAN ru rw' f1 f2,ZAW ru rw' f1 f2,ZEq ru rw' f1 f2⟩
  ·
   obtain⟨rfl,f1⟩:=vd;obtain⟨q,vs,rfl,h2,r2⟩:=ve;cases rw';rw[hk]at h2;obtain⟨its,qv,pl,_⟩:=I.list h2;cases x with
   |non=>cases ru;exact⟨SeqAt.EqAt.none_list pl.isList hu1,SeqAt.RcAt.none_list pl.isList hu1,SeqAt.RcNeAt.none_list pl.isList hu1⟩
   |bl b=>cases ru;exact⟨SeqAt.EqAt.bool_list b pl.isList hu1,SeqAt.RcAt.bool_list b pl.isList hu1,SeqAt.RcNeAt.bool_list b pl.isList hu1⟩
   |int b=>obtain⟨t,rfl⟩:=ru;exact⟨SeqAt.EqAt.int_list b t pl.isList hu1,SeqAt.RcAt.int_list b t pl.isList hu1,SeqAt.RcNeAt.int_list b t pl.isList hu1⟩
   |str b=>obtain⟨t,rfl⟩:=ru;exact⟨SeqAt.EqAt.str_list b t pl.isList hu1,SeqAt.RcAt.str_list b t pl.isList hu1,SeqAt.RcNeAt.str_list b t pl.isList hu1⟩
   |_=>exact absurd (show xQ=jU from f1) zV
  ·
   obtain⟨rfl,f1⟩:=vd;obtain⟨q,vs,rfl,h2,r2⟩:=ve;cases rw';rw[hk]at h2;obtain⟨its,qv,pl,_⟩:=I.tuple h2;cases x with
   |non=>cases ru;exact⟨SeqAt.EqAt.none_tuple pl hu1,SeqAt.RcAt.none_tuple pl hu1,SeqAt.RcNeAt.none_tuple pl hu1⟩
   |bl b=>cases ru;exact⟨SeqAt.EqAt.bool_tuple b pl hu1,SeqAt.RcAt.bool_tuple b pl hu1,SeqAt.RcNeAt.bool_tuple b pl hu1⟩
   |int b=>obtain⟨t,rfl⟩:=ru;exact⟨SeqAt.EqAt.int_tuple b t pl hu1,SeqAt.RcAt.int_tuple b t pl hu1,SeqAt.RcNeAt.int_tuple b t pl hu1⟩
   |str b=>obtain⟨t,rfl⟩:=ru;exact⟨SeqAt.EqAt.str_tuple b t pl hu1,SeqAt.RcAt.str_tuple b t pl hu1,SeqAt.RcNeAt.str_tuple b t pl hu1⟩
   |_=>exact absurd (show xQ=jU from f1) zV
  ·
   obtain⟨rfl,f1⟩:=ve;obtain⟨q,vs,rfl,h2,r2⟩:=vd;cases ru;rw[hk]at h2;obtain⟨its,qv,pl,_⟩:=I.list h2;cases y with
   |non=>cases rw';exact⟨SeqAt.EqAt.list_none pl.isList hu1,SeqAt.RcAt.list_none pl.isList hu1,SeqAt.RcNeAt.list_none pl.isList hu1⟩
   |bl b=>cases rw';exact⟨SeqAt.EqAt.list_bool b pl.isList hu1,SeqAt.RcAt.list_bool b pl.isList hu1,SeqAt.RcNeAt.list_bool b pl.isList hu1⟩
   |int b=>obtain⟨t,rfl⟩:=rw';exact⟨SeqAt.EqAt.list_int b t pl.isList hu1,SeqAt.RcAt.list_int b t pl.isList hu1,SeqAt.RcNeAt.list_int b t pl.isList hu1⟩
   |str b=>obtain⟨t,rfl⟩:=rw';exact⟨SeqAt.EqAt.list_str b t pl.isList hu1,SeqAt.RcAt.list_str b t pl.isList hu1,SeqAt.RcNeAt.list_str b t pl.isList hu1⟩
   |_=>exact absurd (show xQ=jU from f1) zV
  ·
   obtain⟨p,vs,rfl,h1,r1⟩:=vd;obtain⟨q,vs',rfl,h2,r2⟩:=ve;cases ru;cases rw';rw[hk]at h1 h2;obtain⟨its,q1,p1,_⟩:=I.list h1;obtain⟨its',q2,p2,_⟩:=I.list h2;have sz1:its.toArray.size=vs.length:=by rw[zq];exact q1.length.symm
   have sz2:its'.toArray.size=vs'.length:=by rw[zq];exact q2.length.symm
   split at h
   ·rename_i hl;obtain⟨f,hf,hb⟩:=N5 h;have hsz:its.toArray.size=its'.toArray.size:=by rw[sz1,sz2,<-r1.length,<-r2.length];exact hl
    have he:∀j(g1:j<its.toArray.size)(g2:j<its'.toArray.size),SeqAt.EqAt A.in1 s its.toArray[j] its'.toArray[j] (f j):=λj g1 g2=>by obtain⟨d1,v1,e1,rd1,rv1⟩:=Nm r1 q1 g1;obtain⟨d2,v2,e2,rd2,rv2⟩:=Nm r2 q2 g2;exact(M5 I hk sm n hu2 rd1 rd2 rv1 rv2 (hf j d1 d2 e1 e2)).1
    have hk':k=(zG its.toArray.size).all f:=by
     rw[hb]
     congr 2
     rw[sz1,<-r1.length,hl];lia
    have rc:SeqAt.RcAt A s (.ref p) (.ref q) k:=by rw[hk'];exact SeqAt.RcAt.lists p1.isList p2.isList hsz hu1 he
    refine⟨refs (λe=>?_) rc,rc,by rw[hk'];exact SeqAt.RcNeAt.lists p1.isList p2.isList hsz hu1 he⟩;subst e;exact same rd re h0
   ·rename_i hl;have h':xQ=k:=Option.some.inj h;subst h';have hsz:(its.toArray.size != its'.toArray.size)=jU:=by rw[bne_iff_ne,sz1,sz2,<-r1.length,<-r2.length];exact hl
    refine⟨refs (λe=>?_) (SeqAt.RcAt.lists_lengths p1.isList p2.isList hsz hu1),SeqAt.RcAt.lists_lengths p1.isList p2.isList hsz hu1,SeqAt.RcNeAt.lists_lengths p1.isList p2.isList hsz hu1⟩;subst e;exact same rd re h0
  ·
   obtain⟨p,vs,rfl,h1,r1⟩:=vd;obtain⟨q,vs',rfl,h2,r2⟩:=ve;cases ru;cases rw';rw[hk]at h1 h2;obtain⟨its,q1,p1,_⟩:=I.list h1;obtain⟨its',q2,p2,_⟩:=I.tuple h2;exact⟨SeqAt.EqAt.list_tuple p1.isList p2 hu1,SeqAt.RcAt.list_tuple p1.isList p2 hu1,SeqAt.RcNeAt.list_tuple p1.isList p2 hu1⟩
  ·
   obtain⟨rfl,f1⟩:=ve;obtain⟨q,vs,rfl,h2,r2⟩:=vd;cases ru;rw[hk]at h2;obtain⟨its,qv,pl,_⟩:=I.tuple h2;cases y with
   |non=>cases rw';exact⟨SeqAt.EqAt.tuple_none pl hu1,SeqAt.RcAt.tuple_none pl hu1,SeqAt.RcNeAt.tuple_none pl hu1⟩
   |bl b=>cases rw';exact⟨SeqAt.EqAt.tuple_bool b pl hu1,SeqAt.RcAt.tuple_bool b pl hu1,SeqAt.RcNeAt.tuple_bool b pl hu1⟩
   |int b=>obtain⟨t,rfl⟩:=rw';exact⟨SeqAt.EqAt.tuple_int b t pl hu1,SeqAt.RcAt.tuple_int b t pl hu1,SeqAt.RcNeAt.tuple_int b t pl hu1⟩
   |str b=>obtain⟨t,rfl⟩:=rw';exact⟨SeqAt.EqAt.tuple_str b t pl hu1,SeqAt.RcAt.tuple_str b t pl hu1,SeqAt.RcNeAt.tuple_str b t pl hu1⟩
   |_=>exact absurd (show xQ=jU from f1) zV
  ·
   obtain⟨p,vs,rfl,h1,r1⟩:=vd;obtain⟨q,vs',rfl,h2,r2⟩:=ve;cases ru;cases rw';rw[hk]at h1 h2;obtain⟨its,q1,p1,_⟩:=I.tuple h1;obtain⟨its',q2,p2,_⟩:=I.list h2;exact⟨SeqAt.EqAt.tuple_list p1 p2.isList hu1,SeqAt.RcAt.tuple_list p1 p2.isList hu1,SeqAt.RcNeAt.tuple_list p1 p2.isList hu1⟩
  ·
   rename_i xs ys;obtain⟨p,vs,rfl,h1,r1⟩:=vd;obtain⟨q,vs',rfl,h2,r2⟩:=ve;cases ru;cases rw';rw[hk]at h1 h2;obtain⟨its,q1,p1,_⟩:=I.tuple h1;obtain⟨its',q2,p2,_⟩:=I.tuple h2;have sz1:its.toArray.size=xs.length:=by rw[zq,r1.length];exact q1.length.symm
   have sz2:its'.toArray.size=ys.length:=by rw[zq,r2.length];exact q2.length.symm
   split at h
   ·rename_i b hz;have h':(b&&xs.length==ys.length)=k:=Option.some.inj h;obtain⟨f,hf,hb⟩:=N5 hz;have he:∀j(g1:j<its.toArray.size)(g2:j<its'.toArray.size),SeqAt.EqAt A.in1 s its.toArray[j] its'.toArray[j] (f j):=λj g1 g2=>by obtain⟨d1,v1,e1,rd1,rv1⟩:=Nm r1 q1 g1;obtain⟨d2,v2,e2,rd2,rv2⟩:=Nm r2 q2 g2;exact(M5 I hk sm n hu2 rd1 rd2 rv1 rv2 (hf j d1 d2 e1 e2)).1
    have hk':k=((zG (min its.toArray.size its'.toArray.size)).all f&&its.toArray.size==its'.toArray.size):=by rw[<-h',hb,sz1,sz2]
    have rc:SeqAt.RcAt A s (.ref p) (.ref q) k:=by rw[hk'];exact SeqAt.RcAt.tuples p1 p2 hu1 he
    refine⟨refs (λe=>?_) rc,rc,by rw[hk'];exact SeqAt.RcNeAt.tuples p1 p2 hu1 he⟩;subst e;exact same rd re h0
   ·cases h
def Cg(d e:D)(G:DH):R D:=match eqD 30 G d e with
 |some k=>.ok (.bl k) G
 |none=>.bad
def Hg(d e:D)(G:DH):R D:=match eqD 30 G d e with
 |some k=>.ok (.bl (!k)) G
 |none=>.bad
theorem Dp(hu:X.A.units+64<cLine):OpR X (jx .Eq) (lR2 X.K E Cg):=by
 intro jR s σ H x y v u Q I rx ry ⟨a,G,d,e,hk,hH,sm,rd,re,q⟩;subst hH;unfold Cg at q;split at q
 ·rename_i k hd;exact(M5 I hk sm 30 (by lia) rd re rx ry hd).2.1 _ _ _ _ ⟨.bl k,a.H,I,rfl,q a _ (Ext.refl a) sm rfl⟩
 ·exact q.elim
theorem o_ne(hu:X.A.units+64<cLine):OpR X (jx .NotEq) (lR2 X.K E Hg):=by
 intro jR s σ H x y v u Q I rx ry ⟨a,G,d,e,hk,hH,sm,rd,re,q⟩;subst hH;unfold Hg at q;split at q
 ·rename_i k hd;exact(M5 I hk sm 30 (by lia) rd re rx ry hd).2.2 _ _ _ _ ⟨.bl (!k),a.H,I,rfl,q a _ (Ext.refl a) sm rfl⟩
 ·exact q.elim
end
noncomputable abbrev DG:=D->DSt->DH->R DSt
variable{g:DG}
def Dw(E:XK)(a:Wd)(r:R DSt)(Q:St->Hp->Prop):Prop:=match r with
 |.ok S G=>∀(b:Wd)(σ:St),Ext a b->Sim b G->RepS b S σ->Q σ b.H
 |.err x G=>XOk E a x G
 |.bad=>False
def lG(K:PySem.W.Frag)(E:XK)(t:DG):TG:=λv σ H Q=>∃(a:Wd)(S:DSt)(G:DH)(d:D),a.K=K/\a.H=H/\Sim a G/\RepS a S σ/\Rep a d v/\Dw E a (t d S G) Q
def QG(X:Cx)(E:XK)(tg:qO)(t:DG):Prop:=PG X tg (lG X.K E t)
noncomputable abbrev DGs:=List D->DSt->DH->R DSt
def lGs(K:PySem.W.Frag)(E:XK)(t:DGs):TGs:=λvs σ H Q=>∃(a:Wd)(S:DSt)(G:DH)(ds:List D),a.K=K/\a.H=H/\Sim a G/\RepS a S σ/\Reps a ds vs/\Dw E a (t ds S G) Q
def QGs(X:Cx)(E:XK)(tg:List qO)(t:DGs):Prop:=PGs X tg (lGs X.K E t)
noncomputable def gV(i:Nat):DG:=λd S G=>.ok (S.set i (jS d)) G
noncomputable def G7:DGs:=λds S G=>match ds with
 |[]=>.ok S G
 |_=>.bad
def Cw(t:DG)(u:DGs):DGs:=λds S G=>match ds with
 |d::r=>(t d S G).bind λS1 G1=>u r S1 G1
 |[]=>.bad
noncomputable def Fi(n:Nat)(t:DGs):DG:=λd S G=>match d with
 |.tup ds=>if ds.length=n then t ds S G else .bad
 |_=>.bad
theorem Dw.imp{r:R DSt}{Q Q':St->Hp->Prop}(h:Dw E a r Q)(w:∀v H,Q v H->Q' v H):Dw E a r Q':=by
 cases r with
 |ok d G=>exact λb v x s q=>w _ _ (h b v x s q)
 |err e G=>exact h
 |bad=>exact h
theorem Dw.mono(x:Ext a b){r:R DSt}{Q:St->Hp->Prop}(h:Dw E a r Q):Dw E b r Q:=by
 cases r with
 |ok d G=>exact λc v y s q=>h c v (x.trans y) s q
 |err e G=>exact XOk.mono (E:=E) (e:=e) (G:=G) x h
 |bad=>exact h
theorem ZCO{r:R DSt}{f:DSt->DH->R DSt}{Q:St->Hp->Prop}(h:Dw E a (r.bind f) Q):
  Dw E a r (λσ H=>∃(b:Wd)(S:DSt)(G:DH),b.H=H/\Ext a b/\Sim b G/\RepS b S σ/\r=.ok S G/\Dw E b (f S G) Q):=by
 cases r with
 |ok d G=>exact λb v x s q=>⟨b,d,G,rfl,x,s,q,rfl,Dw.mono x h⟩
 |err e G=>exact h
 |bad=>exact h
theorem We{r:R DSt}{f:DSt->DH->SR}(h:Bk E a (r.toS f) W):
  Dw E a r (λσ H=>∃(b:Wd)(S:DSt)(G:DH),b.H=H/\Ext a b/\Sim b G/\RepS b S σ/\r=.ok S G/\Bk E b (f S G) W):=by
 cases r with
 |ok d G=>exact λb v x s q=>⟨b,d,G,rfl,x,s,q,rfl,Bk.mono x h⟩
 |err e G=>exact h
 |bad=>exact h
section
variable{X:Cx}{E:XK}
theorem _root_.L2.PG.mono{t t':TG}(h:PG X e t)(w:∀v σ H Q,t' v σ H Q->t v σ H Q):PG X e t':=λjR s σ H v u Q I r q=>h jR s σ H v u Q I r (w v σ H Q q)
theorem _root_.L2.PGs.mono{e:List qO}{t t':TGs}(h:PGs X e t)(w:∀v σ H Q,t' v σ H Q->t v σ H Q):PGs X e t':=λjR s σ H v u Q I r q=>h jR s σ H v u Q I r (w v σ H Q q)
theorem Ci(i:Nat){pos:Pos}(hN:X.N.Nodup)(hi:X.N[i]?=jS x:=by rfl)(hx:Loc X.env.scope x:=by first|exact Or.inl rfl|exact Or.inr rfl)
  (hf:X.fn x=jU∨X.env.scope.names.lookup x=jS .local:=by first|exact .inl rfl|exact .inr rfl|assumption):QG X E (.Name x pos) (gV i):=
 (ZAM hN hi hx hf).mono λv σ H Q h=>by obtain⟨a,S,G,d,hk,rfl,s,r,q,h⟩:=h;exact h a _ (Ext.refl a) s (r.set i q)
theorem Nt:QGs X E [] G7:=ZAv.mono λvs σ H Q h=>by
 obtain⟨a,S,G,ds,hk,rfl,s,r,q,h⟩:=h;cases ds with
 |nil=>exact⟨q,h a σ (Ext.refl a) s r⟩
 |cons d ds=>exact h.elim
theorem G6{es:List qO}{t:DG}{u:DGs}(h1:QG X E e t)(h2:QGs X E es u)
  (hs:(jX (e::es) X.env).map (·.2)=assign e X.env::(jX es X.env).map (·.2):=by rfl):QGs X E (e::es) (Cw t u):=(ZAr h1 h2 hs).mono λvs σ H Q h=>by
 obtain⟨a,S,G,ds,hk,rfl,s,r,q,h⟩:=h;cases ds with
 |nil=>exact h.elim
 |cons d ds=>
  obtain⟨v,rest,e1,q1,q2⟩:=q;refine⟨v,rest,e1,a,S,G,d,hk,rfl,s,r,q1,(ZCO h).imp ?_⟩;rintro σ' _ ⟨b,S1,G1,rfl,x,s1,r1,_,h1⟩;exact⟨b,S1,G1,ds,x.k.trans hk,rfl,s1,r1,q2.mono x,h1⟩
theorem Lw{es:List qO}{k:Nat}{t:DGs}{n:Nat}{pos:Pos}(hc:X.calm=jU)(h:QGs X E es t)
  (hn:(jX es X.env).length=n:=by rfl) (hst:(jX es X.env).findIdx? (·.1)=jT:=by rfl):QG X E (.Tuple es k pos) (Fi n t):=(ZFQ hc h hn hst).mono λv σ H Q h=>by
 obtain⟨a,S,G,d,hk,rfl,s,r,q,h⟩:=h;cases d with
 |tup ds=>
  obtain⟨p,vs,e,h1,r1⟩:=q;unfold Fi at h;dsimp only at h;split at h
  ·rename_i hl;exact⟨p,vs,e,by rw[<-hk];exact h1,by rw[<-r1.length];exact hl,a,S,G,ds,hk,rfl,s,r,r1,h⟩
  ·exact h.elim
 |_=>exact h.elim
theorem ZFK{vs':List V}{ds':List D}(s:Sim a G)(hi:i<a.n)(h:a.H (a.m i)=jS (.lst vs))(r:Reps a ds' vs'):
  Ext a (a.put (a.m i) (.lst vs'))/\Sim (a.put (a.m i) (.lst vs')) (G.set i (.lst ds')):=⟨Ext.wr h,s.wr hi h (r.mono (Ext.wr h))⟩
variable{st:jQ}{rest:List jQ}{t u:DS}{e:qO}{te:DE}{pos:Pos}
noncomputable def sNx:DS:=λS G=>.nx S G
noncomputable def Ai(t u:DS):DS:=λS G=>match t S G with
 |.nx S1 G1=>u S1 G1
 |r=>r
def sEx(te:DE):DS:=λS G=>(te S G).toS λ_ G1=>.nx S G1
def sRt(te:DE):DS:=λS G=>(te S G).toS λd G1=>.rt d G1
def sIf(c:DB)(t u:DS):DS:=λS G=>(c S G).toS λk G1=>if k=jU then t S G1 else u S G1
def sAs(te:DE)(g:DG):DS:=λS G=>(te S G).toS λd G1=>(g d S G1).toS λS2 G2=>.nx S2 G2
theorem Bv:QSs X E [] sNx:=ZBr.mono λW σ H h=>by obtain⟨a,S,G,hk,rfl,s,r,h⟩:=h;exact h a σ (Ext.refl a) s r
theorem Bk.nxOf{t:DS}{K:PySem.W.Frag}(hk:a.K=K)(h:Bk E a (Ai t u S G) W):Bk E a (t S G) {W with nx:=lS K E u W}:=by
 unfold Ai at h
 revert h
 cases t S G<;>intro h
 ·exact λb σ x s r=>⟨b,_,_,x.k.trans hk,rfl,s,r,Bk.mono x h⟩
 all_goals exact h
theorem Aj(h1:QS X E st t)(h2:QSs X E rest u):QSs X E (st::rest) (Ai t u):=(Yb h1 h2).mono λW σ H h=>by obtain⟨a,S,G,hk,rfl,s,r,h⟩:=h;exact⟨a,S,G,hk,rfl,s,r,h.nxOf hk⟩
theorem Am(h1:QS X E st t):QSs X E [st] t:=Ww h1
theorem Jz(he:QE X E e te)(hs:swapsWith e jT pos.line X.env=pure xQ:=by rfl):QS X E (.Expr e pos) (sEx te):=(Y9 he hs).mono λW σ H h=>by obtain⟨a,S,G,hk,rfl,s,r,h⟩:=h;refine⟨a,S,G,hk,rfl,s,r,(Kw h).imp ?_⟩;rintro v _ ⟨b,d,G1,rfl,x,s1,q,_,h1⟩;exact h1 b σ (Ext.refl b) s1 (r.mono x)
theorem Bu(he:QE X E e te):QS X E (.Return (jS e) pos) (sRt te):=(ZDf he).mono λW σ H h=>by obtain⟨a,S,G,hk,rfl,s,r,h⟩:=h;refine⟨a,S,G,hk,rfl,s,r,(Kw h).imp ?_⟩;rintro v _ ⟨b,d,G1,rfl,x,s1,q,_,h1⟩;exact h1 b v (Ext.refl b) s1 q
theorem Br{c:qO}{tc:DB}{a b:List jQ}(hc:QT X E c tc)(ha:QSs X E a t)(hb:QSs X E b u):QS X E (.If c a b pos) (sIf tc t u):=(ZEk hc ha hb).mono λW σ H h=>by
 obtain⟨a,S,G,hk,rfl,s,r,h⟩:=h;refine⟨a,S,G,hk,rfl,s,r,(ZB2 h).imp ?_⟩;rintro k _ ⟨b,G1,rfl,x,s1,_,h1⟩;cases k with
 |true=>exact⟨b,S,G1,x.k.trans hk,rfl,s1,r.mono x,h1⟩
 |false=>exact⟨b,S,G1,x.k.trans hk,rfl,s1,r.mono x,h1⟩
theorem ZAQ{K:PySem.W.Frag}(h:lS K E (sAs te g) W σ H):Ur (lE K E te) (lG K E g) W σ H:=by obtain⟨a,S,G,hk,rfl,s,r,h⟩:=h;refine⟨a,S,G,hk,rfl,s,r,(Kw h).imp ?_⟩;rintro v _ ⟨b,d,G1,rfl,x,s1,q,_,h1⟩;refine⟨b,S,G1,d,x.k.trans hk,rfl,s1,r.mono x,q,(We h1).imp ?_⟩;rintro σ' _ ⟨c,S2,G2,rfl,y,s2,r2,_,h2⟩;exact h2 c σ' (Ext.refl c) s2 r2
theorem Xf(he:QE X E e te)(hg:QG X E tg g)(hs:swapsWithSole [tg] e pos.line X.env=pure xQ:=by rfl)(hw:swappedStores [tg] e X.env=pure jT:=by rfl)
  (h1:(jX [tg] X.env).map (·.2)=[assign tg X.env]:=by rfl):QS X E (.Assign [tg] e pos) (sAs te g):=(ZAm he hg hs hw h1).mono λ_ _ _ h=>ZAQ h
theorem Ak(i:Nat){pos':Pos}(hN:X.N.Nodup)(he:QE X E e te)(hi:X.N[i]?=jS x:=by rfl)(hx:Loc X.env.scope x:=by first|exact Or.inl rfl|exact Or.inr rfl)(hs:swapsWith e (jS (.Name x pos')) pos.line X.env=pure xQ:=by rfl)
  (hf:X.fn x=jU∨X.env.scope.names.lookup x=jS .local:=by first|exact .inl rfl|exact .inr rfl|assumption):QS X E (.Assign [.Name x pos'] e pos) (sAs te (gV i)):=
 (ZCN hN hi hx he hs hf).mono λW σ H h=>by obtain⟨a,S,G,hk,rfl,s,r,h⟩:=h;refine⟨a,S,G,hk,rfl,s,r,(Kw h).imp ?_⟩;rintro v _ ⟨b,d,G1,rfl,x,s1,q,_,h1⟩;exact h1 b _ (Ext.refl b) s1 ((r.mono x).set i q)
end
noncomputable def aft(r:SR)(k:DSt->DH->SR):SR:=match r with
 |.nx S G=>k S G
 |.ct S G=>k S G
 |.bk S G=>.nx S G
 |r=>r
def Bp(g:DG)(b:DS):List D->DS
 |[],S,G=>.nx S G
 |x::xs,S,G=>(g x S G).toS λS1 G1=>aft (b S1 G1) (Bp g b xs)
def forM(i:Nat)(g:DG)(b:DS):Nat->Nat->DS
 |0,j,S,G=>match G[i]? with
  |some (.lst xs)=>if xs.length<=j then .nx S G else .bad
  |_=>.bad
 | k+1,j,S,G=>match G[i]? with
  |some (.lst xs)=>match xs[j]? with
   |some x=>(g x S G).toS λS1 G1=>aft (b S1 G1) (forM i g b k (j+1))
   |none=>.nx S G
  |_=>.bad
def Cr(f:Nat->DH->Option (Option D))(g:DG)(b:DS):Nat->Nat->DS
 |0,j,S,G=>match f j G with
  |some jT=>.nx S G
  |_=>.bad
 |k+1,j,S,G=>match f j G with
  |some (jS x)=>(g x S G).toS λS1 G1=>aft (b S1 G1) (Cr f g b k (j+1))
  |some jT=>.nx S G
  |none=>.bad
inductive ItD where
 |pure (xs:List D)
 |mt (i:Nat)
 |fn (n:Nat) (f:Nat->DH->Option (Option D))
noncomputable abbrev DI:=DSt->DH->R ItD
def Ek(it:DI)(g:DG)(b:DS):DS:=λS G=>(it S G).toS λJ G1=>match J with
 |.pure xs=>Bp g b xs S G1
 |.mt i=>match G1[i]? with
  |some (.lst xs)=>forM i g b xs.length 0 S G1
  |_=>.bad
 |.fn n f=>Cr f g b n 0 S G1
def RepI(a:Wd):ItD->It->Prop
 |.pure xs,J=>∃vs:List V,Reps a xs vs/\∀b:Wd,Ext a b->∀i,(∀v,vs[i]?=jS v->J.go i b.H/\∀x H',J.yld i b.H x H'->x=v/\H'=b.H)/\(vs.length<=i->J.stop i b.H)
 |.mt k,J=>k<a.n/\∀b:Wd,Ext a b->∀vs,b.H (b.m k)=jS (.lst vs)->∀i,(∀v,vs[i]?=jS v->J.go i b.H/\∀x H',J.yld i b.H x H'->x=v/\H'=b.H)/\(vs.length<=i->J.stop i b.H)
 |.fn _ f,J=>∀b:Wd,Ext a b->∀G,Sim b G->∀i,(∀d,f i G=jS (jS d)->J.go i b.H/\∀x H',J.yld i b.H x H'->∃c:Wd,c.H=H'/\Ext b c/\Sim c G/\Rep c d x)/\(f i G=jS jT->J.stop i b.H)
def outI(E:XK)(a:Wd)(r:R ItD)(Q:It->Hp->Prop):Prop:=match r with
 |.ok J G=>∀(b:Wd)(JJ:It),Ext a b->Sim b G->RepI b J JJ->Q JJ b.H
 |.err x G=>XOk E a x G
 |.bad=>False
def lI(K:PySem.W.Frag)(E:XK)(t:DI):TI:=λσ H Q=>∃(a:Wd)(S:DSt)(G:DH),a.K=K/\a.H=H/\Sim a G/\RepS a S σ/\outI E a (t S G) Q
def QI(X:Cx)(E:XK)(tg iter:qO)(t:DI):Prop:=PI X tg iter (lI X.K E t)
theorem outI.imp{r:R ItD}{Q Q':It->Hp->Prop}(h:outI E a r Q)(w:∀v H,Q v H->Q' v H):outI E a r Q':=by
 cases r with
 |ok d G=>exact λb v x s q=>w _ _ (h b v x s q)
 |err e G=>exact h
 |bad=>exact h
theorem ZBK{r:R ItD}{f:ItD->DH->SR}(h:Bk E a (r.toS f) W):
  outI E a r (λJ H=>∃(b:Wd)(d:ItD)(G:DH),b.H=H/\Ext a b/\Sim b G/\RepI b d J/\r=.ok d G/\Bk E b (f d G) W):=by
 cases r with
 |ok d G=>exact λb v x s q=>⟨b,d,G,rfl,x,s,q,rfl,Bk.mono x h⟩
 |err e G=>exact h
 |bad=>exact h
theorem ZCp {r:SR} {k:DSt->DH->SR} (h:Bk E a (aft r k) W):
  Bk E a r {W with
            nx:=λσ H=>∃(b:Wd)(S:DSt)(G:DH),b.H=H/\Ext a b/\Sim b G/\RepS b S σ/\Bk E b (k S G) W,
            ct:=λσ H=>∃(b:Wd)(S:DSt)(G:DH),b.H=H/\Ext a b/\Sim b G/\RepS b S σ/\Bk E b (k S G) W,bk:=W.nx}:=by
 cases r with
 |nx S G=>exact λb σ x s q=>⟨b,S,G,rfl,x,s,q,Bk.mono x h⟩
 |ct S G=>exact λb σ x s q=>⟨b,S,G,rfl,x,s,q,Bk.mono x h⟩
 |bk S G=>exact h
 |rt d G=>exact h
 |err x G=>exact h
 |bad=>exact h
noncomputable def mtF(i j:Nat)(G:DH):Option (Option D):=match G[i]? with
 |some (.lst xs)=>jS xs[j]?
 |_=>jT
theorem Xr{J:It}{n:Nat}(r:RepI a (.pure xs) J):RepI a (.fn n λj _=>jS xs[j]?) J:=by
 obtain⟨vs,rv,h⟩:=r;refine λb x G sm i=>⟨λd e=>?_,λe=>?_⟩
 ·obtain⟨v,ev,q⟩:=rv.get (Option.some.inj e);obtain⟨h1,h2⟩:=(h b x i).1 v ev;refine⟨h1,λy H' hy=>?_⟩;obtain⟨rfl,rfl⟩:=h2 y H' hy;exact⟨b,rfl,Ext.refl b,sm,q.mono x⟩
 ·exact(h b x i).2 (by rw[<-rv.length];exact qy.mp (Option.some.inj e))
theorem Zr{J:It}{n:Nat}(r:RepI a (.mt k) J):RepI a (.fn n (mtF k)) J:=by
 obtain⟨hk,h⟩:=r;refine λb x G sm i=>?_
 unfold mtF;cases hG:G[k]? with
 |none=>exact⟨λd e=>(by cases e),λe=>(by cases e)⟩
 | some o=>
  cases o with
  |lst xs=>
   obtain⟨vs,e1,rv⟩:=sm.lst hG;refine⟨λd e=>?_,λe=>?_⟩
   ·obtain⟨v,ev,q⟩:=rv.get (Option.some.inj e);obtain⟨h1,h2⟩:=(h b x vs e1 i).1 v ev;refine⟨h1,λy H' hy=>?_⟩;obtain⟨rfl,rfl⟩:=h2 y H' hy;exact⟨b,rfl,Ext.refl b,sm,q⟩
   ·exact(h b x vs e1 i).2 (by rw[<-rv.length];exact qy.mp (Option.some.inj e))
  |_=>exact⟨λd e=>(by cases e),λe=>(by cases e)⟩
theorem Vq{b:DS}:∀(n j:Nat),j+n=xs.length->Bp g b (xs.drop j)=Cr (λj _=>jS xs[j]?) g b n j
 |0,j,h=>by
  funext S G;rw[q9 (by lia)]
  show SR.nx S G=(match jS xs[j]? with |some jT=>SR.nx S G|_=>.bad)
  rw[zR (by lia)]
 |n+1,j,h=>by
  funext S G;have hj:j<xs.length:=by lia
  rw[qX hj]
  show(g xs[j] S G).toS (λS1 G1=>aft (b S1 G1) (Bp g b (xs.drop (j+1))))=(match jS xs[j]? with |some (jS x)=>(g x S G).toS (λS1 G1=>aft (b S1 G1) (Cr (λj _=>jS xs[j]?) g b n (j+1)))|some jT=>SR.nx S G|none=>.bad)
  rw[zK hj,Vq n (j+1) (by lia)]
theorem Wq{b:DS}:∀(n j:Nat),forM i g b n j=Cr (mtF i) g b n j
 | 0,j=>by
  funext S G;unfold forM Cr mtF;cases G[i]? with
  |none=>rfl
  | some o=>
   cases o with
   |lst xs=>
    dsimp only;by_cases hj:j<xs.length
    ·rw[if_neg (by lia),zK hj]
    ·rw[if_pos (by lia),zR (by lia)]
   |_=>rfl
 | n+1,j=>by
  funext S G;unfold forM Cr;rw[Wq n (j+1)];unfold mtF;cases G[i]? with
  |none=>rfl
  | some o=>
   cases o with
   |lst xs=>
    dsimp only
    cases xs[j]?<;>rfl
   |_=>rfl
section
variable{X:Cx}{E:XK}{tg iter:qO}{pos:Pos}
theorem ZAj{K:PySem.W.Frag}{it:DI}{b:DS}(h:lS K E (Ek it g b) W σ H):tFor (lI K E it) (lG K E g) (lS K E b) W σ H:=by
 obtain⟨a,S,G,hk,rfl,s,r,h⟩:=h;refine⟨a,S,G,hk,rfl,s,r,(ZBK h).imp ?_⟩;rintro J _ ⟨a1,d,G1,rfl,x1,s1,q1,_,h1⟩;have k1:a1.K=K:=x1.k.trans hk
 suffices fnc:∃n f,RepI a1 (.fn n f) J/\Bk E a1 (Cr f g b n 0 S G1) W by
  obtain⟨n,f,q1,h1⟩:=fnc;have walk:∀b:Wd,Ext a1 b->∀G,Sim b G->∀i,(∀d,f i G=jS (jS d)->J.go i b.H/\∀x H',J.yld i b.H x H'->∃c:Wd,c.H=H'/\Ext b c/\Sim c G/\Rep c d x)/\(f i G=jS jT->J.stop i b.H):=q1;refine⟨λi m σ H=>∃(c:Wd)(S:DSt)(G:DH),c.H=H/\Ext a1 c/\Sim c G/\RepS c S σ/\Bk E c (Cr f g b m i S G) W,⟨_,a1,S,G1,rfl,Ext.refl _,s1,r.mono x1,h1⟩,?_⟩;rintro i m σ2 _ ⟨c,S2,G2,rfl,x2,s2,r2,h2⟩
  cases m with
  |zero=>
   unfold Cr at h2;split at h2
   ·rename_i hf;exact .inl ⟨(walk c x2 G2 s2 i).2 hf,h2 c σ2 (Ext.refl c) s2 r2⟩
   ·exact h2.elim
  | succ m=>
   unfold Cr at h2;split at h2
   ·rename_i d hf;obtain⟨go,yl⟩:=(walk c x2 G2 s2 i).1 d hf;refine .inr ⟨go,λσ' H'=>∃(c:Wd)(S:DSt)(G:DH),c.H=H'/\Ext a1 c/\Sim c G/\RepS c S σ'/\Bk E c (Cr f g b m (i+1) S G) W,λσ' H' z=>⟨m,zN _,z⟩,λw H' y=>?_⟩;obtain⟨cc,rfl,xx,ss,rd⟩:=yl w H' y;refine⟨cc,S2,G2,d,xx.k.trans (x2.k.trans k1),rfl,ss,r2.mono xx,rd,(We (Bk.mono xx h2)).imp ?_⟩;rintro σ3 _ ⟨c3,S3,G3,rfl,x3,s3,r3,_,h3⟩
    have fin:=ZCp h3;refine⟨c3,S3,G3,x3.k.trans (xx.k.trans (x2.k.trans k1)),rfl,s3,r3,?_⟩
    revert fin
    cases b S3 G3 with
    | nx S4 G4=>
      intro fin c4 σ4 x4 s4 q4;obtain⟨c5,S5,G5,hh,x5,s5,r5,h5⟩:=fin c4 σ4 x4 s4 q4;exact⟨c5,S5,G5,hh,x2.trans (xx.trans (x3.trans x5)),s5,r5,h5⟩
    | ct S4 G4=>
      intro fin c4 σ4 x4 s4 q4;obtain⟨c5,S5,G5,hh,x5,s5,r5,h5⟩:=fin c4 σ4 x4 s4 q4;exact⟨c5,S5,G5,hh,x2.trans (xx.trans (x3.trans x5)),s5,r5,h5⟩
    |bk S4 G4=>exact λfin=>fin
    |rt S4 G4=>exact λfin=>fin
    |err S4 G4=>exact λfin=>fin
    |bad=>exact λfin=>fin
   ·rename_i hf;exact .inl ⟨(walk c x2 G2 s2 i).2 hf,h2 c σ2 (Ext.refl c) s2 r2⟩
   ·exact h2.elim
 cases d with
 |pure xs=>
  have h1':Bk E a1 (Bp g b (xs.drop 0) S G1) W:=h1;rw[Vq xs.length 0 (by lia)]at h1';exact⟨_,_,Xr q1,h1'⟩
 |mt k=>
  dsimp only at h1;split at h1
  ·rw[Wq]at h1;exact⟨_,_,Zr q1,h1⟩
  ·exact h1.elim
 |fn n f=>exact⟨n,f,q1,h1⟩
theorem Fx{body:List jQ}{it:DI}{b:DS}(hp:PassesOwn (j5 X.prog X.w) X.A X.env X.xe)(hc:X.calm=jU)(hi:QI X E tg iter it)(hg:QG X E tg g)(hb:QSs X E body b)
  (hs:∀x,foldedSetIterable iter X.env x=pure x:=by intro _;rfl):QS X E (.For tg iter body [] pos) (Ek it g b):=(ZC5 hp hc hi hg hb hs).mono λ_ _ _ h=>ZAj h
theorem _root_.L2.PI.mono{t t':TI}(h:PI X tg iter t)(w:∀σ H Q,t' σ H Q->t σ H Q):PI X tg iter t':=λjR s σ H Q I q=>h jR s σ H Q I (w σ H Q q)
noncomputable def sgn(c:Nat):D:=.str ⟨#[c]⟩
def signs(x:Str):List D:=x.cps.toList.map sgn
noncomputable def Its(x:Str):It:=⟨λi _=>i<x.cps.size,λi H v H'=>H'=H/\∃c,x.cps[i]?=jS c/\v=.str ⟨#[c]⟩,λi _=>x.cps.size<=i⟩
theorem ZBG{K:PySem.W.Frag}(it:qM)(x:Str)(t:Tok):Turn P w K tg (Its x) [it] it (λi h=>h.IsStrIter it "str_ascii_iterator" x t i) where
 mem:=by simp
 obj:=λi h st b hb=>by
  have e:b=it:=by simpa using hb
  subst e;obtain⟨o,e,c,d⟩:=st;exact⟨o,e,λv z=>by rw[d]at z;cases z⟩
 keep:=λi h h' st k=>let⟨o,ho,r⟩:=st;⟨o,k it (by simp) o ho,r⟩
 item:=by
  intro X hP hw hK hc i jR s σ H E I hf st hg;subst hP hw hK;obtain⟨f0,f1,f2,f3,f4,f5⟩:=hf it (by simp);have hi:i<x.cps.size:=hg;refine wpAny_pyNext_ascii_item st (c:=x.cps[i]) (by simp[hi]) λh' st' sb=>?_
  have I1:Inv X jR σ H {s with heap:=h',toks:=s.toks+1}:=I.turned (λb o hb e=>(sb.2 b hb).trans e) f0 f1 f3 f4 f5;obtain⟨o,e,c,d⟩:=id st';exact⟨_,rfl,Lh (s:={s with heap:=h',toks:=s.toks+1}) e c d (by decide) ⟨.str ⟨#[x.cps[i]]⟩,H,I1,⟨_,rfl⟩,⟨rfl,_,by simp[hi],rfl⟩,st',λb hb=>(hf b hb).1⟩⟩
 done:=by intro X hP hw hK hc i jR s σ H E I hf st hg;subst hP hw hK;obtain⟨f0,f1,f2,f3,f4,f5⟩:=hf it (by simp);have hi:x.cps.size<=i:=hg;exact wpAny_pyNext_ascii_end (I.ok.hd hc) st (by simp[hi]) λh' eb=>⟨rfl,I.turned (t':=s.toks) (λb o hb e=>eb b o hb e) f0 f1 f3 f4 f5⟩
 self:=λ_ _ _ _ _ st h=>wpAny_pyIter_striter_ascii st h
theorem ZBW{K:PySem.W.Frag}(it:qM)(x:Str)(t:Tok):Turn P w K tg (Its x) [it] it (λi h=>h.IsStrIter it "str_iterator" x t i) where
 mem:=by simp
 obj:=λi h st b hb=>by
  have e:b=it:=by simpa using hb
  subst e;obtain⟨o,e,c,d⟩:=st;exact⟨o,e,λv z=>by rw[d]at z;cases z⟩
 keep:=λi h h' st k=>let⟨o,ho,r⟩:=st;⟨o,k it (by simp) o ho,r⟩
 item:=by
  intro X hP hw hK hc i jR s σ H E I hf st hg;subst hP hw hK;obtain⟨f0,f1,f2,f3,f4,f5⟩:=hf it (by simp);have hi:i<x.cps.size:=hg;refine wpAny_pyNext_wide_item st (c:=x.cps[i]) (by simp[hi]) λh' st' sb=>?_
  have I1:Inv X jR σ H {s with heap:=h',toks:=s.toks+1}:=I.turned (λb o hb e=>(sb.2 b hb).trans e) f0 f1 f3 f4 f5;obtain⟨o,e,c,d⟩:=id st';exact⟨_,rfl,Lh (s:={s with heap:=h',toks:=s.toks+1}) e c d (by decide) ⟨.str ⟨#[x.cps[i]]⟩,H,I1,⟨_,rfl⟩,⟨rfl,_,by simp[hi],rfl⟩,st',λb hb=>(hf b hb).1⟩⟩
 done:=by intro X hP hw hK hc i jR s σ H E I hf st hg;subst hP hw hK;obtain⟨f0,f1,f2,f3,f4,f5⟩:=hf it (by simp);have hi:x.cps.size<=i:=hg;exact wpAny_pyNext_wide_end (I.ok.hd hc) st (by simp[hi]) λh' eb=>⟨rfl,I.turned (t':=s.toks) (λb o hb e=>eb b o hb e) f0 f1 f3 f4 f5⟩
 self:=λ_ _ _ _ _ st h=>wpAny_pyIter_striter_wide st h
def iStr(tl:TE):TI:=λσ H R=>tl σ H λx H1=>∃z,x=.str z/\R (Its z) H1
theorem ZBg{l:qO}{tl:TE}(hl:PE X l tl):PI X tg l (iStr tl):=by
 intro jR s σ H R I h;refine thn (hl jR s σ H _ I h) λv s1 ⟨x,H1,I1,r1,q1⟩=>?_
 obtain⟨z,e,q⟩:=q1;subst e;obtain⟨t,rfl⟩:=r1;have fp:∀b∈[s1.heap.objs.size],FpOk X jR H1 b:=λb hb=>by
  have e:b=s1.heap.objs.size:=by simpa using hb
  subst e;exact I1.Jb (zW _) (I1.hok.fresh (zW _))
 cases ha:z.cps.all (· < 128)
 ·refine wpAny_pyIter_wide ha ?_;exact⟨s1.heap.objs.size,[s1.heap.objs.size],_,_,H1,rfl,I1.kept (t':=s1.toks) λb o e=>zZ _ e,ZBW _ z t,⟨_,zj _ rfl,rfl,rfl⟩,fp,q⟩
 ·refine wpAny_pyIter_ascii ha ?_;exact⟨s1.heap.objs.size,[s1.heap.objs.size],_,_,H1,rfl,I1.kept (t':=s1.toks) λb o e=>zZ _ e,ZBG _ z t,⟨_,zj _ rfl,rfl,rfl⟩,fp,q⟩
theorem Reps.signs(x:Str):Reps a (signs x) (x.cps.toList.map λc=>V.str ⟨#[c]⟩):=by
 unfold DL.signs
 induction x.cps.toList with
 |nil=>exact rfl
 |cons c r ih=>exact⟨_,_,rfl,rfl,ih⟩
def Ha:D->DH->R ItD
 |.tup xs,G=>.ok (.pure xs) G
 |.str x,G=>.ok (.pure (signs x)) G
 |.fl xs,G=>.ok (.pure xs) G
 |.ref i,G=>match G[i]? with
  |some (.lst _)=>.ok (.mt i) G
  |_=>.bad
 |_,_=>.bad
def Gy(te:DE):DI:=λS G=>(te S G).bind Ha
theorem K4(he:QE X E iter te):QI X E tg iter (Gy te):=by
 intro jR s σ H R I h;obtain⟨a,S,G,hk,rfl,sm,r,h⟩:=h;cases ht:te S G with
 |bad=>
  have h':outI E a ((te S G).bind Ha) R:=h;rw[ht]at h';exact h'.elim
 |err e G1=>
  have h':outI E a ((te S G).bind Ha) R:=h;rw[ht]at h';refine U7 (tg:=tg) he jR s σ a.H R I ⟨a,S,G,hk,rfl,sm,r,?_⟩;rw[ht];exact h'
 | ok d G1=>
  have h':outI E a ((te S G).bind Ha) R:=h;rw[ht]at h';cases d with
  |tup xs=>
   refine ZE8 (tg:=tg) he jR s σ a.H R I ⟨a,S,G,hk,rfl,sm,r,?_⟩;rw[ht];rintro b v x sb ⟨p,vs,rfl,hq,rv⟩;have hq':SqT X.K b.H p vs:=by rw[<-hk,<-x.k];exact hq
   refine⟨p,rfl,⟨vs,hq'⟩,h' b _ x sb ⟨vs,rv,λc y i=>⟨λv hv=>⟨⟨vs,v,?_,hv⟩,λw H' z=>?_⟩,λhl=>⟨vs,?_,hl⟩⟩⟩⟩
   ·have:=y.sqT hq;rw[y.k,x.k,hk]at this;exact this
   ·have:=y.sqT hq;rw[y.k,x.k,hk]at this;exact⟨Option.some.inj ((z.2 vs this).symm.trans hv),z.1⟩
   ·have:=y.sqT hq;rw[y.k,x.k,hk]at this;exact this
  |fl xs=>
   refine U7 (tg:=tg) he jR s σ a.H R I ⟨a,S,G,hk,rfl,sm,r,?_⟩;rw[ht];rintro b v x sb ⟨p,vs,rfl,hq,rv⟩;have hq':SqL X.K b.H p vs:=by rw[<-hk,<-x.k];exact hq.sq
   refine⟨p,rfl,⟨vs,hq'⟩,h' b _ x sb ⟨vs,rv,λc y i=>⟨λv hv=>⟨⟨vs,v,?_,hv⟩,λw H' z=>?_⟩,λhl=>⟨vs,?_,hl⟩⟩⟩⟩
   ·have:=(y.fzL hq).sq;rw[y.k,x.k,hk]at this;exact this
   ·have:=(y.fzL hq).sq;rw[y.k,x.k,hk]at this;exact⟨Option.some.inj ((z.2 vs this).symm.trans hv),z.1⟩
   ·have:=(y.fzL hq).sq;rw[y.k,x.k,hk]at this;exact this
  |ref k=>
   have h2:outI E a (Ha (.ref k) G1) R:=h';unfold Ha at h2;dsimp only at h2;split at h2
   ·rename_i xs hx;refine U7 (tg:=tg) he jR s σ a.H R I ⟨a,S,G,hk,rfl,sm,r,?_⟩;rw[ht];rintro b v x sb ⟨hkn,rfl⟩;obtain⟨vs,hx,_⟩:=sb.lst hx;refine⟨b.m k,rfl,⟨vs,.of hx⟩,h2 b _ x sb ⟨hkn,λc y us hu i=>?_⟩⟩;rw[y.m k hkn]at hu;exact⟨λv hv=>⟨⟨us,v,.of hu,hv⟩,λw H' z=>⟨Option.some.inj ((z.2 us (.of hu)).symm.trans hv),z.1⟩⟩,λhl=>⟨us,.of hu,hl⟩⟩
   ·exact h2.elim
  | str z=>
   refine ZBg (tg:=tg) he jR s σ a.H R I ⟨a,S,G,hk,rfl,sm,r,?_⟩;rw[ht];intro b v x sb rv
   cases(show v=V.str z from rv)
   refine⟨z,rfl,h' b _ x sb ⟨_,Reps.signs z,λc y i=>⟨λv hv=>?_,λhl=>?_⟩⟩⟩
   ·rw[z5,zk]at hv;obtain⟨k,hk1,rfl⟩:=hv;have hk2:z.cps[i]?=jS k:=by rw[<-Array.getElem?_toList];exact hk1
    refine⟨(zC.mp hk2).1,λw H' q=>?_⟩;obtain⟨e1,k',e2,e3⟩:=q;rw[hk2]at e2;cases e2;exact⟨e3,e1⟩
   ·rw[qY,qQ]at hl;exact hl
  |_=>exact h'.elim
end
noncomputable def By(lo:Int)(n:Nat):List D:=(zG n).map λ(k:Nat)=>D.int (lo+(k:Int))
def inR(j:Int):Prop:= -(2^62)<=j/\j<2^62
noncomputable instance (j:Int):Decidable (inR j):=by unfold inR;infer_instance
def rng1(ds:List D)(G:DH):R ItD:=match ds with
 |[.int j]=>if inR j then .ok (.pure (By 0 j.toNat)) G else .bad
 |_=>.bad
def Ew(f:List D->DH->R ItD)(ta:DA):DI:=λS G=>(ta S G).bind f
def Bm(np nl:Nat)(b:DS):List D->DH->R D:=λds G=>if ds.length=np then tidy G (match b (ds.map jS++zQ nl jT) G with
 |.nx _ G'=>.ok .non G'
 |.rt d G'=>.ok d G'
 |.err x G'=>.err x G'
 |_=>.bad)else .bad
theorem outI.mono(x:Ext a b){r:R ItD}{Q:It->Hp->Prop}(h:outI E a r Q):outI E b r Q:=by
 cases r with
 |ok d G=>exact λc v y s q=>h c v (x.trans y) s q
 |err e G=>exact XOk.mono (E:=E) (e:=e) (G:=G) x h
 |bad=>exact h
theorem Vd{r:R (List D)}{f:List D->DH->R ItD}{Q:It->Hp->Prop}(h:outI E a (r.bind f) Q):
  Dj E a r (λvs H=>∃(b:Wd)(ds:List D)(G:DH),b.H=H/\Ext a b/\Sim b G/\Reps b ds vs/\r=.ok ds G/\outI E b (f ds G) Q):=by
 cases r with
 |ok d G=>exact λb v x s q=>⟨b,d,G,rfl,x,s,q,rfl,outI.mono x h⟩
 |err e G=>exact h
 |bad=>exact h
section
variable{X:Cx}{E:XK}{tg iter:qO}{pos:Pos}
theorem ZAi(lo:Int)(n:Nat):RepI a (.pure (By lo n)) (Itr lo n):=by
 refine⟨(zG n).map λ(k:Nat)=>V.int (lo+(k:Int)),?_,λb x i=>⟨λv hv=>?_,λhl=>?_⟩⟩
 ·unfold By;generalize zG n=l
  induction l with
  |nil=>exact rfl
  |cons k l ih=>exact⟨_,_,rfl,rfl,ih⟩
 ·rw[z5]at hv;by_cases hi:i<n
  ·rw[List.getElem?_range hi]at hv;have hv':V.int (lo+(i:Int))=v:=by simpa using hv
   exact⟨hi,λw H' y=>⟨y.2.trans hv',y.1⟩⟩
  ·rw[zR (by simpa using hi)]at hv;cases hv
 ·show n<=i;simpa using hl
theorem Hf{ta:DA}{p pos:Pos}(hg:Gl X "range")(hm:X.mg "range"=jT)(ha:QA X E [e] ta)(hs:j8 [e] X.env=[(xQ,eval e X.env)]:=by rfl):QI X E tg (.Call (.Name "range" p) [e] [] pos) (Ew rng1 ta):=
 (ZD7 hg hm ha hs).mono λσ H Q h=>by
  obtain⟨a,S,G,hk,rfl,s,r,h⟩:=h;refine⟨a,S,G,hk,rfl,s,r,(Vd h).imp ?_⟩;rintro vs _ ⟨b,ds,G1,rfl,x,s1,q,-,h1⟩;unfold rng1 at h1;split at h1
  ·rename_i j;split at h1
   ·rename_i hj;obtain⟨v,r,e1,q1,q2⟩:=q
    cases(show v=V.int j from q1)
    cases(show r=[]from q2)
    exact⟨j,e1,hj.1,hj.2,h1 b _ (Ext.refl b) s1 (ZAi 0 j.toNat)⟩
   ·exact h1.elim
  ·exact h1.elim
end
theorem Sg(r:Reps a ds vs)(n m:Nat)(h:n=m):RepS a (ds.map jS++zQ n jT) (vs.map jS++zQ m jT):=by
 subst h;refine⟨by simp[r.length],λi d hd=>?_⟩;by_cases hi:i<ds.length
 ·rw[zD (by simpa using hi),z5]at hd;cases e:ds[i]? with
  |none=>rw[e]at hd;cases hd
  |some d'=>
   rw[e]at hd;have hd':d'=d:=by simpa using hd
   subst hd';obtain⟨v,ev,q⟩:=r.get e;exact⟨v,by rw[zD (by rw[qY,<-r.length];exact hi),z5,ev];rfl,q⟩
 ·rw[zy (by simpa using hi),zU]at hd
  split at hd<;>cases hd
theorem Dt{K:PySem.W.Frag}{mg:Str->Option jZ}{base:Heap}{qual:Str}{st:jQ}{f:qM}{fd:qP}{N ps:List Str}{b:DS}(F:Fun K x qual st f fd)(S:FnScope N ps (Ao st))
  (hbody:∀(cdv:jZ)(A:qN)(outer:List Env)(s:qU)(H:Hp)(E:XK),Room k (A.deeper (envOfC qual (Ao st) s.heap.objs.size f cdv))->QSs (Dr CX0 P w K mg base N qual (Ao st) f cdv A outer s H E).nox E0 (Dk st) b):
  FnOk P w K mg base CX0 (k+1) f fd ps (lF K (Bm ps.length (N.length-ps.length) b)):=by
 have hlen:∀vs H Q E,lF K (Bm ps.length (N.length-ps.length) b) vs H Q E->vs.length=ps.length:=λvs H Q E h=>by
  obtain⟨a,G,ds,hk,rfl,sm,r,h⟩:=h;unfold Bm at h;split at h
  ·rename_i hl;rw[<-r.length];exact hl
  ·exact h.elim
 refine F.ok S hlen (λcdv A outer s H vs Q E hr h=>?_);refine⟨lS K E0 b,hbody cdv A outer s H E hr,?_⟩;have hl:=hlen vs H Q E h;obtain⟨a,G,ds,hk,rfl,sm,r,h⟩:=h;unfold Bm at h;split at h
 ·have h2:=Nj sm h;refine⟨a,ds.map jS++zQ (N.length-ps.length) jT,G,hk,rfl,sm,Sg r _ _ (by rw[hl]),?_⟩
  revert h2
  cases b (ds.map jS++zQ (N.length-ps.length) jT) G with
  |nx S1 G1=>exact λh2 c σ x s1 _=>h2 c .non x s1 rfl
  |rt d G1=>exact λh2=>h2
  |err e G1=>exact λh2=>h2
  |bk S1 G1=>exact λh2=>h2.elim
  |ct S1 G1=>exact λh2=>h2.elim
  |bad=>exact λh2=>h2
 ·exact h.elim
theorem Ov{x:V}(s:Sim a G)(r:Rep a d x)(h:Ce d G=jS xs):∃p vs,x=.ref p/\(SqL a.K a.H p vs∨SqT a.K a.H p vs)/\Reps a xs vs:=by
 cases d with
 |tup ys=>
  have e:ys=xs:=Option.some.inj h;subst e;obtain⟨p,vs,e,q,rr⟩:=r;exact⟨p,vs,e,.inr q,rr⟩
 |fl ys=>
  have e:ys=xs:=Option.some.inj h;subst e;obtain⟨p,vs,e,q,rr⟩:=r;exact⟨p,vs,e,.inl q.sq,rr⟩
 |ref i=>
  unfold Ce at h;dsimp only at h;split at h
  ·rename_i ys hi;have e:ys=xs:=Option.some.inj h;subst e;obtain⟨vs,e1,r1⟩:=s.lst hi;exact⟨a.m i,vs,r.2,.inl (.of e1),r1⟩
  ·cases h
 |_=>cases h
def An (d e:D) (G:DH):R D:=match e with
 | .int i=>match d with
  | .str z=>if z.length<=1000000 then(match atI z.cps.toList i with
    |some c=>.ok (.str ⟨#[c]⟩) G
    |none=>.bad)else .bad
  | d=>match Ce d G with
   |some xs=>match atI xs i with
    |some v=>.ok v G
    |none=>.bad
   |none=>.bad
 |_=>.bad
theorem ZAJ{i:Int}(r:Reps a xs vs)(h:atI xs i=jS d):∃v,atI vs i=jS v/\Rep a d v:=by
 unfold atI at h⊢;rw[<-r.length];cases e:ixN xs.length i with
 |none=>rw[e]at h;cases h
 |some j=>
  rw[e]at h
  obtain⟨v,ev,q⟩:=r.get (show xs[j]?=jS d from h)
  exact⟨v,ev,q⟩
section
variable{X:Cx}{E:XK}
theorem _root_.L2.IxR.mono{r r':R2}(h:IxR X r)(w:∀x y H Q,r' x y H Q->r x y H Q):IxR X r':=λvalue slice jR s σ H x y v u Q I rx ry q hs=>h value slice jR s σ H x y v u Q I rx ry (w _ _ _ _ q) hs
theorem _root_.L2.CallR.mono{f:jZ}{r r':List V->Hp->VK->Prop}(h:CallR X f r)(w:∀xs H Q,r' xs H Q->r xs H Q):CallR X f r':=λjR s σ H xs us Q I rs q=>h jR s σ H xs us Q I rs (w _ _ _ q)
theorem _root_.L2.MtM.mono{id:String}{r r':V->List V->Hp->VK->Prop}(h:MtM X id r)(w:∀x xs H Q,r' x xs H Q->r x xs H Q):MtM X id r':=λjR s σ H x xs v us Q I rx rs q=>h jR s σ H x xs v us Q I rx rs (w _ _ _ _ q)
theorem Bc:IxR X (lR2 X.K E An):=ZCX.mono λx y H Q h=>by
 obtain⟨a,G,d,e,hk,rfl,s,rd,re,q⟩:=h;cases e with
 | int i=>
  have fin:∀{xs:List D},Ce d G=jS xs->out E a (match atI xs i with |some v=>.ok v G|none=>.bad) Q->rIx X.K x y a.H Q:=λ{xs}hs q=>by
   obtain⟨p,vs,e1,h1,r1⟩:=Ov s rd hs;rw[hk]at h1;split at q
   ·rename_i v hv;obtain⟨u,hu,ru⟩:=ZAJ r1 hv;have z:=q a u (Ext.refl a) s ru;rcases h1 with h1|h1
    ·exact .inl ⟨p,vs,i,u,e1,re,h1,hu,z⟩
    ·exact .inr (.inl ⟨p,vs,i,u,e1,re,h1,hu,z⟩)
   ·exact q.elim
  have fin':out E a (match Ce d G with |some xs=>(match atI xs i with |some v=>.ok v G|none=>.bad)|none=>.bad) Q->rIx X.K x y a.H Q:=λq=>by
   cases hs:Ce d G with
   |none=>rw[hs]at q;exact q.elim
   |some xs=>rw[hs]at q;exact fin hs q
  cases d with
  | str z=>
   unfold An at q;dsimp only at q;split at q
   ·rename_i hl;split at q
    ·rename_i c hc;exact .inr (.inr ⟨z,i,c,rd,re,z0 hl size6,hc,q a _ (Ext.refl a) s rfl⟩)
    ·exact q.elim
   ·exact q.elim
  |tup ys=>exact fin' q
  |fl ys=>exact fin' q
  |ref j=>exact fin' q
  |_=>exact fin' q
 |_=>exact q.elim
def Cp(ds:List D)(G:DH):R D:=match ds with
 |[.str z]=>if z.length<=1000000 then .ok (.int z.length) G else .bad
 |[d]=>match Ce d G with
  |some xs=>.ok (.int xs.length) G
  |none=>.bad
 |_=>.bad
theorem reps1(r:Reps a [d] vs):∃v,vs=[v]/\Rep a d v:=by
 obtain⟨v,r',e,q,z⟩:=r
 cases(show r'=[]from z)
 exact⟨v,e,q⟩
theorem reps2{d':D}(r:Reps a [d,d'] vs):∃v v',vs=[v,v']/\Rep a d v/\Rep a d' v':=by obtain⟨v,r',e,q,z⟩:=r;obtain⟨v',e',q'⟩:=reps1 z;subst e';exact⟨v,v',e,q,q'⟩
theorem Es:CallR X (.builtin "len") (lRn X.K E Cp):=(ZCV.or ZA5).mono λvs H Q h=>by
 obtain⟨a,G,ds,hk,rfl,s,r,q⟩:=h;unfold Cp at q;split at q
 ·rename_i z;split at q
  ·rename_i hl;obtain⟨v,rfl,rv⟩:=reps1 r
   cases(show v=V.str z from rv)
   exact .inr ⟨z,rfl,z0 hl size6,q a _ (Ext.refl a) s rfl⟩
  ·exact q.elim
 ·rename_i d _;split at q
  ·rename_i xs hs;obtain⟨v,rfl,rv⟩:=reps1 r;obtain⟨p,us,rfl,h1,r1⟩:=Ov s rv hs;rw[hk]at h1;exact .inl ⟨p,us,rfl,h1,q a _ (Ext.refl a) s (by rw[<-r1.length];exact rfl)⟩
  ·exact q.elim
 ·exact q.elim
def Ej(ds:List D)(G:DH):R D:=match ds with
 |[d]=>match Ce d G with
  |some xs=>.ok (.tup xs) G
  |none=>.bad
 |_=>.bad
theorem Hr:CallR X (.type "tuple") (lRn X.K E Ej):=ZBI.mono λvs H Q h=>by
 obtain⟨a,G,ds,hk,rfl,s,r,q⟩:=h;unfold Ej at q;split at q
 ·rename_i d;split at q
  ·rename_i xs hs;obtain⟨v,rfl,rv⟩:=reps1 r;obtain⟨p,us,rfl,h1,r1⟩:=Ov s rv hs;refine⟨p,us,rfl,?_⟩;rcases h1 with h1|h1
   ·exact .inl ⟨by rw[<-hk];exact h1,λl hl=>Xx s r1 q l hl⟩
   ·exact .inr ⟨by rw[<-hk];exact h1,q a _ (Ext.refl a) s ⟨p,us,rfl,h1,r1⟩⟩
  ·exact q.elim
 ·exact q.elim
noncomputable def M3(ds:List D)(G:DH):R D:=match ds with
 |[.int i,.int j]=>.ok (.int (if j<i then j else i)) G
 |_=>.bad
theorem ZDJ(hc:X.calm=jU):CallR X (.builtin "min") (lRn X.K E M3):=(ZBH hc).mono λvs H Q h=>by
 obtain⟨a,G,ds,hk,rfl,s,r,q⟩:=h;unfold M3 at q;split at q
 ·obtain⟨v,v',rfl,h1,h2⟩:=reps2 r
  cases(show v=V.int _ from h1)
  cases(show v'=V.int _ from h2)
  exact⟨_,_,rfl,q a _ (Ext.refl a) s rfl⟩
 ·exact q.elim
noncomputable def Gj(o:D)(ds:List D)(G:DH):R D:=match o,ds with
 |.ref i,[d]=>match G[i]? with
  |some (.lst xs)=>if xs.length<1000000 then .ok .non (G.set i (.lst (xs++[d])))else .bad
  |_=>.bad
 |_,_=>.bad
def lRm(K:PySem.W.Frag)(E:XK)(f:D->List D->DH->R D):V->List V->Hp->VK->Prop:=λx xs H Q=>∃(a:Wd)(G:DH)(d:D)(ds:List D),a.K=K/\a.H=H/\Sim a G/\Rep a d x/\Reps a ds xs/\out E a (f d ds G) Q
theorem Sim.isList(s:Sim a G)(h:G[i]?=jS (.lst xs)):∃vs,SqL a.K a.H (a.m i) vs:=let⟨vs,e,_⟩:=s.lst h;⟨vs,.of e⟩
theorem Je:MtM X "list.append" (lRm X.K E Gj):=ZDz.mono λx xs H Q h=>by
 obtain⟨a,G,d,ds,hk,rfl,s,rd,r,q⟩:=h;unfold Gj at q;split at q
 ·rename_i i d;obtain⟨v,rfl,rv⟩:=reps1 r;split at q
  ·rename_i ys hy;split at q
   ·rename_i hl;obtain⟨vs,e1,r1⟩:=s.lst hy;obtain⟨x3,s3⟩:=ZFK s rd.1 e1 (r1.append (Reps.cons rv Reps.nil));refine⟨a.m i,vs,v,rd.2,rfl,e1,by rw[<-r1.length];exact zJ hl size6,?_⟩;exact q _ .non x3 s3 rfl
   ·exact q.elim
  ·exact q.elim
 ·exact q.elim
variable{o e:qO}{es:List qO}{to:DE}{t:DA}{name:Str}{apos cpos:Pos}{T id:String}{f:D->List D->DH->R D}
noncomputable def isL(d:D)(G:DH):Bool:=match d with
 |.ref i=>match G[i]? with
  |some (.lst _)=>jU
  |_=>xQ
 |.fl _=>jU
 |_=>xQ
def Hd(f:D->List D->DH->R D)(o:DE)(t:DA):DE:=λS G=>(o S G).bind λx G1=>if isL x G1=jU then(t S G1).bind λxs G2=>f x xs G2 else .bad
theorem ZDj{x:V}(s:Sim a G)(r:Rep a d x)(h:isL d G=jU):tyV a.K "list" x a.H:=by
 cases d with
 |ref i=>
  unfold isL at h;dsimp only at h;split at h
  ·rename_i xs hx;cases r.2;exact .inl ⟨rfl,s.isList hx⟩
  ·cases h
 |fl xs=>
  obtain⟨p,vs,rfl,q,_⟩:=r;exact .inl ⟨rfl,vs,q.sq⟩
 |_=>cases h
theorem J6(slot:Slot "list" name id)(hty:typeOf (.builtin id)=pure (.type "method_descriptor"))(hm:MtM X id (lRm X.K E f))(ho:QE X E o to)(ha:QA X E (e::es) t)
  (hbase:jV o name X.env (eval o X.env)=eval o X.env:=by rfl)
  (hfew:((jW cpos (j8 (e::es) X.env)).all (λx=> !x.1)&&(backToKw cpos (keywordEach [] X.env)).all (λx=>x.1.isSome)
   && decide ((e::es).length+([]:List Keyword).length+(if([]:List Keyword).isEmpty then 0 else 1)<30))=jU:=by rfl)
  (hline:(apos.endLine==cpos.line)=jU:=by rfl) (hs:j8 (e::es) X.env=(xQ,eval e X.env)::j8 es X.env:=by rfl) (hplain:(jW cpos (j8 es X.env)).any (·.1)=xQ:=by rfl):
  QE X E (.Call (.Attribute o name apos) (e::es) [] cpos) (Hd f to t):=(ZB8 PySem.F.plainAttrs_list slot hty hm ho ha hbase hfew hline hs hplain).mono λσ H Q h=>by
 obtain⟨a,S,G,hk,rfl,s,r,h⟩:=h;refine⟨a,S,G,hk,rfl,s,r,(Ea h).imp ?_⟩;rintro v _ ⟨b,d,G1,rfl,x,s1,q,-,h1⟩;split at h1
 ·rename_i hl;have ty:=ZDj s1 q hl;rw[x.k,hk]at ty;refine⟨ty,b,S,G1,x.k.trans hk,rfl,s1,r.mono x,(Ot h1).imp ?_⟩;rintro vs _ ⟨c,ds,G2,rfl,y,s2,q2,-,h2⟩;exact⟨c,G2,d,ds,y.k.trans (x.k.trans hk),rfl,s2,q.mono y,q2,h2⟩
 ·exact h1.elim
end
inductive Ty where|non|bl|int|str|tup|lst
def tyD(G:DH):D->Option Ty
 |.non=>jS .non
 |.bl _=>jS .bl
 |.int _=>jS .int
 |.str _=>jS .str
 |.tup _=>jS .tup
 |.fl _=>jS .lst
 |.ref i=>match G[i]? with
  |some (.lst _)=>jS .lst
  |_=>jT
 |.ty _=>jT
noncomputable def Ty.sub(t:Ty):String->Option Bool
 |"int"=>jS (match t with | .int=>jU | .bl=>jU|_=>xQ)
 |"bool"=>jS (match t with | .bl=>jU|_=>xQ)
 |"str"=>jS (match t with | .str=>jU|_=>xQ)
 |"tuple"=>jS (match t with | .tup=>jU|_=>xQ)
 |"list"=>jS (match t with | .lst=>jU|_=>xQ)
 |_=>jT
def Fb(ds:List D)(G:DH):R D:=match ds with
 | [d,.ty T]=>match tyD G d with
  |some t=>match t.sub T with
   |some k=>.ok (.bl k) G
   |none=>.bad
  |none=>.bad
 |_=>.bad
section
variable{prog:qS}{w:jJ}{A:qN}{E:jZ->qU->Prop}{s:qU}
theorem I9{x:jZ}{Tx T:String}{Q:jZ->qU->Prop}(hx:s.TypeIs x Tx)(hty:typeOf (.type T)=pure (.type "type"))(hsub:jw (.type Tx) (.type T)=pure jU)(h:Q (.bool jU) s):
  jA (j5 prog w) A (call (.builtin "isinstance") [x,.type T]) Q E s:=jz (isinstance_true hty hsub) ⟨hx,h⟩
end
theorem ty_int:typeOf (.type "int")=pure (.type "type"):=by with_unfolding_all rfl
theorem ty_bool:typeOf (.type "bool")=pure (.type "type"):=by with_unfolding_all rfl
theorem ty_str:typeOf (.type "str")=pure (.type "type"):=by with_unfolding_all rfl
theorem ty_tuple:typeOf (.type "tuple")=pure (.type "type"):=by with_unfolding_all rfl
theorem ty_list:typeOf (.type "list")=pure (.type "type"):=by with_unfolding_all rfl
theorem ZFJ:jw (.type "NoneType") (.type "int")=pure xQ:=by with_unfolding_all rfl
theorem ZDq:jw (.type "NoneType") (.type "bool")=pure xQ:=by with_unfolding_all rfl
theorem ZE6:jw (.type "NoneType") (.type "str")=pure xQ:=by with_unfolding_all rfl
theorem ZEm:jw (.type "NoneType") (.type "tuple")=pure xQ:=by with_unfolding_all rfl
theorem ZCm:jw (.type "NoneType") (.type "list")=pure xQ:=by with_unfolding_all rfl
theorem ZBC:jw (.type "bool") (.type "int")=pure jU:=by with_unfolding_all rfl
theorem ZEo:jw (.type "bool") (.type "bool")=pure jU:=by with_unfolding_all rfl
theorem ZEy:jw (.type "bool") (.type "str")=pure xQ:=by with_unfolding_all rfl
theorem ZEr:jw (.type "bool") (.type "tuple")=pure xQ:=by with_unfolding_all rfl
theorem ZAt:jw (.type "bool") (.type "list")=pure xQ:=by with_unfolding_all rfl
theorem ZD3:jw (.type "int") (.type "int")=pure jU:=by with_unfolding_all rfl
theorem ZDN:jw (.type "int") (.type "bool")=pure xQ:=by with_unfolding_all rfl
theorem ZBF:jw (.type "int") (.type "str")=pure xQ:=by with_unfolding_all rfl
theorem ZE3:jw (.type "int") (.type "tuple")=pure xQ:=by with_unfolding_all rfl
theorem ZC4:jw (.type "int") (.type "list")=pure xQ:=by with_unfolding_all rfl
theorem ZA0:jw (.type "str") (.type "int")=pure xQ:=by with_unfolding_all rfl
theorem ZEn:jw (.type "str") (.type "bool")=pure xQ:=by with_unfolding_all rfl
theorem ZFO:jw (.type "str") (.type "str")=pure jU:=by with_unfolding_all rfl
theorem ZCQ:jw (.type "str") (.type "tuple")=pure xQ:=by with_unfolding_all rfl
theorem ZAc:jw (.type "str") (.type "list")=pure xQ:=by with_unfolding_all rfl
theorem ZEM:jw (.type "tuple") (.type "int")=pure xQ:=by with_unfolding_all rfl
theorem ZD6:jw (.type "tuple") (.type "bool")=pure xQ:=by with_unfolding_all rfl
theorem ZEw:jw (.type "tuple") (.type "str")=pure xQ:=by with_unfolding_all rfl
theorem ZAk:jw (.type "tuple") (.type "tuple")=pure jU:=by with_unfolding_all rfl
theorem ZEV:jw (.type "tuple") (.type "list")=pure xQ:=by with_unfolding_all rfl
theorem Vf:jw (.type "list") (.type "int")=pure xQ:=by with_unfolding_all rfl
theorem Wh:jw (.type "list") (.type "bool")=pure xQ:=by with_unfolding_all rfl
theorem Vh:jw (.type "list") (.type "str")=pure xQ:=by with_unfolding_all rfl
theorem X8:jw (.type "list") (.type "tuple")=pure xQ:=by with_unfolding_all rfl
theorem Xv:jw (.type "list") (.type "list")=pure jU:=by with_unfolding_all rfl
section
variable{X:Cx}{E:XK}
theorem Ks:CallR X (.builtin "isinstance") (lRn X.K E Fb):=by
 intro jR s σ H vs us Q I rs h;obtain⟨a,G,ds,hk,rfl,sm,r,q⟩:=h;unfold Fb at q;split at q
 ·rename_i d T;obtain⟨v,v',rfl,h1,h2⟩:=reps2 r
  cases(show v'=V.ty T from h2)
  obtain⟨u,u',rfl,ru,ru'⟩:∃u u',us=[u,u']/\RelV v u/\RelV (.ty T) u':=by
   cases rs with
   |cons p q=>cases q with
    |cons p' q'=>cases q';exact⟨_,_,rfl,p,p'⟩
  cases(show u'=Value.type T from ru')
  split at q
  ·rename_i t ht;split at q
   ·rename_i k hk';have fin:∀{n:Nat},EP X jR σ Q (.bool k) {s with toks:=n}:=λ{n}=>⟨.bl k,a.H,I.tok _,rfl,q a _ (Ext.refl a) sm rfl⟩
    have fin0:EP X jR σ Q (.bool k) s:=⟨.bl k,a.H,I,rfl,q a _ (Ext.refl a) sm rfl⟩;unfold Ty.sub at hk';split at hk'
    ·cases d with
     |non=>
      cases ht;cases hk'
      cases(show v=_ from h1)
      cases ru;exact jz (j0 (by decide) ty_int ZFJ) fin
     |bl b=>
      cases ht;cases hk'
      cases(show v=_ from h1)
      cases ru;exact I9 (Tx:="bool") rfl ty_int ZBC fin0
     |int b=>
      cases ht;cases hk'
      cases(show v=_ from h1)
      obtain⟨tk,rfl⟩:=ru;exact I9 (Tx:="int") (typeIs_int s _ _) ty_int ZD3 fin0
     |str b=>
      cases ht;cases hk'
      cases(show v=_ from h1)
      obtain⟨tk,rfl⟩:=ru;exact jz (j1 (by decide) ty_int ZA0) fin
     |tup b=>
      cases ht;cases hk';obtain⟨p,ws,rfl,hq,_⟩:=h1;cases ru;rw[hk]at hq;obtain⟨its,_,pl,_⟩:=I.tuple hq;exact jz (j2 (by decide) ty_int ZEM) ⟨(let⟨o,e,c,_⟩:=pl;⟨o,e,c⟩),fin⟩
     |fl b=>
      cases ht;cases hk';obtain⟨p,ws,rfl,hq,_⟩:=h1;cases ru;have hq:=hq.sq;rw[hk]at hq;obtain⟨its,_,pl,_⟩:=I.list hq;exact jz (jy (by decide) ty_int Vf) ⟨(let⟨o,e,c,_⟩:=pl.isList;⟨o,e,c⟩),fin⟩
     |ref b=>
      unfold tyD at ht;dsimp only at ht;split at ht
      ·rename_i xs hx;cases ht;cases hk';obtain⟨ws,e1,_⟩:=sm.lst hx;cases h1.2;cases ru;obtain⟨its,_,pl,_⟩:=I.list (.of e1);exact jz (jy (by decide) ty_int Vf) ⟨(let⟨o,e,c,_⟩:=pl.isList;⟨o,e,c⟩),fin⟩
      ·cases ht
     |ty n=>cases ht
    ·cases d with
     |non=>
      cases ht;cases hk'
      cases(show v=_ from h1)
      cases ru;exact jz (j0 (by decide) ty_bool ZDq) fin
     |bl b=>
      cases ht;cases hk'
      cases(show v=_ from h1)
      cases ru;exact I9 (Tx:="bool") rfl ty_bool ZEo fin0
     |int b=>
      cases ht;cases hk'
      cases(show v=_ from h1)
      obtain⟨tk,rfl⟩:=ru;exact jz (jk (by decide) ty_bool ZDN) fin
     |str b=>
      cases ht;cases hk'
      cases(show v=_ from h1)
      obtain⟨tk,rfl⟩:=ru;exact jz (j1 (by decide) ty_bool ZEn) fin
     |tup b=>
      cases ht;cases hk';obtain⟨p,ws,rfl,hq,_⟩:=h1;cases ru;rw[hk]at hq;obtain⟨its,_,pl,_⟩:=I.tuple hq;exact jz (j2 (by decide) ty_bool ZD6) ⟨(let⟨o,e,c,_⟩:=pl;⟨o,e,c⟩),fin⟩
     |fl b=>
      cases ht;cases hk';obtain⟨p,ws,rfl,hq,_⟩:=h1;cases ru;have hq:=hq.sq;rw[hk]at hq;obtain⟨its,_,pl,_⟩:=I.list hq;exact jz (jy (by decide) ty_bool Wh) ⟨(let⟨o,e,c,_⟩:=pl.isList;⟨o,e,c⟩),fin⟩
     |ref b=>
      unfold tyD at ht;dsimp only at ht;split at ht
      ·rename_i xs hx;cases ht;cases hk';obtain⟨ws,e1,_⟩:=sm.lst hx;cases h1.2;cases ru;obtain⟨its,_,pl,_⟩:=I.list (.of e1);exact jz (jy (by decide) ty_bool Wh) ⟨(let⟨o,e,c,_⟩:=pl.isList;⟨o,e,c⟩),fin⟩
      ·cases ht
     |ty n=>cases ht
    ·cases d with
     |non=>
      cases ht;cases hk'
      cases(show v=_ from h1)
      cases ru;exact jz (j0 (by decide) ty_str ZE6) fin
     |bl b=>
      cases ht;cases hk'
      cases(show v=_ from h1)
      cases ru;exact jz (isinstance_false_bool (by decide) ty_str ZEy) fin
     |int b=>
      cases ht;cases hk'
      cases(show v=_ from h1)
      obtain⟨tk,rfl⟩:=ru;exact jz (jk (by decide) ty_str ZBF) fin
     |str b=>
      cases ht;cases hk'
      cases(show v=_ from h1)
      obtain⟨tk,rfl⟩:=ru;exact I9 (Tx:="str") (typeIs_str s _ _) ty_str ZFO fin0
     |tup b=>
      cases ht;cases hk';obtain⟨p,ws,rfl,hq,_⟩:=h1;cases ru;rw[hk]at hq;obtain⟨its,_,pl,_⟩:=I.tuple hq;exact jz (j2 (by decide) ty_str ZEw) ⟨(let⟨o,e,c,_⟩:=pl;⟨o,e,c⟩),fin⟩
     |fl b=>
      cases ht;cases hk';obtain⟨p,ws,rfl,hq,_⟩:=h1;cases ru;have hq:=hq.sq;rw[hk]at hq;obtain⟨its,_,pl,_⟩:=I.list hq;exact jz (jy (by decide) ty_str Vh) ⟨(let⟨o,e,c,_⟩:=pl.isList;⟨o,e,c⟩),fin⟩
     |ref b=>
      unfold tyD at ht;dsimp only at ht;split at ht
      ·rename_i xs hx;cases ht;cases hk';obtain⟨ws,e1,_⟩:=sm.lst hx;cases h1.2;cases ru;obtain⟨its,_,pl,_⟩:=I.list (.of e1);exact jz (jy (by decide) ty_str Vh) ⟨(let⟨o,e,c,_⟩:=pl.isList;⟨o,e,c⟩),fin⟩
      ·cases ht
     |ty n=>cases ht
    ·cases d with
     |non=>
      cases ht;cases hk'
      cases(show v=_ from h1)
      cases ru;exact jz (j0 (by decide) ty_tuple ZEm) fin
     |bl b=>
      cases ht;cases hk'
      cases(show v=_ from h1)
      cases ru;exact jz (isinstance_false_bool (by decide) ty_tuple ZEr) fin
     |int b=>
      cases ht;cases hk'
      cases(show v=_ from h1)
      obtain⟨tk,rfl⟩:=ru;exact jz (jk (by decide) ty_tuple ZE3) fin
     |str b=>
      cases ht;cases hk'
      cases(show v=_ from h1)
      obtain⟨tk,rfl⟩:=ru;exact jz (j1 (by decide) ty_tuple ZCQ) fin
     |tup b=>
      cases ht;cases hk';obtain⟨p,ws,rfl,hq,_⟩:=h1;cases ru;rw[hk]at hq;obtain⟨its,_,pl,_⟩:=I.tuple hq;exact I9 (Tx:="tuple") pl.typeIs ty_tuple ZAk fin0
     |fl b=>
      cases ht;cases hk';obtain⟨p,ws,rfl,hq,_⟩:=h1;cases ru;have hq:=hq.sq;rw[hk]at hq;obtain⟨its,_,pl,_⟩:=I.list hq;exact jz (jy (by decide) ty_tuple X8) ⟨(let⟨o,e,c,_⟩:=pl.isList;⟨o,e,c⟩),fin⟩
     |ref b=>
      unfold tyD at ht;dsimp only at ht;split at ht
      ·rename_i xs hx;cases ht;cases hk';obtain⟨ws,e1,_⟩:=sm.lst hx;cases h1.2;cases ru;obtain⟨its,_,pl,_⟩:=I.list (.of e1);exact jz (jy (by decide) ty_tuple X8) ⟨(let⟨o,e,c,_⟩:=pl.isList;⟨o,e,c⟩),fin⟩
      ·cases ht
     |ty n=>cases ht
    ·cases d with
     |non=>
      cases ht;cases hk'
      cases(show v=_ from h1)
      cases ru;exact jz (j0 (by decide) ty_list ZCm) fin
     |bl b=>
      cases ht;cases hk'
      cases(show v=_ from h1)
      cases ru;exact jz (isinstance_false_bool (by decide) ty_list ZAt) fin
     |int b=>
      cases ht;cases hk'
      cases(show v=_ from h1)
      obtain⟨tk,rfl⟩:=ru;exact jz (jk (by decide) ty_list ZC4) fin
     |str b=>
      cases ht;cases hk'
      cases(show v=_ from h1)
      obtain⟨tk,rfl⟩:=ru;exact jz (j1 (by decide) ty_list ZAc) fin
     |tup b=>
      cases ht;cases hk';obtain⟨p,ws,rfl,hq,_⟩:=h1;cases ru;rw[hk]at hq;obtain⟨its,_,pl,_⟩:=I.tuple hq;exact jz (j2 (by decide) ty_list ZEV) ⟨(let⟨o,e,c,_⟩:=pl;⟨o,e,c⟩),fin⟩
     |fl b=>
      cases ht;cases hk';obtain⟨p,ws,rfl,hq,_⟩:=h1;cases ru;have hq:=hq.sq;rw[hk]at hq;obtain⟨its,_,pl,_⟩:=I.list hq;exact I9 (Tx:="list") pl.isList.typeIs ty_list Xv fin0
     |ref b=>
      unfold tyD at ht;dsimp only at ht;split at ht
      ·rename_i xs hx;cases ht;cases hk';obtain⟨ws,e1,_⟩:=sm.lst hx;cases h1.2;cases ru;obtain⟨its,_,pl,_⟩:=I.list (.of e1);exact I9 (Tx:="list") pl.isList.typeIs ty_list Xv fin0
      ·cases ht
     |ty n=>cases ht
    ·cases hk'
   ·exact q.elim
  ·exact q.elim
 ·exact q.elim
end
noncomputable def Eg:List D->Option (List Int)
 |[]=>jS []
 |.int i::r=>(Eg r).map (i::·)
 |_=>jT
@[simp]theorem ZDR(ns:List Int):Eg (ns.map D.int)=jS ns:=by
 induction ns with
 |nil=>rfl
 |cons n ns ih=>simp[Eg,ih]
theorem Yd:∀{xs:List D}{ns:List Int},Eg xs=jS ns->xs=ns.map D.int
 |[],ns,h=>by cases h;rfl
 |.int i::r,ns,h=>by simp only[Eg,zk]at h;obtain⟨ms,h1,rfl⟩:=h;rw[zI,Yd h1]
 |.non::r,ns,h=>by simp[Eg]at h
 |.bl _::r,ns,h=>by simp[Eg]at h
 |.str _::r,ns,h=>by simp[Eg]at h
 |.ty _::r,ns,h=>by simp[Eg]at h
 |.tup _::r,ns,h=>by simp[Eg]at h
 |.fl _::r,ns,h=>by simp[Eg]at h
 |.ref _::r,ns,h=>by simp[Eg]at h
section
variable{X:Cx}{E:XK}{jR:List (qM×Obj)}{σ:St}{s:qU}{H:Hp}
theorem ZAF(I:Inv X jR σ H s)(hc:X.calm=jU)(h:SqL X.K H p vs∨SqT X.K H p vs){E':jZ->qU->Prop}{Q:jZ->qU->Prop}
  (hQ:∀(it:qM)(fp wr:List qM)(its:List jZ)(St:Nat->Heap->Prop)(s₂:qU),Vals vs its->Walks X.prog X.w X.A.in1 it fp wr its.toArray.size (λi v=>its.toArray[i]?=jS v) St->St 0 s₂.heap->(∀b∈fp,b<s₂.heap.objs.size)->
   (∀h' tk,(∀b o,b∉wr->s₂.heap.get? b=jS o->h'.get? b=jS o)->Inv X jR σ H {s₂ with heap:=h',toks:=tk})->Q (.ref it) s₂):
  jA (j5 X.prog X.w) X.A.in1 (pyIter (.ref p)) Q E' s:=by
 have hh:X.A.in1.handled=jT:=I.ok.hd hc;rcases h with h|h
 ·obtain⟨its,r,pl,hz⟩:=I.list h;refine wpAny_pyIter_list pl.isList ?_;have hp:p<s.heap.objs.size:=by obtain⟨o,e,_⟩:=pl.isList;exact zX e
  refine hQ _ _ _ its _ _ r (Walks.list hh _ p (zA hp) its.toArray) ⟨⟨_,zj _ rfl,rfl,rfl⟩,?_⟩ (λb hb=>?_) λh' tk kk=>?_
  ·obtain⟨o,e,c⟩:=pl.isList;exact⟨o,zZ _ e,c⟩
  ·show b<(s.heap.push _).objs.size;rw[qj];rcases zw.mp hb with rfl|hb
   ·exact zN _
   ·have e:b=p:=by simpa using hb
    subst e;exact Nat.lt_succ_of_lt hp
  ·refine I.kept λb o e=>kk b o (λhb=>?_) (zZ _ e)
   have e2:b=s.heap.objs.size:=by simpa using hb
   subst e2;exact absurd (zX e) (zB _)
 ·obtain⟨its,r,pl,hz⟩:=I.tuple h
  refine wpAny_pyIter_tuple (show s.heap.IsTuple p its.toArray from pl) ?_
  have hp:p<s.heap.objs.size:=by obtain⟨o,e,_⟩:=pl;exact zX e
  refine hQ _ _ _ its _ _ r (Walks.tuple hh _ p (zA hp) its.toArray) ⟨⟨_,zj _ rfl,rfl,rfl⟩,?_⟩ (λb hb=>?_) λh' tk kk=>?_
  ·obtain⟨o,e,c⟩:=pl;exact⟨o,zZ _ e,c⟩
  ·show b<(s.heap.push _).objs.size;rw[qj];rcases zw.mp hb with rfl|hb
   ·exact zN _
   ·have e:b=p:=by simpa using hb
    subst e;exact Nat.lt_succ_of_lt hp
  ·refine I.kept λb o e=>kk b o (λhb=>?_) (zZ _ e)
   have e2:b=s.heap.objs.size:=by simpa using hb
   subst e2;exact absurd (zX e) (zB _)
theorem Vi:∀{ns:List Int}{vs:List V},Reps a (ns.map D.int) vs->vs=ns.map V.int
 |[],vs,h=>h
 |n::ns,vs,h=>by
  obtain⟨v,r,e,h1,h2⟩:=h
  cases(show v=V.int n from h1)
  rw[e,Vi h2]
  rfl
end
section
variable{X:Cx}{jR:List (qM×Obj)}{σ:St}{H:Hp}{s:qU}
theorem Xj{a:qM}{o:HO}(I:Inv X jR σ H s)(hn:H a=jT)(hy:X.s₀.heap.objs.size<=a)(hL:a≠X.env.locals)(hc:∀x c,X.env.cells.lookup x=jS c->c≠a)(hp:∀p∈X.pn++jR,p.1≠a)
  (new:ObjOk X.prog X.w (upd H a o) s.heap a o):Inv X jR σ (upd H a o) s:=by
 have ne:∀b u,H b=jS u->b≠a:=λb u e z=>by rw[z,hn]at e;cases e
 refine⟨I.ok,I.os,I.bare,⟨I.base.keep,I.base.slot,λb ob q n hx=>?_,I.base.there,λb xs q=>?_,λb ob u q=>?_,λb ps q=>?_⟩,I.loc,I.cell,?_,λx c e=>?_,λp hp'=>?_,λb u e=>?_,I.len⟩
 ·rw[Aq (zA (zJ (zX q) hy))];exact I.base.free b ob q n hx
 ·have:=I.base.tups b xs q;rw[Aq (ne _ _ this)];exact this
 ·have:=I.base.frzs b ob u q;rw[Aq (ne _ _ this)];exact this
 ·obtain⟨more,this⟩:=I.base.tbls b ps q;exact⟨more,by rw[Aq (ne _ _ this)];exact this⟩
 ·rw[Aq (Ne.symm hL)];exact I.free
 ·rw[Aq (hc x c e)];exact I.Dz x c e
 ·obtain⟨e1,e2,e3⟩:=I.pin p hp';exact⟨e1,by rw[Aq (hp p hp')];exact e2,e3⟩
 ·by_cases hb:b=a
  ·subst hb;rw[Eh]at e;cases e;exact new
  ·rw[Aq hb]at e;exact(I.hok b u e).stay (λ_ _ _ q=>q) (λc q=>by rw[Aq (ne _ _ q)];exact q) λc xs q=>by rw[Aq (ne _ _ q)];exact q
end
noncomputable def Cy(env:Env):List (Str×qR)->List (Str×qM)->List (Str×qM)
 |[],cs=>cs
 |(n,k)::r,cs=>if(k==NameKind.free)=jU then Cy env r ((n,(env.cells.lookup n).getD 0)::cs)else Cy env r cs
theorem Vz(h:∀y∈scope.names,y.2=.free->∃c,env.cells.lookup y.1=jS c):closureFor scope env=pure (Cy env scope.names []):=by
 unfold closureFor;obtain⟨kind,names,g1,g2⟩:=scope;have key:∀(names:List (Str×qR))(cs:List (Str×qM)),(∀y∈names,y.2=.free->∃c,env.cells.lookup y.1=jS c)->
   (forIn names cs (λx r=>match x with
    |(name,kind)=>if(kind==NameKind.free)=jU then(do let c<-cellOf env name;pure (ForInStep.yield ((name,c)::r)))else pure (ForInStep.yield r)):Sem (List (Str×qM)))=pure (Cy env names cs):=by
  intro names
  induction names with
  |nil=>intro cs _;rfl
  | cons y r ih=>
   intro cs hy;obtain⟨n,k⟩:=y;rw[List.forIn_cons];by_cases hk:(k==NameKind.free)=jU
   ·obtain⟨c,hc⟩:=hy (n,k) zE (by simpa using hk)
    have e1:cellOf env n=pure c:=by unfold cellOf;rw[show env.cells.lookup n=jS c from hc]
    have e2:Cy env ((n,k)::r) cs=Cy env r ((n,c)::cs):=by rw[Cy,if_pos hk,show env.cells.lookup n=jS c from hc];rfl
    rw[e2,<-ih ((n,c)::cs) λy' hy'=>hy y' (zY _ hy')];simp only[hk,if_true,e1]
    rfl
   ·have e2:Cy env ((n,k)::r) cs=Cy env r cs:=by rw[Cy,if_neg hk]
    rw[e2,<-ih cs λy' hy'=>hy y' (zY _ hy')];simp only[hk]
    rfl
 have:=key names [] h;exact congrArg (λm:Sem (List (Str×qM))=>m >>=λr=>pure r) this
theorem Ss:∀{names:List (Str×qR)}{cs:List (Str×qM)},(∀y∈names,y.2=.free->∃c,env.cells.lookup y.1=jS c)->(∀p∈cs,env.cells.lookup p.1=jS p.2)->∀p∈Cy env names cs,env.cells.lookup p.1=jS p.2
 |[],cs,_,hc,p,hp=>hc p hp
 | (n,k)::r,cs,hn,hc,p,hp=>by
  rw[Cy]at hp;split at hp
  ·rename_i hk;obtain⟨c,e⟩:=hn (n,k) zE (by simpa using hk);refine Ss (λy hy=>hn y (zY _ hy)) (λq hq=>?_) p hp;rcases zw.mp hq with rfl|hq
   ·rw[show env.cells.lookup n=jS c from e];rfl
   ·exact hc q hq
  ·exact Ss (λy hy=>hn y (zY _ hy)) hc p hp
theorem Og:∀{names:List (Str×qR)}{cs:List (Str×qM)},((x,.free)∈names∨∃c,(x,c)∈cs)->∃c,(x,c)∈Cy env names cs
 |[],cs,h=>by
  rcases h with h|h
  ·cases h
  ·exact h
 | (n,k)::r,cs,h=>by
  rw[Cy];split
  ·refine Og ?_;rcases h with h|⟨c,h⟩
   ·rcases zw.mp h with e|h
    ·cases e;exact .inr ⟨_,zE⟩
    ·exact .inl h
   ·exact .inr ⟨c,zY _ h⟩
  ·rename_i hk;refine Og ?_;rcases h with h|h
   ·rcases zw.mp h with e|h
    ·cases e;exact absurd rfl hk
    ·exact .inl h
   ·exact .inr h
theorem Us{c:qM}:∀{l:List (Str×qM)},(x,c)∈l->∃d,l.lookup x=jS d
 |[],h=>by cases h
 | (y,d)::l,h=>by
  by_cases e:x=y
  ·subst e;exact⟨d,by simp⟩
  ·rcases zw.mp h with z|h
   ·cases z;exact absurd rfl e
   ·obtain⟨d',q⟩:=Us h;exact⟨d',by rw[qZ,beq_eq_false_iff_ne.mpr e];exact q⟩
theorem Z8(x:Str):(relabel scope env).names.lookup x=(scope.names.lookup x).map λk=>if(k==NameKind.free&&env.scope.kind == .function&&env.kindOf x==jS .cell)=jU then .cell else k:=by
 unfold relabel;generalize scope.names=l
 induction l with
 |nil=>rfl
 | cons y r ih=>
  obtain⟨n,k⟩:=y;by_cases e:x=n
  ·subst e;simp only[zI]
   cases hc:(k==NameKind.free&&env.scope.kind==ScopeKind.function&&env.kindOf x==jS NameKind.cell) <;>
    simp only[hc,if_true,qZ,beq_self_eq_true,Option.map_some,Bool.false_eq_true,if_false]
  ·have hb:(x==n)=xQ:=beq_eq_false_iff_ne.mpr e;simp only[zI];split
   ·rw[qZ,qZ,hb];exact ih
   ·rw[qZ,qZ,hb];exact ih
def blk(X:Cx)(N:List Str)(scope:qT)(C:qM)(s₀:qU)(H₀:Hp)(ex:List qM):Cx where
 prog:=X.prog
 w:=X.w
 K:=X.K
 mg:=X.mg
 base:=X.base
 A:=X.A
 N:=N
 s₀:=s₀
 H₀:=H₀
 env:=compEnvC scope (Cy X.env scope.names []) C X.env
 outer:=X.stack
 stack:=X.stack
 ex:=ex
 fn:=λ_=>xQ
 calm:=X.calm
 pn:=[]
 xe:=λ_ _=>False
structure CompSc (X:Cx) (N:List Str) (scope:qT) (nt:Nat) (caps:List Nat):Prop where
 kind:scope.kind=.function
 names:∀y∈scope.names,y.2=.local->scope.names.lookup y.1=jS .local
 nocell:∀y∈scope.names,y.2≠ .cell
 free:∀y∈scope.names,y.2=.free->X.env.kindOf y.1=jS .cell∨X.env.kindOf y.1=jS .free
 nd:N.Nodup
 len:N.length=nt+caps.length
 cap:∀(k j:Nat),caps[k]?=jS j->∃x,X.N[j]?=jS x/\N[nt+k]?=jS x/\scope.names.lookup x=jS .free
section
variable{X:Cx}{jR:List (qM×Obj)}{σ:St}{H:Hp}{s:qU}{N:List Str}{scope:qT}{nt:Nat}{caps:List Nat}
theorem CompSc.cells(c:CompSc X N scope nt caps)(ok:X.Ok):∀y∈scope.names,y.2=.free->∃c,X.env.cells.lookup y.1=jS c:=λy hy hk=>ok.has y.1 (c.free y hy hk)
theorem CompSc.cl(c:CompSc X N scope nt caps)(ok:X.Ok){d:qM}(h:(Cy X.env scope.names []).lookup x=jS d):X.env.cells.lookup x=jS d:=
 Ss (c.cells ok) (λp hp=>by cases hp) (x,d) (PySem.mem_of_lookup h)
theorem ZFH(c:CompSc X N scope nt caps)(I:Inv X jR σ H s){fp:List qM}(hf:∀b∈fp,FpOk X jR H b){C:qM}(hC:s.heap.objs.size<=C)(hCf:C∉fp):(blk X N scope C s H fp).Ok where
 mod:=I.ok.mod
 kind:=c.kind
 glob:=I.ok.glob
 blt:=I.ok.blt
 above:=hC
 inj:=λx y d h1 h2=>I.ok.inj x y d (c.cl I.ok h1) (c.cl I.ok h2)
 has:=λx h=>by
  have h':(relabel scope X.env).names.lookup x=jS .cell∨(relabel scope X.env).names.lookup x=jS .free:=h;rw[Z8]at h';have hfree:scope.names.lookup x=jS .free:=by
   cases e:scope.names.lookup x with
   |none=>rw[e]at h';rcases h' with h'|h'<;>cases h'
   |some k=>
    rw[e]at h';cases k with
    |free=>rfl
    |cell=>exact absurd rfl (c.nocell _ (PySem.mem_of_lookup e))
    |_=>rcases h' with h'|h'<;>(simp at h')
  obtain⟨d,hd⟩:=Og (env:=X.env) (x:=x) (names:=scope.names) (cs:=[]) (.inl (PySem.mem_of_lookup hfree));exact Us hd
 cab:=λx d h=>by cases h
 hd:=I.ok.hd
 frames:=I.ok.frames
 stk:=.inl rfl
 exf:=λb hb=>⟨λz=>hCf (by rw[<-show b=C from z];exact hb),λx d h=>(hf b hb).2.2.2.2.1 x d (c.cl I.ok h)⟩
 bs:=I.bs
 bsz:=z0 I.ok.bsz I.sz
 noex:=λb o e hb=>by
  rcases(hf b hb).2.2.2.1 with h|h
  ·exact I.ok.noex b o e h
  ·exact absurd (zJ (zX (I.ok.bs b o e).1) h) (zB _)
 exfs:=λb hb hz=>by
  rcases zw.mp (I.Mm b hz)with z|z
  ·exact(hf b hb).2.1 z
  ·exact(hf b hb).2.2.1 z
 funs:=I.stack
 frf:=I.Ou
end
def Ck(g:DG)(c:DB)(te:DE)(S:DSt):List D->DH->R (List D)
 |[],G=>.ok [] G
 | x::xs,G=>(g x S G).bind λS1 G1=>(c S1 G1).bind λk G2=>
   if k=jU then(te S1 G2).bind λd G3=>(Ck g c te S xs G3).bind λds G4=>.ok (d::ds) G4 else Ck g c te S xs G2
def Gh(i:Nat)(g:DG)(c:DB)(te:DE)(S:DSt):Nat->Nat->DH->R (List D)
 |0,j,G=>match G[i]? with
  |some (.lst xs)=>if xs.length<=j then .ok [] G else .bad
  |_=>.bad
 | n + 1,j,G=>match G[i]? with
  |some (.lst xs)=>match xs[j]? with
   | some x=>(g x S G).bind λS1 G1=>(c S1 G1).bind λk G2=>
     if k=jU then(te S1 G2).bind λd G3=>(Gh i g c te S n (j+1) G3).bind λds G4=>.ok (d::ds) G4 else Gh i g c te S n (j+1) G2
   |none=>.ok [] G
  |_=>.bad
def Dg(f:Nat->DH->Option (Option D))(g:DG)(c:DB)(te:DE)(S:DSt):Nat->Nat->DH->R (List D)
 |0,j,G=>match f j G with
  |some jT=>.ok [] G
  |_=>.bad
 | n + 1,j,G=>match f j G with
  |some (jS x)=>(g x S G).bind λS1 G1=>(c S1 G1).bind λk G2=>
     if k=jU then(te S1 G2).bind λd G3=>(Dg f g c te S n (j+1) G3).bind λds G4=>.ok (d::ds) G4 else Dg f g c te S n (j+1) G2
  |some jT=>.ok [] G
  |none=>.bad
noncomputable def Bh(nt:Nat)(caps:List Nat)(S:DSt):DSt:=zQ nt jT++caps.map λj=>(S[j]?).join
def Gi(it:DI)(nt:Nat)(caps:List Nat)(g:DG)(c:DB)(te:DE):DE:=λS G=>(it S G).bind λJ G1=>(match J with
 |.pure xs=>Ck g c te (Bh nt caps S) xs G1
 |.mt i=>match G1[i]? with
  |some (.lst xs)=>Gh i g c te (Bh nt caps S) xs.length 0 G1
  |_=>.bad
 |.fn n f=>Dg f g c te (Bh nt caps S) n 0 G1).bind Ay
noncomputable def Dc:DB:=λ_ G=>.ok jU G
def GK(nt:Nat)(g:DG):Prop:=∀d S G S1 G1,g d S G=.ok S1 G1->∀i e,nt<=i->S[i]?=jS (jS e)->S1[i]?=jS (jS e)
theorem Jo{nt:Nat}(h:i<nt):GK nt (gV i):=λd S G S1 G1 e j x hj hx=>by cases e;rw[qw (by lia)];exact hx
theorem ZDG{r:R DSt}{f:DSt->DH->R D}(h:out E a (r.bind f) Q):
  Dw E a r (λσ H=>∃(b:Wd)(S:DSt)(G:DH),b.H=H/\Ext a b/\Sim b G/\RepS b S σ/\r=.ok S G/\out E b (f S G) Q):=by
 cases r with
 |ok d G=>exact λb v x s q=>⟨b,d,G,rfl,x,s,q,rfl,out.mono x h⟩
 |err e G=>exact h
 |bad=>exact h
theorem R.bind_assoc{γ:Type}(r:R α)(f:α->DH->R β)(g:β->DH->R γ):(r.bind f).bind g=r.bind λa G=>(f a G).bind g:=by cases r<;>rfl
theorem Vw{r:R ItD}{f:ItD->DH->R D}(h:out E a (r.bind f) Q):
  outI E a r (λJ H=>∃(b:Wd)(d:ItD)(G:DH),b.H=H/\Ext a b/\Sim b G/\RepI b d J/\r=.ok d G/\out E b (f d G) Q):=by
 cases r with
 |ok d G=>exact λb v x s q=>⟨b,d,G,rfl,x,s,q,rfl,out.mono x h⟩
 |err e G=>exact h
 |bad=>exact h
section
variable{prog:qS}{w:jJ}{A:qN}{R':Result->qU->Prop}{s:qU}
theorem ZE1{elt target iter:qO}{ifs:List qO}{scope:qT}{pos:Pos}{it acc:jZ}{env:Env}(I:Nat->qU->Prop)
  (turn:∀n s,I n s->jA (j5 prog w) A (pyNext it) (λr s₁=>match r with
   |none=>R' (.ok .next) s₁
   | some v=>jA (j5 prog w) A (j3 target it v) (λ_ s₁=>jA (j5 prog w) A (assign target env v) (λ_ s₂=>
     jA (j5 prog w) A (forIn ifs jU λc r=>if r=jU then do let ok<-isTrue c env (eval c env);pure (ForInStep.yield ok)else pure (ForInStep.yield r)) (λok s₃=>
      if ok=jU then jA (j5 prog w) A (eval elt env) (λx s₄=>
       jA (j5 prog w) A (call (.builtin "list.append") [acc,x]) (λ_ s₅=>∃m,m<n/\I m s₅) (λ_ _=>False) s₄) (λ_ _=>False) s₃
      else∃m,m<n/\I m s₃) (λ_ _=>False) s₂) (λ_ _=>False) s₁) (λ_ _=>False) s₁) (λ_ _=>False) s)
  (n:Nat) (h:I n s):
  codeAny (j5 prog w) A (.compLoop (.ListComp elt [⟨target,iter,ifs,0⟩] scope pos) 0 it acc env) R' s:=by
 refine codeAny_loop rfl I (λn s hI=>?_) n h
 show jA _ A ((compTurn (.ListComp elt [⟨target,iter,ifs,0⟩] scope pos) 0 it acc env).onRaise (λx=>do noteFrame x env;theTreesLotGoes x)) _ _ s
 refine wpAny_noted ?_;rw[compTurn_list];refine jG ?_ (λ_ _ q=>q) (λ_ _(f:False)=>f.elim);refine jC (wpAny_standAt (jC (jG (turn n s hI) (λr s₁ h₁=>?_) λ_ _ h'=>h')));cases r with
 |none=>exact jL h₁
 | some v=>
  refine jC (jG h₁ (λ_ s₂' h₁=>?_) λ_ _ h'=>h');refine jC (jG h₁ (λ_ s₂ h₂=>jC (jG h₂ (λok s₃ h₃=>?_) λ_ _ h'=>h')) λ_ _ h'=>h');cases ok with
  |false=>exact jL ⟨rfl,h₃⟩
  |true=>
   exact jC (jC (jG h₃ (λx s₄ h₄=>jC (jG h₄ (λ_ s₅ h₅=>jL (jL ⟨rfl,h₅⟩)) λ_ _ h'=>h')) λ_ _ h'=>h'))
end
def QTs(X:Cx)(E:XK)(ifs:List qO)(t:DB):Prop:=
 ∀(jR:List (qM×Obj))(s:qU)(σ:St)(H:Hp)(Q:Bool->Hp->Prop),Inv X jR σ H s->lB X.K E t σ H Q->
  jA (j5 X.prog X.w) X.A (forIn ifs jU λc r=>if r=jU then do let ok<-isTrue c X.env (eval c X.env);pure (ForInStep.yield ok)else pure (ForInStep.yield r)) (TP X jR σ Q) X.xe s
theorem J1:QTs X E [] Dc:=λjR s σ H Q I h=>by obtain⟨a,S,G,hk,rfl,sm,r,h⟩:=h;exact wpAny_tests_nil ⟨a.H,I,h a (Ext.refl a) sm⟩
section
variable{X:Cx}{E:XK}{N:List Str}{scope:qT}{nt:Nat}{caps:List Nat}{tg elt iter:qO}{ifs:List qO}{pos:Pos}{it:DI}{g:DG}{c:DB}{te:DE}
theorem ZC2(r:RepS a S σ):RepS a (Bh nt caps S) (zQ nt jT++caps.map λj=>(σ[j]?).join):=by
 refine⟨by simp[Bh],λi d h=>?_⟩;unfold Bh at h;by_cases hi:i<nt
 ·rw[zD (by simpa using hi),zU]at h
  split at h<;>cases h
 ·rw [zy (by simpa using hi),z5]at h;rw[zy (by simpa using hi),z5];rw[zP]at h⊢;cases e:caps[i-nt]? with
  |none=>rw[e]at h;cases h
  | some j=>
   rw[e]at h;have h1:(S[j]?).join=jS d:=by simpa using h
   have h2:S[j]?=jS (jS d):=by
    cases q:S[j]? with
    |none=>rw[q]at h1;cases h1
    |some o=>
     rw[q]at h1;have h1':o=jS d:=h1;rw[h1']
   obtain⟨v,ev,rv⟩:=r.get j d h2;exact⟨v,by simp[ev],rv⟩
theorem ZFE(h:(Bh nt caps S)[i]?=jS (jS d)):nt<=i:=by
 unfold Bh at h;by_cases hi:i<nt
 ·rw[zD (by simpa using hi),zU]at h
  split at h<;>cases h
 ·lia
theorem Ue (hc:X.calm=jU) (cs:CompSc X N scope nt caps)
  (hg:∀C s₀ H₀ ex,QG (blk X N scope C s₀ H₀ ex) E0 tg g) (gk:GK nt g) (hts:∀C s₀ H₀ ex,QTs (blk X N scope C s₀ H₀ ex) E0 ifs c) (he:∀C s₀ H₀ ex,QE (blk X N scope C s₀ H₀ ex) E0 elt te)
  {jR:List (qM×Obj)} {σ:St} {s:qU} {a:Wd} {S:DSt} {G:DH} {J:It} {n0:Nat} {f:Nat->DH->Option (Option D)} {i0:qM} {fp:List qM} {tn:Nat->Heap->Prop} (I:Inv X jR σ a.H s) (hk:a.K=X.K) (sm:Sim a G) (rS:RepS a S σ)
  (T:Turn X.prog X.w X.K tg J fp i0 tn) (t0:tn 0 s.heap) (hf:∀b∈fp,FpOk X jR a.H b) (rJ:RepI a (.fn n0 f) J) {Q:VK}
  (h:out E0 a ((Dg f g c te (Bh nt caps S) n0 0 G).bind Ay) Q)
  {RR:jZ->qM->Result->qU->Prop} {E':jZ->qU->Prop}
  (hRR:∀(D C:qM)(s':qU)(b:Wd)(vs:List V),Inv X jR σ (upd b.H D (.lst vs)) s'->b.H D=jT->s.heap.objs.size<=C->D≠C->(∃m,s'.heap.Ns C m)->b.H C=jT->Q (.ref D) (upd b.H D (.lst vs))->RR (.ref D) C (.ok .next) s'):
  jA (j5 X.prog X.w) X.A (newList []) (λacc s₃=>jA (j5 X.prog X.w) X.A (newFunctionEnv scope X.env.globals (Cy X.env scope.names []) [] X.env.qual jT .none (jS X.env)) (λcenv s₄=>
   codeAny (j5 X.prog X.w) X.A (.compStart (.ListComp elt [⟨tg,iter,ifs,0⟩] scope pos) 0 (.ref i0) acc {cenv with scope:=relabel scope X.env}) (RR acc cenv.locals) s₄) E' s₃) E' s:=by
 refine jH (wpAny_newFunctionEnv cs.nocell (by intro y hy;simp at hy) (λh₁ hns₁ hsb₁=>?_) cs.kind);dsimp only at hns₁ hsb₁⊢;generalize hH2:s.heap.push {cls:=.type "list",dict:=jT,data:=.seq ([]:List jZ).toArray}=H2 at hns₁ hsb₁⊢;have hC:H2.objs.size=s.heap.objs.size+1:=by rw[<-hH2,qj]
 have hDC:s.heap.objs.size≠H2.objs.size:=by rw[hC];exact zA (zN _)
 have hCle:s.heap.objs.size<=H2.objs.size:=by rw[hC];exact qz _
 have fpOld:∀b∈fp,b<s.heap.objs.size:=λb hb=>by obtain⟨o,e,_⟩:=T.obj 0 _ t0 b hb;exact zX e
 have hDf:s.heap.objs.size∉fp:=λhm=>zB _ (fpOld _ hm)
 have hCf:H2.objs.size∉fp:=λhm=>by have:=fpOld _ hm;rw[hC]at this;exact zB _ (Nat.lt_of_succ_lt this)
 have old:∀b o,s.heap.get? b=jS o->h₁.get? b=jS o:=λb o e=>
  hsb₁.extBut b o (by rw[hC];exact zA (Nat.lt_succ_of_lt (zX e))) (zZ _ (hH2▸zZ _ e))
 have hacc:h₁.PlainList s.heap.objs.size ([]:List jZ).toArray:=⟨_,hsb₁.extBut _ _ hDC (zZ _ (hH2▸zj _ rfl))⟩;generalize hCe:H2.objs.size=C at*;generalize hDe:s.heap.objs.size=Dd at*;let B:=blk X N scope C s a.H fp;have okB:B.Ok:=ZFH cs I hf (by rw[hDe];exact hCle) hCf;let σ0:St:=zQ nt jT++caps.map λj=>(σ[j]?).join
 have start:∀tk,Inv B [] σ0 a.H {s with heap:=h₁,toks:=tk}:=λtk=>by
  refine⟨okB,rfl,I.bare,Un.kept old,⟨_,hns₁,λi x v e1 e2 e3=>?_⟩,λx d' e=>?_,I.hok.fresh (by rw[hDe];exact hCle),λx d' e=>?_,λp hp=>?_,I.hok.kept old,?_⟩
  ·have hi:nt<=i:=by
    by_cases hi:i<nt
    ·have e2':σ0[i]?=jS (jS v):=e2;rw[zD (by simpa using hi),zU]at e2'
     split at e2'<;>cases e2'
    ·lia
   have e2':σ0[i]?=jS (jS v):=e2;rw[zy (by simpa using hi),z5,zP]at e2';cases ej:caps[i-nt]? with
   |none=>rw[ej]at e2';cases e2'
   | some j=>
    rw[ej]at e2';have h1:(σ[j]?).join=jS v:=by simpa using e2'
    have h2:σ[j]?=jS (jS v):=by
     cases q:σ[j]? with
     |none=>rw[q]at h1;cases h1
     |some o=>
      rw[q]at h1;have h1':o=jS v:=h1;rw[h1']
    obtain⟨y,ey,en,ek⟩:=cs.cap (i-nt) j ej;have exy:x=y:=by
     have:nt+(i-nt)=i:=by lia
     rw[this]at en;have e1':N[i]?=jS x:=e1;rw[e1']at en;exact Option.some.inj en
    subst exy;have kx:=cs.free (x,.free) (PySem.mem_of_lookup ek) rfl;have vis:Vis X.env.scope x:=by
     rcases kx with kx|kx
     ·exact .inr (.inl kx)
     ·exact .inr (.inr kx)
    obtain⟨m,hn,hl⟩:=I.loc;obtain⟨u,ru,lk⟩:=hl j x v ey h2 vis;refine⟨u,ru,?_⟩;rcases lk with⟨k1,_⟩|⟨k1,c1,ec,hcell⟩
    ·rcases kx with kx|kx
     ·rw[k1]at kx;cases kx
     ·rw[k1]at kx;cases kx
    ·refine .inr ⟨?_,c1,?_,?_⟩
     ·show(relabel scope X.env).names.lookup x=jS .cell∨(relabel scope X.env).names.lookup x=jS .free;rw[Z8,ek];simp only[Option.map_some];split
      ·exact .inl rfl
      ·exact .inr rfl
     ·obtain⟨d1,hd1⟩:=Og (env:=X.env) (x:=x) (names:=scope.names) (cs:=[]) (.inl (PySem.mem_of_lookup ek));obtain⟨d2,hd2⟩:=Us hd1;have:=cs.cl I.ok hd2;rw[ec]at this;cases this;exact hd2
     ·obtain⟨o,e,dd⟩:=hcell;exact⟨o,old _ _ e,dd⟩
  ·obtain⟨v,o,e',dd⟩:=I.cell x d' (cs.cl I.ok e);exact⟨v,o,old _ _ e',dd⟩
  ·exact I.Dz x d' (cs.cl I.ok e)
  ·exact absurd hp (by simp[B,blk])
  ·show σ0.length=N.length;rw[cs.len];simp[σ0]
 have rS0:RepS a (Bh nt caps S) σ0:=ZC2 rS;have aD:a.H Dd=jT:=I.hok.fresh (by rw[hDe];exact zW _);have young:∀b∈fp,b≠C:=λb hb z=>hCf (z▸hb)
 have fpB:∀{H':Hp}{ps:List (qM×Obj)},(∀b∈fp,H' b=jT)->(∀p∈ps,p.1∉fp)->∀b∈fp,FpOk B ps H' b:=λ{H' ps}hn hps b hb=>
  ⟨hn b hb,young b hb,okB.exfs b hb,.inl hb,λx d' e=>(hf b hb).2.2.2.2.1 x d' (cs.cl I.ok e),λp hp z=>by
   have hp':p∈ps:=by simpa[B,blk]using hp
   exact hps p hp' (z▸hb)⟩
 have nstk:Dd∉frs X.stack:=λz=>by
  rcases zw.mp (I.Mm Dd z)with z|z
  ·have:=I.lt;rw[hDe,<-z]at this;exact zB _ this
  ·exact I.nofs (by rw[hDe];exact zW _) z
 have pinD:∀{σ':St}{H':Hp}{s':qU}{its:List jZ}{nD:Nat},Inv B [] σ' H' s'->s'.heap.get? Dd=jS {cls:=.type "list",data:=.seq its.toArray nD}->H' Dd=jT->Inv B [(Dd,{cls:=.type "list",data:=.seq its.toArray nD})] σ' H' s':=λ{σ' H' s' its nD}J e n=>
  J.Hc λp hp=>by
   have ep:p=(Dd,{cls:=.type "list",data:=.seq its.toArray nD}):=by simpa using hp
   subst ep;exact⟨e,n,hDC,nstk,λv' z=>by cases z⟩
 have fin:∀(s':qU)(b:Wd)(σ':St)(its:List jZ)(ds:List D)(G':DH),Inv B [] σ' b.H s'->Ext a b->Sim b G'->s'.heap.PlainList Dd its.toArray->b.H Dd=jT->(∃vs,Vals vs its/\Reps b ds vs)->out E0 b (Ay ds G') Q->RR (.ref Dd) C (.ok .next) s':=by
  intro s' b σ' its ds G' IB x sb pl hD ⟨vs,hv,rv⟩ hq;have hz:ds.length<=1000000:=by
   unfold Ay at hq;split at hq
   ·assumption
   ·exact hq.elim
  have Ix:Inv X jR σ b.H s':=I.call' IB.os IB.base IB.hok IB.bare λb hb=>⟨(hf b hb).2.2.2.1,(hf b hb).2.1,(hf b hb).2.2.2.2.1,(hf b hb).2.2.2.2.2⟩
  obtain⟨n,eD⟩:=pl;have ylt:∀{q:qM}{o:Obj},s.heap.get? q=jS o->q≠Dd:=λe z=>by rw[z,<-hDe]at e;exact absurd (zX e) (zB _)
  have Ia:Inv X jR σ (upd b.H Dd (.lst vs)) s':=by
   refine Xj Ix hD (by rw[<-hDe];exact I.sz) ?_ (λy c' ec=>?_) (λp hp=>?_) ⟨?_,its,n,hv,eD⟩
   ·rw[<-hDe];exact q8 I.lt
   ·obtain⟨v,o,e,_⟩:=I.cell y c' ec;exact ylt e
   ·exact ylt (I.pin p hp).1
   ·rw[<-rv.length];exact z0 hz size6
  refine hRR Dd C s' b vs Ia hD hCle hDC (let⟨m,hn,_⟩:=IB.loc;⟨m,hn⟩) IB.free ?_;unfold Ay at hq;rw[if_pos hz]at hq;exact Za sb rv hq Dd hD
 have turnX:∀(n:Nat)(P:Nat->qU->Prop)(rest:DH->R (List D))(s1:qU)(b:Wd)(G1:DH)(σ1:St)(its:List jZ)(acc:List D)(u:jZ)(v:V)(x:D)(i:Nat),Inv B [] σ1 b.H s1->Ext a b->Sim b G1->RepS b (Bh nt caps S) σ1->tn i s1.heap->(∀q∈fp,b.H q=jT)->
   s1.heap.PlainList Dd its.toArray->b.H Dd=jT->(∃vs,Vals vs its/\Reps b acc vs)->RelV v u->Rep b x v->
   out E0 b (((g x (Bh nt caps S) G1).bind λS1 G1=>(c S1 G1).bind λk G2=>if k=jU then(te S1 G2).bind λd G3=>(rest G3).bind λds G4=>.ok (d::ds) G4 else rest G2).bind λds G=>Ay (acc++ds) G) Q->
   (∀(s2:qU)(b2:Wd)(G2:DH)(σ2:St)(its2:List jZ)(acc2:List D),Inv B [] σ2 b2.H s2->Ext a b2->Sim b2 G2->RepS b2 (Bh nt caps S) σ2->tn i s2.heap->(∀q∈fp,b2.H q=jT)->
    s2.heap.PlainList Dd its2.toArray->b2.H Dd=jT->(∃vs,Vals vs its2/\Reps b2 acc2 vs)->out E0 b2 ((rest G2).bind λds G=>Ay (acc2++ds) G) Q->∃m,m<n/\P m s2)->
   jA (j5 X.prog X.w) X.A (assign tg B.env u) (λ_ s₂=>
     jA (j5 X.prog X.w) X.A (forIn ifs jU λc r=>if r=jU then do let ok<-isTrue c B.env (eval c B.env);pure (ForInStep.yield ok)else pure (ForInStep.yield r)) (λok s₃=>
      if ok=jU then jA (j5 X.prog X.w) X.A (eval elt B.env) (λx s₄=>
       jA (j5 X.prog X.w) X.A (call (.builtin "list.append") [.ref Dd,x]) (λ_ s₅=>∃m,m<n/\P m s₅) (λ_ _=>False) s₄) (λ_ _=>False) s₃
      else∃m,m<n/\P m s₃) (λ_ _=>False) s₂) (λ_ _=>False) s1:=by
  intro n P rest s1 b G1 σ1 its acc u v x i I1 x1 sb rSb t1 hfp pl hD hacc' ru rx hq next
  rw[R.bind_assoc]at hq;obtain⟨nD,eD⟩:=id pl;let pinD:List (qM×Obj):=[(Dd,{cls:=.type "list",data:=.seq its.toArray nD})];have pinOk:∀{σ':St}{H':Hp}{s':qU},Inv B (pinD++K1 fp s1.heap) σ' H' s'->s'.heap.PlainList Dd its.toArray/\H' Dd=jT/\tn i s'.heap/\∀q∈fp,H' q=jT:=λ{σ' H' s'}J=>by
   have p1:=J.pin (Dd,{cls:=.type "list",data:=.seq its.toArray nD}) (zv _ (qE _ (by simp[pinD])));refine⟨⟨nD,p1.1⟩,p1.2.1,T.keep _ _ _ t1 λq hq' o e=>(J.pin (q,o) (zv _ (zv _ (M9 hq' e)))).1,λq hq'=>?_⟩;obtain⟨o,e,_⟩:=T.obj _ _ t1 q hq';exact(J.pin (q,o) (zv _ (zv _ (M9 hq' e)))).2.1
  have I2:Inv B (pinD++K1 fp s1.heap) σ1 b.H s1:=I1.Hc λp hp=>by
   rcases List.mem_append.mp hp with hp|hp
   ·have e:p=(Dd,{cls:=.type "list",data:=.seq its.toArray nD}):=by simpa[pinD]using hp
    subst e;refine⟨eD,hD,hDC,λz=>?_,λv' z=>by cases z⟩;exact nstk z
   ·obtain⟨hb,e⟩:=Y4 hp;obtain⟨f0,f1,f2,_⟩:=fpB (ps:=[]) hfp (λp hp=>by cases hp) p.1 hb;obtain⟨o,e',dd⟩:=T.obj _ _ t1 p.1 hb;rw[e]at e';cases e';exact⟨e,f0,f1,f2,dd⟩
  refine thn (hg C s a.H fp _ s1 σ1 b.H v u _ I2 ru ⟨b,Bh nt caps S,G1,x,x1.k.trans hk,rfl,sb,rSb,rx,(ZDG hq).imp λ_ _ z=>z⟩) ?_;rintro _ s2 ⟨σ2,H2',J2,b2,S2,G2,rfl,y2,sb2,rS2,eg,hq2⟩;rw[R.bind_assoc]at hq2;have rS2':RepS b2 (Bh nt caps S) σ2:=⟨by have h1:=J2.len;have h2:σ1.length=N.length:=I1.len;rw[rSb.len,h2];exact h1.symm,λj e' hj=>rS2.get j e' (gk _ _ _ _ _ eg j e' (ZFE hj) hj)⟩
  refine thn (hts C s a.H fp _ s2 σ2 b2.H _ J2 ⟨b2,S2,G2,y2.k.trans (x1.k.trans hk),rfl,sb2,rS2,(Yt hq2).imp λ_ _ z=>z⟩) ?_;rintro k s3 ⟨H3,J3,b3,G3,rfl,y3,sb3,_,hq3⟩;cases k with
  |false=>
   obtain⟨p1,p2,p3,p4⟩:=pinOk J3;have Jn:Inv B [] σ2 b3.H s3:=J3.Hc λp hp=>by cases hp
   obtain⟨vs,hv,rv⟩:=hacc'
   exact next s3 b3 G3 σ2 its acc Jn (x1.trans (y2.trans y3)) sb3 (rS2'.mono y3) p3 p4 p1 p2 ⟨vs,hv,(rv.mono y2).mono y3⟩ hq3
  | true=>
   have hq3':out E0 b3 (((te S2 G3).bind λd G3=>(rest G3).bind λds G4=>.ok (d::ds) G4).bind λds G=>Ay (acc++ds) G) Q:=hq3;rw[R.bind_assoc]at hq3';refine thn (he C s a.H fp _ s3 σ2 b3.H _ J3 ⟨b3,S2,G3,y3.k.trans (y2.k.trans (x1.k.trans hk)),rfl,sb3,rS2.mono y3,(Ea hq3').imp λ_ _ z=>z⟩) ?_;rintro w s4 ⟨vw,H4,J4,rw',b4,d4,G4,rfl,y4,sb4,q4,_,hq4⟩;obtain⟨p1,p2,p3,p4⟩:=pinOk J4;rw[R.bind_assoc]at hq4
   have hq4':out E0 b4 ((rest G4).bind λds G=>Ay ((acc++[d4])++ds) G) Q:=by
    have e:(λ(ds:List D)(G:DH)=>(R.ok (d4::ds) G).bind λds G=>Ay (acc++ds) G)=λds G=>Ay ((acc++[d4])++ds) G:=by funext ds G;simp
    rw[<-e];exact hq4
   obtain⟨vs,hv,rv⟩:=hacc';have hsz:its.toArray.size<=sizeLine:=by
    have:acc.length<=1000000:=by
     cases hr:rest G4 with
     |ok ds G5=>
      rw[hr]at hq4';have hq5:out E0 b4 (Ay ((acc++[d4])++ds) G5) Q:=hq4';unfold Ay at hq5;split at hq5
      ·rename_i hl;simp at hl;lia
      ·exact hq5.elim
     |err e' G5=>rw[hr]at hq4';exact(hq4'.1 rfl).elim
     |bad=>rw[hr]at hq4';exact hq4'.elim
    rw[zq,<-hv.length,<-rv.length];exact z0 this size6
   refine wpAny_list_append_plain p1 (λh' hpl hsb=>?_) hsz;have Jn:Inv B [] σ2 b4.H s4:=J4.Hc λp hp=>by cases hp
   have J5:Inv B [] σ2 b4.H {s4 with heap:=h'}:=by refine Jn.turned (it:=Dd) (t':=s4.toks) (λq o hq' e=>(hsb.2 q hq').trans e) p2 hDC (.inr (by show s.heap.objs.size<=Dd;rw[hDe];exact zW _)) (λy c' ec=>?_) (λp hp=>absurd hp (by simp[B,blk]));obtain⟨v',o,e,_⟩:=I.cell y c' (cs.cl I.ok ec);intro z;rw[z,<-hDe]at e;exact absurd (zX e) (zB _)
   refine next _ b4 G4 σ2 (its++[w]) (acc++[d4]) J5 (x1.trans (y2.trans (y3.trans y4))) sb4 ((rS2'.mono y3).mono y4) (T.keep _ _ _ p3 λq hq' o e=>(hsb.2 q (λz=>hDf (z▸hq'))).trans e) p4 (by simpa using hpl) p2 ⟨vs++[vw],hv.append (.cons rw' .nil),(((rv.mono y2).mono y3).mono y4).append (Reps.cons q4 Reps.nil)⟩ hq4'
 have loop:∀s₃:qU,s₃={s with heap:=h₁,toks:=s.toks+([]:List (Str×jZ)).length}->
   codeAny (j5 X.prog X.w) X.A (.compLoop (.ListComp elt [⟨tg,iter,ifs,0⟩] scope pos) 0 (.ref i0) (.ref Dd) B.env) (RR (.ref Dd) C) s₃:=by
  rintro s₃ rfl;have t1:tn 0 h₁:=T.keep _ _ _ t0 λq _ o e=>old q o e
  have fp0:∀q∈fp,a.H q=jT:=λq hq=>(hf q hq).1
  have walk:∀b:Wd,Ext a b->∀G,Sim b G->∀i,(∀d,f i G=jS (jS d)->J.go i b.H/\∀x H',J.yld i b.H x H'->∃c:Wd,c.H=H'/\Ext b c/\Sim c G/\Rep c d x)/\(f i G=jS jT->J.stop i b.H):=rJ;refine ZE1 (λm s'=>∃(i:Nat)(b:Wd)(G':DH)(σ':St)(its:List jZ)(acc:List D),Inv B [] σ' b.H s'/\Ext a b/\Sim b G'/\RepS b (Bh nt caps S) σ'/\tn i s'.heap/\(∀q∈fp,b.H q=jT)/\s'.heap.PlainList Dd its.toArray/\b.H Dd=jT/\(∃vs,Vals vs its/\Reps b acc vs)/\
   out E0 b ((Dg f g c te (Bh nt caps S) m i G').bind λds G=>Ay (acc++ds) G) Q) ?_ n0 ⟨0,a,G,σ0,[],[],start _,Ext.refl a,sm,rS0,t1,fp0,hacc,aD,⟨[],.nil,rfl⟩,by simpa using h⟩
  rintro m s' ⟨i,b,G',σ',its,acc,IB,x,sb,rSb,ti,hfp,pl,hD,hac,hq⟩;obtain⟨nD,eD⟩:=pl;have I0:=pinD IB eD hD;have f0:=fpB (ps:=[(Dd,{cls:=.type "list",data:=.seq its.toArray nD})]) hfp (λp hp=>by
   have ep:p=(Dd,{cls:=.type "list",data:=.seq its.toArray nD}):=by simpa using hp
   subst ep;exact hDf)
  have stop:J.stop i b.H->out E0 b (Ay acc G') Q->jA (j5 X.prog X.w) X.A (pyNext (.ref i0)) (λr s₁=>match r with
    |none=>RR (.ref Dd) C (.ok .next) s₁
    | some v=>jA (j5 X.prog X.w) X.A (j3 tg (.ref i0) v) (λ_ s₁=>jA (j5 X.prog X.w) X.A (assign tg B.env v) (λ_ s₂=>
     jA (j5 X.prog X.w) X.A (forIn ifs jU λc r=>if r=jU then do let ok<-isTrue c B.env (eval c B.env);pure (ForInStep.yield ok)else pure (ForInStep.yield r)) (λok s₃=>
      if ok=jU then jA (j5 X.prog X.w) X.A (eval elt B.env) (λx s₄=>
       jA (j5 X.prog X.w) X.A (call (.builtin "list.append") [.ref Dd,x]) (λ_ s₅=>∃m',m'<m/\∃(i:Nat)(b:Wd)(G':DH)(σ':St)(its:List jZ)(acc:List D),Inv B [] σ' b.H s₅/\Ext a b/\Sim b G'/\RepS b (Bh nt caps S) σ'/\tn i s₅.heap/\(∀q∈fp,b.H q=jT)/\s₅.heap.PlainList Dd its.toArray/\b.H Dd=jT/\(∃vs,Vals vs its/\Reps b acc vs)/\
        out E0 b ((Dg f g c te (Bh nt caps S) m' i G').bind λds G=>Ay (acc++ds) G) Q) (λ_ _=>False) s₄) (λ_ _=>False) s₃
      else∃m',m'<m/\∃(i:Nat)(b:Wd)(G':DH)(σ':St)(its:List jZ)(acc:List D),Inv B [] σ' b.H s₃/\Ext a b/\Sim b G'/\RepS b (Bh nt caps S) σ'/\tn i s₃.heap/\(∀q∈fp,b.H q=jT)/\s₃.heap.PlainList Dd its.toArray/\b.H Dd=jT/\(∃vs,Vals vs its/\Reps b acc vs)/\
        out E0 b ((Dg f g c te (Bh nt caps S) m' i G').bind λds G=>Ay (acc++ds) G) Q) (λ_ _=>False) s₂) (λ_ _=>False) s₁) (λ_ _=>False) s₁) (λ_ _=>False) s':=by
   intro st hq';refine thn (T.done B rfl rfl rfl hc i _ s' σ' b.H _ I0 f0 ti st) ?_;rintro r s1 ⟨rfl,I2⟩;have pD:=(I2.pin (Dd,{cls:=.type "list",data:=.seq its.toArray nD}) (zv _ (by simp))).1;exact fin s1 b σ' its acc G' (I2.Hc λp hp=>by cases hp) x sb ⟨nD,pD⟩ hD hac hq'
  cases m with
  |zero=>
   unfold Dg at hq;split at hq
   ·rename_i hf;exact stop ((walk b x G' sb i).2 hf) (by have hq':out E0 b (Ay (acc++[]) G') Q:=hq;rw[zF]at hq';exact hq')
   ·exact hq.elim
  | succ m=>
   unfold Dg at hq;split at hq
   ·rename_i d1 hf;obtain⟨go,yl⟩:=(walk b x G' sb i).1 d1 hf;refine thn (T.item B rfl rfl rfl hc i _ s' σ' b.H _ I0 f0 ti go) ?_;rintro r s1 ⟨u,rfl,hgo⟩;refine thn hgo ?_;rintro _ s2 ⟨v,H',I2,ru,y,t2,hfp2⟩;obtain⟨cc,rfl,xx,ss,rd⟩:=yl v H' y;have pD:=I2.pin (Dd,{cls:=.type "list",data:=.seq its.toArray nD}) (zv _ (by simp));obtain⟨vs1,hv1,rv1⟩:=hac;refine turnX _ _ (λG3=>Dg f g c te (Bh nt caps S) m (i+1) G3) s2 cc G' σ' its acc u _ d1 (i+1) (I2.Hc λp hp=>by cases hp) (x.trans xx) ss (rSb.mono xx) t2 hfp2 ⟨nD,pD.1⟩ pD.2.1 ⟨vs1,hv1,rv1.mono xx⟩ ru rd (out.mono xx hq) ?_
    intro s3 b3 G3 σ3 its3 acc3 a1 a2 a3 a4 a5 a6 a7 a8 a9 a10;exact⟨m,zN _,i+1,b3,G3,σ3,its3,acc3,a1,a2,a3,a4,a5,a6,a7,a8,a9,a10⟩
   ·rename_i hf;exact stop ((walk b x G' sb i).2 hf) (by have hq':out E0 b (Ay (acc++[]) G') Q:=hq;rw[zF]at hq';exact hq')
   ·exact hq.elim
 exact codeAny_compStart_list (loop _ rfl) (T.self _ 0 _ _ _ (T.keep _ _ _ t0 λq _ o e=>old q o e) (loop _ rfl))
theorem Q7{c:DB}:∀(n j:Nat)(G:DH),j+n=xs.length->Ck g c te S (xs.drop j) G=Dg (λj _=>jS xs[j]?) g c te S n j G
 |0,j,G,h=>by
  rw[q9 (by lia)]
  show _=(match jS xs[j]? with |some jT=>R.ok [] G|_=>.bad)
  rw[zR (by lia)]
  rfl
 |n+1,j,G,h=>by
  have hj:j<xs.length:=by lia
  rw[qX hj]
  show(g xs[j] S G).bind _=(match jS xs[j]? with |some (jS x)=>_|some jT=>R.ok [] G|none=>.bad)
  rw[zK hj];dsimp only
  congr 1
  funext S1 G1
  congr 1
  funext k G2;rw[Q7 n (j+1) G2 (by lia)]
  congr 1
  congr 1
  funext d G3;rw[Q7 n (j+1) G3 (by lia)]
theorem Vy{c:DB}:∀(n j:Nat)(G:DH),Gh i g c te S n j G=Dg (mtF i) g c te S n j G
 | 0,j,G=>by
  unfold Gh Dg mtF;cases G[i]? with
  |none=>rfl
  | some o=>
   cases o with
   |lst xs=>
    dsimp only;by_cases hj:j<xs.length
    ·rw[if_neg (by lia),zK hj]
    ·rw[if_pos (by lia),zR (by lia)]
   |_=>rfl
 | n+1,j,G=>by
  have ih:(Gh i g c te S n (j+1))=Dg (mtF i) g c te S n (j+1):=funext λG=>Vy n (j+1) G
  unfold Gh Dg;rw[ih];unfold mtF;cases G[i]? with
  |none=>rfl
  | some o=>
   cases o with
   |lst xs=>
    dsimp only
    cases xs[j]?<;>rfl
   |_=>rfl
theorem V3(hc:X.calm=jU)(cs:CompSc X N scope nt caps)
  (hg:∀C s₀ H₀ ex,QG (blk X N scope C s₀ H₀ ex) E0 tg g) (gk:GK nt g) (hts:∀C s₀ H₀ ex,QTs (blk X N scope C s₀ H₀ ex) E0 ifs c) (he:∀C s₀ H₀ ex,QE (blk X N scope C s₀ H₀ ex) E0 elt te)
  {jR:List (qM×Obj)} {σ:St} {s:qU} {a:Wd} {S:DSt} {G:DH} {J:It} {d:ItD} {i0:qM} {fp:List qM} {tn:Nat->Heap->Prop} (I:Inv X jR σ a.H s) (hk:a.K=X.K) (sm:Sim a G) (rS:RepS a S σ)
  (T:Turn X.prog X.w X.K tg J fp i0 tn) (t0:tn 0 s.heap) (hf:∀b∈fp,FpOk X jR a.H b) (rJ:RepI a d J) {Q:VK}
  (h:out E0 a ((match d with
   |.pure xs=>Ck g c te (Bh nt caps S) xs G
   |.mt i=>match G[i]? with
    |some (.lst xs)=>Gh i g c te (Bh nt caps S) xs.length 0 G
    |_=>.bad
   |.fn n f=>Dg f g c te (Bh nt caps S) n 0 G).bind Ay) Q)
  {RR:jZ->qM->Result->qU->Prop} {E':jZ->qU->Prop}
  (hRR:∀(D C:qM)(s':qU)(b:Wd)(vs:List V),Inv X jR σ (upd b.H D (.lst vs)) s'->b.H D=jT->s.heap.objs.size<=C->D≠C->(∃m,s'.heap.Ns C m)->b.H C=jT->Q (.ref D) (upd b.H D (.lst vs))->RR (.ref D) C (.ok .next) s'):
  jA (j5 X.prog X.w) X.A (newList []) (λacc s₃=>jA (j5 X.prog X.w) X.A (newFunctionEnv scope X.env.globals (Cy X.env scope.names []) [] X.env.qual jT .none (jS X.env)) (λcenv s₄=>
   codeAny (j5 X.prog X.w) X.A (.compStart (.ListComp elt [⟨tg,iter,ifs,0⟩] scope pos) 0 (.ref i0) acc {cenv with scope:=relabel scope X.env}) (RR acc cenv.locals) s₄) E' s₃) E' s:=by
 cases d with
 |pure xs=>
  have h':out E0 a ((Ck g c te (Bh nt caps S) (xs.drop 0) G).bind Ay) Q:=h;rw[Q7 xs.length 0 G (by lia)]at h';exact Ue hc cs hg gk hts he I hk sm rS T t0 hf (Xr rJ) h' hRR
 |mt k=>
  dsimp only at h;split at h
  ·rename_i xs hx;rw[Vy]at h;exact Ue hc cs hg gk hts he I hk sm rS T t0 hf (Zr rJ) h hRR
  ·exact h.elim
 |fn n0 f=>exact Ue hc cs hg gk hts he I hk sm rS T t0 hf rJ h hRR
end
section
variable{X:Cx}{N:List Str}{scope:qT}{nt:Nat}{caps:List Nat}{tg elt iter:qO}{ifs:List qO}{pos:Pos}{it:DI}{g:DG}{c:DB}{te:DE}
theorem letGo{jR:List (qM×Obj)}{s2 s':qU}{h':Heap}{C:qM}{t':Nat}{σ2:St}{H2:Hp}(I2:Inv X jR σ2 H2 s2)(Ia:Inv X jR σ H s')(hC:s2.heap.objs.size<=C)(hn:H C=jT)(hsb:qx C s'.heap h'):Inv X jR σ H {s' with heap:=h',toks:=t'}:=by
 have young:∀{b:qM}{o:Obj},s2.heap.get? b=jS o->b≠C:=λe z=>by rw[z]at e;exact absurd (zJ (zX e) hC) (zB _)
 refine Ia.turned (it:=C) (λb o hb e=>(hsb.2 b hb).trans e) hn (q8 (zJ I2.lt hC)) (.inr (z0 I2.sz hC)) (λx c' e=>?_) λp hp=>?_
 ·obtain⟨v,o,e',_⟩:=I2.cell x c' e;exact young e'
 ·exact young (I2.pin p hp).1
theorem Ra(hc:X.calm=jU)(cs:CompSc X N scope nt caps)(hi:QI X E0 tg iter it)
  (hg:∀C s₀ H₀ ex,QG (blk X N scope C s₀ H₀ ex) E0 tg g) (gk:GK nt g) (hts:∀C s₀ H₀ ex,QTs (blk X N scope C s₀ H₀ ex) E0 ifs c) (he:∀C s₀ H₀ ex,QE (blk X N scope C s₀ H₀ ex) E0 elt te)
  (hs:∀x,foldedSetIterable iter X.env x=pure x:=by intro _;rfl):QE X E0 (.ListComp elt [⟨tg,iter,ifs,0⟩] scope pos) (Gi it nt caps g c te):=by
 intro jR s σ H Q I h;obtain⟨a,S,G,hk,rfl,sm,r,h⟩:=h;rw[eval_ListComp];refine wpAny_comprehension_free (use:=jT) rfl hs (Vz (cs.cells I.ok)) cs.kind cs.names (thn (hi jR s σ a.H _ I ⟨a,S,G,hk,rfl,sm,r,(Vw h).imp λ_ _ z=>z⟩) λxv s1 h1=>thn h1 λitv s2 h2=>?_);obtain⟨i0,fp,tn,J,H2,rfl,I2,T,t0,f2,b,d,G1,rfl,x,sb,rJ,_,h1⟩:=h2;refine V3 hc cs hg gk hts he I2 (x.k.trans hk) sb (r.mono x) T t0 f2 rJ h1 (RR:=λacc C=>compPost (j5 X.prog X.w) X.A X.xe jT (EP X jR σ Q) acc C) ?_
 intro D C s' b vs Ia hD hCle hDC ⟨m,hn⟩ hCn hq;refine⟨m,hn,λh' hsb=>⟨.ref D,_,letGo I2 Ia hCle ?_ hsb,rfl,hq⟩⟩;rw[Aq (Ne.symm hDC)];exact hCn
theorem Uv(i:Nat){y:Str}{py spos:Pos}(hc:X.calm=jU)(hN:X.N.Nodup)(cs:CompSc X N scope nt caps)(hi:QI X E0 tg iter it)
  (hg:∀C s₀ H₀ ex,QG (blk X N scope C s₀ H₀ ex) E0 tg g) (gk:GK nt g) (hts:∀C s₀ H₀ ex,QTs (blk X N scope C s₀ H₀ ex) E0 ifs c) (he:∀C s₀ H₀ ex,QE (blk X N scope C s₀ H₀ ex) E0 elt te)
  (hy:X.N[i]?=jS y:=by rfl) (hx:Loc X.env.scope y:=by first|exact Or.inl rfl|exact Or.inr rfl) (hf:X.fn y=jU∨X.env.scope.names.lookup y=jS .local:=by first|exact .inl rfl|exact .inr rfl|assumption)
  (hsw:swapsWith (.ListComp elt [⟨tg,iter,ifs,0⟩] scope pos) (jS (.Name y py)) spos.line X.env=pure jU:=by rfl)
  (hs:∀x,foldedSetIterable iter X.env x=pure x:=by intro _;rfl):QS X E0 (.Assign [.Name y py] (.ListComp elt [⟨tg,iter,ifs,0⟩] scope pos) spos) (sAs (Gi it nt caps g c te) (gV i)):=by
 intro jR s σ H W I h;obtain⟨a,S,G,hk,rfl,sm,r,h⟩:=h;have h0:=Kw h;rw[exec_Assign_Name_used _ _ _ _ hsw];refine jC (wpAny_standAt (jC ?_))
 show jA _ X.A (do let _<-comprehension (.ListComp elt [⟨tg,iter,ifs,0⟩] scope pos) scope X.env _ (newList []) xQ (eval iter X.env) (jS (assign (.Name y py) X.env))) _ _ s
 refine jC (jG (wpAny_comprehension_free (use:=jS (assign (.Name y py) X.env)) (Q:=λ_ s'=>SP X jR W .next s') rfl hs (Vz (cs.cells I.ok)) cs.kind cs.names
  (thn (hi jR s σ a.H _ I ⟨a,S,G,hk,rfl,sm,r,(Vw h0).imp λ_ _ z=>z⟩) λxv s1 h1=>thn h1 λitv s2 h2=>?_)) (λ_ s' hq=>jL (jL hq)) λ_ _ e=>e)
 obtain⟨i0,fp,tn,J,H2,rfl,I2,T,t0,f2,b,d,G1,rfl,x,sb,rJ,_,h1⟩:=h2
 refine V3 hc cs hg gk hts he I2 (x.k.trans hk) sb (r.mono x) T t0 f2 rJ h1 (RR:=λacc C=>compPost (j5 X.prog X.w) X.A X.xe (jS (assign (.Name y py) X.env)) (λ_ s'=>SP X jR W .next s') acc C) ?_
 intro D C s' b' vs Ia hD hCle hDC ⟨m,hn⟩ hCn hq;show jA _ X.A (assign (.Name y py) X.env (.ref D)) _ _ _;refine wpAny_assign_Name (Yo Ia hN hy hx (v:=.ref D) rfl (λs'' I'' hch=>?_) hf);obtain⟨a',hsb',ha'⟩:=hch;have hCa:C≠a':=by
  rintro rfl;rcases ha' with rfl|ha'
  ·exact absurd (zJ I2.lt hCle) (zB _)
  ·obtain⟨v,o,e',_⟩:=I2.cell _ _ ha';exact absurd (zJ (zX e') hCle) (zB _)
 refine⟨m,hn.sameBut hsb' hCa,λh' hsb=>⟨_,_,letGo I2 I'' hCle ?_ hsb,?_⟩⟩
 ·rw[Aq (Ne.symm hDC)];exact hCn
 ·obtain⟨b3,d3,G3,e3,x3,s3,q3,_,h3⟩:=hq;rw[<-e3];exact h3 b3 _ (Ext.refl b3) s3 ((r.mono x3).set i q3)
end
noncomputable def Kv:D->Bool
 |.non=>jU
 |_=>xQ
def Om:D->D->DH->R D
 |d,.non,G=>.ok (.bl (Kv d)) G
 |_,_,_=>.bad
def Nk:D->D->DH->R D
 |d,.non,G=>.ok (.bl (!Kv d)) G
 |_,_,_=>.bad
section
variable{X:Cx}{E:XK}{a b:qO}{ta tb:DE}{pos:Pos}
theorem Li{n:String}(hg:Gl X x)(hm:X.mg x=jT)(hv:jq x=jS (.type n))(hn:x≠"__name__":=by decide)(hd:(x==("__debug__":Str))=xQ:=by decide):QE X E (.Name x pos) (dC (.ty n)):=
 (Yn (v:=.ty n) hg hm hv rfl hn hd).mono λσ H Q h=>Jd h λ_ _=>rfl
theorem Wc{a:Wd}{x:V}(rd:Rep a d x):decide (x=V.non)=Kv d:=by
 cases d with
 |non=>rw[show x=V.non from rd];rfl
 |bl _=>rw[show x=V.bl _ from rd];rfl
 |int _=>rw[show x=V.int _ from rd];rfl
 |str _=>rw[show x=V.str _ from rd];rfl
 |ty _=>rw[show x=V.ty _ from rd];rfl
 |tup _=>obtain⟨p,vs,rfl,_⟩:=rd;rfl
 |fl _=>obtain⟨p,vs,rfl,_⟩:=rd;rfl
 |ref _=>rw[rd.2];rfl
theorem o_is:OpR X (jx .Is) (lR2 X.K E Om):=El ZAD λa G d e x y Q hk s rd re q=>by
 cases e with
 |non=>exact⟨re,by rw[Wc rd];cases d<;>exact q a _ (Ext.refl a) s rfl⟩
 |_=>cases d<;>exact q.elim
theorem ZAO:OpR X (jx .IsNot) (lR2 X.K E Nk):=El ZCB λa G d e x y Q hk s rd re q=>by
 cases e with
 |non=>exact⟨re,by rw[Wc rd];cases d<;>exact q a _ (Ext.refl a) s rfl⟩
 |_=>cases d<;>exact q.elim
end
theorem Iu:jq "isinstance"=jS (.builtin "isinstance"):=by decide +kernel
theorem ZFP:jq "max"=jS (.builtin "max"):=by decide +kernel
theorem ZAf:jq "min"=jS (.builtin "min"):=by decide +kernel
theorem Eo:jq "len"=jS (.builtin "len"):=by decide +kernel
theorem X6:jq "int"=jS (.type "int"):=by decide +kernel
theorem Zq:jq "bool"=jS (.type "bool"):=by decide +kernel
theorem Hb:jq "tuple"=jS (.type "tuple"):=by decide +kernel
noncomputable def Hv:qR->Bool | .local=>jU|_=>xQ
noncomputable def Im:qR->Bool | .cell=>jU|_=>xQ
noncomputable def Hk:qR->Bool | .free=>jU|_=>xQ
noncomputable def isK(p:qR->Bool):Option qR->Bool|some k=>p k|none=>xQ
theorem ZDn{k:qR}(h:Hv k=jU):k=.local:=by cases k<;>first|rfl|cases h
theorem ZFF{k:qR}(h:Im k=jU):k=.cell:=by cases k<;>first|rfl|cases h
theorem Zz{k:qR}(h:Hk k=jU):k=.free:=by cases k<;>first|rfl|cases h
theorem O9{p:qR->Bool}{k:qR}(hp:∀k',p k'=jU->k'=k){o:Option qR}(h:isK p o=jU):o=jS k:=by
 cases o with
 |none=>cases h
 |some k'=>rw[hp _ h]
def X7(dn:List (Str×qR))(N0 N:List Str)(names:List (Str×qR))(nt:Nat)(caps:List Nat):Bool:=
 names.all (λy=>(!Hv y.2||isK Hv (names.lookup y.1)) && !Im y.2&&(!Hk y.2||isK Im (dn.lookup y.1)||isK Hk (dn.lookup y.1)))&&decide N.Nodup&&decide (N.length=nt+caps.length) &&
 (zG caps.length).all λk=>match caps[k]? with
  |some j=>match N0[j]? with
   |some x=>decide (N[nt+k]?=jS x)&&isK Hk (names.lookup x)
   |none=>xQ
  |none=>jU
theorem Jc{X:Cx}{N0 N:List Str}{nt:Nat}{caps:List Nat}{dn:List (Str×qR)}(hk:scope.kind=.function:=by rfl)(hdn:∀x,X.env.kindOf x=dn.lookup x:=by intro _;rfl)(hN:X.N=N0:=by rfl)
  (h:X7 dn N0 N scope.names nt caps=jU:=by decide +kernel):CompSc X N scope nt caps:=by
 unfold X7 at h;rw[zz,zz,zz]at h;obtain⟨⟨⟨h1,h2⟩,h3⟩,h4⟩:=h;rw[qA]at h1 h4;have key:=λ(y:Str×qR)(hy:y∈scope.names)=>(by have:=h1 y hy;rw[zz,zz]at this;exact this:((!Hv y.2||isK Hv (scope.names.lookup y.1))=jU/\(!Im y.2)=jU)/\(!Hk y.2||isK Im (dn.lookup y.1)||isK Hk (dn.lookup y.1))=jU)
 refine⟨hk,λy hy hl=>?_,λy hy hl=>?_,λy hy hl=>?_,of_decide_eq_true h2,of_decide_eq_true h3,λk j hj=>?_⟩
 ·have:=(key y hy).1.1;rw[hl]at this;exact O9 (p:=Hv) (λ_ h=>ZDn h) (by have t:(xQ||isK Hv (scope.names.lookup y.1))=jU:=this;simpa using t)
 ·have:=(key y hy).1.2;rw[hl]at this;exact absurd this (by decide)
 ·have:=(key y hy).2;rw[hl,Bool.or_eq_true]at this;rw[hdn];rcases this with h|h
  ·exact .inl (O9 (p:=Im) (λ_ h=>ZFF h) (by have t:(xQ||isK Im (dn.lookup y.1))=jU:=h;simpa using t))
  ·exact .inr (O9 (p:=Hk) (λ_ h=>Zz h) h)
 ·have hk':k<caps.length:=(zx.mp hj).1;have:=h4 k (qI.mpr hk');rw[hj]at this;dsimp only at this;cases e:N0[j]? with
  |none=>rw[e]at this;cases this
  |some x=>
   rw[e]at this;dsimp only at this;rw[zz]at this;exact⟨x,by rw[hN];exact e,of_decide_eq_true this.1,O9 (p:=Hk) (λ_ h=>Zz h) this.2⟩
section
section
variable{X:Cx}{jR:List (qM×Obj)}{σ:St}{H:Hp}{s:qU}
theorem ZDF{xs:List V}(I:Inv X jR σ H s)(h:H p=jS (.lst xs)):∃o,Inv X jR σ (upd H p (.frz o (.lst xs))) s:=by
 obtain⟨hl,its,n,r,e⟩:=I.hok p _ h;have nt:∀b(u:HO),H b=jS u->u≠ .lst xs->b≠p:=λb u q d z=>by subst z;rw[h]at q;exact d (Option.some.inj q).symm
 refine⟨_,I.un (t':=s.toks) (H':=upd H p (.frz {cls:=.type "list",data:=.seq its.toArray n} (.lst xs))) ⟨λb o q _ _ _=>q,λb o q _ _ _=>⟨o.slots,q⟩,λb o q z _=>?_,λb o q _=>⟨o,q⟩,λb ys q=>?_,λb o u q=>?_,λb ps q=>⟨#[],?_⟩⟩ ?_⟩
 ·rw[Aq (λz'=>by subst z';rw[h]at z;cases z)];exact z
 ·rw[Aq (nt b _ q (by intro z;cases z))];exact q
 ·rw[Aq (nt b _ q (by intro z;cases z))];exact q
 ·rw[Aq (nt b _ q (by intro z;cases z)),Array.append_empty];exact q
 ·intro b u q;by_cases hb:b=p
  ·subst hb;rw[Eh]at q;cases q;exact⟨e,hl,its,n,r,e⟩
  ·rw[Aq hb]at q;exact(I.hok b u q).stay (λc v _ z=>z) (λc z=>by rw[Aq (nt c _ z (by intro z;cases z))];exact z) λc ys z=>by rw[Aq (nt c _ z (by intro z;cases z))];exact z
def Fz(P:qM->Prop)(H H':Hp):Prop:=∀p,(H' p=H p/\(∀vs,H p=jS (.lst vs)->¬P p))∨∃o vs,P p/\H p=jS (.lst vs)/\H' p=jS (.frz o (.lst vs))
theorem Yg(I:Inv X jR σ H s)(m:Nat->qM)(n:Nat):∀k:Nat,∃H',Inv X jR σ H' s/\Fz (λp=>∃i,n<=i/\i<n+k/\p=m i) H H'
 |0=>⟨H,I,λp=>.inl ⟨rfl,λ_ _ ⟨i,h1,h2,_⟩=>by lia⟩⟩
 | k + 1=>by
  obtain⟨H',I',F⟩:=Yg I m n k;have keep:(∀vs,H' (m (n+k))≠jS (.lst vs))->Fz (λp=>∃i,n<=i/\i<n+(k+1)/\p=m i) H H':=λno p=>by
   rcases F p with⟨e,z⟩|⟨o,vs,⟨i,h1,h2,h3⟩,e1,e2⟩
   ·refine .inl ⟨e,λvs e1 ⟨i,h1,h2,h3⟩=>?_⟩;by_cases hi:i<n+k
    ·exact z vs e1 ⟨i,h1,hi,h3⟩
    ·have:i=n+k:=by lia
     subst this;subst h3;exact no vs (e.trans e1)
   ·exact .inr ⟨o,vs,⟨i,h1,by lia,h3⟩,e1,e2⟩
  cases hH:H' (m (n+k))with
  |none=>exact⟨H',I',keep λvs z=>by rw[hH]at z;cases z⟩
  | some u=>
   cases u with
   | lst vs=>
    obtain⟨o,I2⟩:=ZDF I' hH;refine⟨_,I2,λp=>?_⟩;by_cases hp:p=m (n+k)
    ·subst hp;rcases F (m (n+k))with⟨e,z⟩|⟨o',vs',_,e1,e2⟩
     ·exact .inr ⟨o,vs,⟨n+k,by lia,by lia,rfl⟩,e.symm.trans hH,Eh⟩
     ·rw[hH]at e2;cases e2
    ·rcases F p with⟨e,z⟩|⟨o',vs',⟨i,h1,h2,h3⟩,e1,e2⟩
     ·refine .inl ⟨by rw[Aq hp];exact e,λvs' e1 ⟨i,h1,h2,h3⟩=>?_⟩;by_cases hi:i<n+k
      ·exact z vs' e1 ⟨i,h1,hi,h3⟩
      ·have:i=n+k:=by lia
       subst this;exact hp h3
     ·exact .inr ⟨o',vs',⟨i,h1,by lia,h3⟩,e1,by rw[Aq hp];exact e2⟩
   |_=>exact⟨H',I',keep λvs z=>by rw[hH]at z;cases z⟩
end
noncomputable def Hm(f:D->Option D):List D->Option (List D)
 |[]=>jS []
 |d::r=>match f d,Hm f r with
  |some d',jS r'=>jS (d'::r')
  |_,_=>jT
def Er(G:DH)(n:Nat):Nat->D->Option D
 |0,_=>jT
 | k+1,d=>if bel n d=jU then jS d else match d with
  |.ref i=>match G[i]? with
   |some (.lst xs)=>(Hm (Er G n k) xs).map .fl
   |_=>jT
  |.tup xs=>(Hm (Er G n k) xs).map .tup
  |.fl xs=>(Hm (Er G n k) xs).map .fl
  |_=>jT
open Classical in
def freeze(G:DH)(r:R D):R D:=match r with
 | .ok d G'=>if G'.take G.length=G then(match Er G' G.length 9 d with
   |some d'=>.ok d' G
   |none=>.ok d G')else .ok d G'
 |r=>r
def Cz(t:DE):DE:=λS G=>freeze G (t S G)
structure CutF (b c:Wd) (n:Nat):Prop where
 k:c.K=b.K
 n:c.n=n
 m:c.m=b.m
 tup:∀p xs,b.H p=jS (.tup xs)->c.H p=jS (.tup xs)
 frz:∀p o u,b.H p=jS (.frz o u)->c.H p=jS (.frz o u)
theorem CutF.sqT{n:Nat}(x:CutF b c n){xs:List V}(h:SqT b.K b.H p xs):SqT c.K c.H p xs:=by
 rcases h with(h|⟨o,h⟩)|h
 ·exact .inl (.inl (x.tup _ _ h))
 ·exact .inl (.inr ⟨o,x.frz _ _ _ h⟩)
 ·exact .inr (by rw[x.k];exact h)
theorem CutF.fzL{n:Nat}(x:CutF b c n){xs:List V}(h:FzL b.K b.H p xs):FzL c.K c.H p xs:=by
 rcases h with⟨o,h⟩|h
 ·exact .inl ⟨o,x.frz _ _ _ h⟩
 ·exact .inr (by rw[x.k];exact h)
mutual
theorem Rep.Ex{n:Nat}(x:CutF b c n):∀{d:D}{v:V},Rep b d v->bel n d=jU->Rep c d v
 |.non,_,h,_=>h
 |.bl _,_,h,_=>h
 |.int _,_,h,_=>h
 |.str _,_,h,_=>h
 |.ty _,_,h,_=>h
 |.tup ds,v,h,q=>by obtain⟨p,vs,e,t,r⟩:=h;simp only[DL.bel]at q;exact⟨p,vs,e,x.sqT t,Reps.Ex x r q⟩
 |.fl ds,v,h,q=>by obtain⟨p,vs,e,t,r⟩:=h;simp only[DL.bel]at q;exact⟨p,vs,e,x.fzL t,Reps.Ex x r q⟩
 |.ref i,v,h,q=>by obtain⟨l,e⟩:=h;simp only[DL.bel]at q;have q':=of_decide_eq_true q;exact⟨by rw[x.n];exact q',by rw[x.m];exact e⟩
theorem Reps.Ex{n:Nat}(x:CutF b c n):∀{ds:List D}{vs:List V},Reps b ds vs->bels n ds=jU->Reps c ds vs
 |[],_,h,_=>h
 |d::ds,vs,h,q=>by obtain⟨v,r,e,h1,h2⟩:=h;simp only[DL.bels,zz]at q;exact⟨v,r,e,Rep.Ex x h1 q.1,Reps.Ex x h2 q.2⟩
end
theorem Mz{f:D->Option D}(hf:∀d d' v,f d=jS d'->Rep b d v->Rep c d' v):∀{ds ds':List D}{vs:List V},Hm f ds=jS ds'->Reps b ds vs->Reps c ds' vs
 |[],ds',vs,e,h=>by cases e;exact h
 |d::ds,ds',vs,e,h=>by
  obtain⟨v,r,rfl,h1,h2⟩:=h;unfold Hm at e;split at e
  ·rename_i d' r' e1 e2;cases e;exact⟨v,r,rfl,hf _ _ _ e1 h1,Mz hf e2 h2⟩
  ·cases e
theorem V5{n:Nat}(s:Sim b G')(x:CutF b c n)(hz:∀i,n<=i->i<b.n->∀vs,b.H (b.m i)=jS (.lst vs)->∃o,c.H (b.m i)=jS (.frz o (.lst vs))):∀(k:Nat)(d d':D)(v:V),Er G' n k d=jS d'->Rep b d v->Rep c d' v
 |0,d,d',v,e,h=>by cases e
 | k + 1,d,d',v,e,h=>by
  have ih:=V5 s x hz k;unfold Er at e;split at e
  ·rename_i hb;cases e;exact h.Ex x hb
  ·rename_i hb;cases d with
   | ref i=>
    dsimp only at e;split at e
    ·rename_i xs hx;rw[zk]at e;obtain⟨ys,e1,rfl⟩:=e;obtain⟨vs,e2,r2⟩:=s.obj i _ hx;obtain⟨il,rfl⟩:=h;have hi:n<=i:=by simp only[DL.bel,decide_eq_true_eq]at hb;lia
     obtain⟨o,e3⟩:=hz i hi il vs e2;exact⟨_,vs,rfl,.inl ⟨o,e3⟩,Mz ih e1 r2⟩
    ·cases e
   |tup xs=>
    dsimp only at e;rw[zk]at e;obtain⟨ys,e1,rfl⟩:=e;obtain⟨p,vs,rfl,t,r⟩:=h;exact⟨p,vs,rfl,x.sqT t,Mz ih e1 r⟩
   |fl xs=>
    dsimp only at e;rw[zk]at e;obtain⟨ys,e1,rfl⟩:=e;obtain⟨p,vs,rfl,t,r⟩:=h;exact⟨p,vs,rfl,x.fzL t,Mz ih e1 r⟩
   |_=>cases e
theorem Xz{jR:List (qM×Obj)}{sh:qU}(s:Sim a G)(hG:G'.take G.length=G)(x:Ext a b)(sb:Sim b G')(I:Inv X jR σ b.H sh):
  ∃c:Wd,Inv X jR σ c.H sh/\Ext a c/\Sim c G/\CutF b c a.n/\∀(k:Nat)(d d':D)(v:V),Er G' G.length k d=jS d'->Rep b d v->Rep c d' v:=by
 have hlen:∀i o,G[i]?=jS o->G'[i]?=jS o:=λi o e=>by have hi:i<G.length:=(zx.mp e).1;rw[<-hG,q0 hi]at e;exact e
 obtain⟨H',I',F⟩:=Yg I b.m a.n (b.n-a.n);have hbn:a.n+(b.n-a.n)=b.n:=by have:=x.n;lia
 rw[hbn]at F;have ct:∀p(u:HO),(∀vs,u≠ .lst vs)->b.H p=jS u->H' p=jS u:=λp u nu e=>by
  rcases F p with⟨e1,_⟩|⟨o,vs,_,e1,_⟩
  ·exact e1.trans e
  ·rw[e]at e1;exact absurd (Option.some.inj e1) (nu vs)
 have tabs:∀p,TabOk b.H p->TabOk H' p:=λp t=>t.mono (λp ps e=>ct p _ (by intro _ z;cases z) e) λp o u e=>ct p _ (by intro _ z;cases z) e
 have cc:CutF b ⟨b.K,a.n,b.m,H'⟩ a.n:=⟨rfl,rfl,rfl,λp xs e=>ct p _ (by intro _ z;cases z) e,λp o u e=>ct p _ (by intro _ z;cases z) e⟩;have old:∀i,i<a.n->H' (b.m i)=b.H (b.m i):=λi hi=>by
  rcases F (b.m i)with⟨e1,_⟩|⟨o,vs,⟨j,h1,h2,h3⟩,e1,e2⟩
  ·exact e1
  ·have:=sb.inj i j (zJ hi x.n) h2 h3;lia
 refine⟨⟨b.K,a.n,b.m,H'⟩,I',⟨x.k,zW _,x.m,λp xs e=>cc.tup p xs (x.tup p xs e),λp o u e=>cc.frz p o u (x.frz p o u e),λp t=>tabs p (x.tab p t)⟩,⟨s.len,λi j hi hj=>sb.inj i j (zJ hi x.n) (zJ hj x.n),λi o e=>?_,λi hi=>?_⟩,cc,λk d d' v hd rb=>?_⟩
 ·show ORep ⟨b.K,a.n,b.m,H'⟩ o (H' (b.m i));rw[old i (s.lt e)];have q:=sb.obj i o (hlen i o e);have lb:=(s.obj i o e).Hu;cases o with
  |lst ds=>obtain⟨vs,e1,r1⟩:=q;exact⟨vs,e1,r1.Ex cc lb⟩
  |dct kvs=>obtain⟨us,e1,k1,r1⟩:=q;exact⟨us,e1,k1,r1.Ex cc lb⟩
  |ins c fs=>obtain⟨C,dx,us,n1,e1,k1,r1⟩:=q;exact⟨C,dx,us,n1,e1,k1,r1.Ex cc lb⟩
  |tab C m=>obtain⟨c1,P1,e1,t1⟩:=q;exact⟨c1,P1,e1,tabs _ t1⟩
  |exc c fs=>
   obtain⟨C,oe,u,vs,n1,e1,k1,k2,z⟩:=q;refine⟨C,oe,u,vs,n1,e1,k1,k2,?_⟩;rcases z with z|⟨dx,o,us,e2,f2,k3,r1⟩
   ·exact .inl z
   ·exact .inr ⟨dx,o,us,e2,cc.frz _ _ _ f2,k3,r1.Ex cc lb⟩
  |gone=>trivial
 ·show H' (b.m i)≠jT;rw[old i hi];exact sb.tr i (zJ hi x.n)
 ·rw[s.len]at hd;refine V5 sb cc (λi h1 h2 vs e=>?_) k d d' v hd rb;rcases F (b.m i)with⟨e1,z⟩|⟨o,vs',_,e1,e2⟩
  ·exact absurd ⟨i,h1,h2,rfl⟩ (z vs e)
  ·rw[e]at e1;cases e1;exact⟨o,e2⟩
theorem ZAz(s:Sim a G)(h:out E a (freeze G r) Q):
  out E a r λv H=>∀(jR:List (qM×Obj))(σ:St)(sh:qU),Inv X jR σ H sh->∃H',Inv X jR σ H' sh/\Q v H':=by
 cases r with
 |err e G'=>exact h
 |bad=>exact h
 | ok d G'=>
  intro b v x sb rb jR σ sh I;unfold freeze at h;dsimp only at h;split at h
  ·rename_i hG;split at h
   ·rename_i d' hd;obtain⟨c,Ic,xc,sc,cc,hr⟩:=Xz s hG x sb I;exact⟨c.H,Ic,h c v xc sc (hr _ _ _ _ hd rb)⟩
   ·exact⟨_,I,h b v x sb rb⟩
  ·exact⟨_,I,h b v x sb rb⟩
theorem Ez(ha:QE X E e t):QE X E e (Cz t):=λjR s σ H Q I h=>by
 obtain⟨a,S,G,hk,rfl,sm,r,h⟩:=h;refine thn (ha jR s σ a.H _ I ⟨a,S,G,hk,rfl,sm,r,ZAz (X:=X) sm h⟩) λu s' ⟨v,H',I',rv,q⟩=>?_
 obtain⟨H2,I2,q2⟩:=q jR σ s' I';exact⟨v,H2,I2,rv,q2⟩
theorem S7 {st:jQ} (ha:QS X E st (sAs t (gV i))):QS X E st (sAs (Cz t) (gV i)):=λjR s σ H W I h=>by
 obtain ⟨a,S,G,hk,rfl,sm,r,h⟩:=h;have h2:Bk E a (sAs t (gV i) S G) {W with nx:=λσ H=>∀(jR:List (qM×Obj))(sh:qU),Inv X jR σ H sh->∃H',Inv X jR σ H' sh/\W.nx σ H'}:=by
  unfold sAs Cz at h;unfold sAs;cases ht:t S G with
  |err e G'=>rw[ht]at h;exact h
  |bad=>rw[ht]at h;exact h
  | ok d G'=>
   rw[ht]at h;intro b σ' x sb rb jR sh I;unfold freeze at h;dsimp only at h;split at h
   ·rename_i hG;split at h
    ·rename_i d' hd;obtain⟨c,Ic,xc,sc,cc,hr⟩:=Xz sm hG x sb I;refine⟨c.H,Ic,h c σ' xc sc ⟨?_,λj e he=>?_⟩⟩
     ·rw[qH,<-rb.len,qH]
     ·rw[zS]at he;by_cases hij:i=j
      ·subst hij;rw[if_pos rfl]at he;by_cases hl:i<S.length
       ·rw[if_pos hl]at he;have e1:d'=e:=by simpa using he
        subst e1;obtain⟨v,e2,rv⟩:=rb.get i d (by rw[zS,if_pos rfl,if_pos hl]);exact⟨v,e2,hr _ _ _ _ hd rv⟩
       ·rw[if_neg hl]at he;cases he
      ·rw[if_neg hij]at he;obtain⟨v,e2,rv⟩:=rb.get j e (by rw[zS,if_neg hij];exact he);obtain⟨v',_,rv'⟩:=r.get j e he;exact⟨v,e2,rv.Ex cc rv'.bel⟩
    ·exact⟨_,I,h b σ' x sb rb⟩
   ·exact⟨_,I,h b σ' x sb rb⟩
 refine thn (ha jR s σ a.H _ I ⟨a,S,G,hk,rfl,sm,r,h2⟩) λf s' hf=>?_
 cases f with
 |next=>
  obtain⟨σ',H',I',q⟩:=hf;obtain⟨H2,I2,q2⟩:=q jR s' I';exact⟨σ',H2,I2,q2⟩
 |brk=>exact hf
 |cont=>exact hf
 |ret u=>exact hf
end
section
variable{S:DSt}{G:DH}
@[simp]theorem ev_V:dV i S G=(match S[i]? with |some (jS d)=>.ok d G|_=>.bad):=id rfl
@[simp]theorem ev_C:dC d S G=.ok d G:=id rfl
@[simp]theorem ev_Op{f:D->D->DH->R D}{a b:DE}:dOp f a b S G=(a S G).bind λx G1=>(b S G1).bind λy G2=>f x y G2:=id rfl
@[simp]theorem ev_Un{f:D->DH->R D}{a:DE}:dUn f a S G=(a S G).bind f:=id rfl
@[simp]theorem ev_Nil:Ag S G=.ok [] G:=id rfl
@[simp]theorem ZGB{a:DE}{r:DA}:Ac a r S G=(a S G).bind λx G1=>(r S G1).bind λxs G2=>.ok (x::xs) G2:=id rfl
@[simp]theorem ev_Fn{f:List D->DH->R D}{t:DA}:dFn f t S G=(t S G).bind f:=id rfl
@[simp]theorem ZFg:Jt t S G=tidy G (t S G):=id rfl
@[simp]theorem ev_Frz:Cz t S G=freeze G (t S G):=id rfl
@[simp]theorem ev_asB{k:Bool}:asB (.bl k) G=.ok k G:=id rfl
@[simp]theorem ev_Tst:Bb t S G=(t S G).bind asB:=id rfl
@[simp]theorem ev_And{t u:DB}:Ih t u S G=(t S G).bind λk G1=>if k=jU then u S G1 else .ok xQ G1:=id rfl
@[simp]theorem ev_Or{t u:DB}:dOr t u S G=(t S G).bind λk G1=>if k=jU then .ok jU G1 else u S G1:=id rfl
@[simp]theorem ev_Not{t:DB}:Ku t S G=(t S G).bind λk G1=>.ok (!k) G1:=id rfl
@[simp]theorem ZFs{u:DE}:Ey t u S G=(t S G).bind λx G1=>(asB x G1).bind λk G2=>if k=jU then u S G2 else .ok (.bl xQ) G2:=id rfl
@[simp]theorem ev_OrV{u:DE}:Tq t u S G=(t S G).bind λx G1=>(asB x G1).bind λk G2=>if k=jU then .ok (.bl jU) G2 else u S G2:=id rfl
@[simp]theorem ZGE:Ma t S G=(t S G).bind λx G1=>(asB x G1).bind λk G2=>.ok (.bl (!k)) G2:=id rfl
@[simp]theorem ev_If{c:DB}{u:DE}:dIf c t u S G=(c S G).bind λk G1=>if k=jU then t S G1 else u S G1:=id rfl
@[simp]theorem ZFj{f g:D->D->DH->R D}{a b c:DE}:Kr f g a b c S G=(a S G).bind λx G1=>(b S G1).bind λy G2=>(f x y G2).bind λz G3=>(asB z G3).bind λk G4=>
 if k=jU then(c S G4).bind λw G5=>g y w G5 else .ok (.bl xQ) G4:=id rfl
@[simp]theorem ev_sNx:sNx S G=.nx S G:=id rfl
noncomputable def SR.then(r:SR)(u:DS):SR:=match r with
 |.nx S1 G1=>u S1 G1
 |r=>r
@[simp]theorem Vc{t:DS}:Ai t u S G=(t S G).then u:=id rfl
@[simp]theorem Z4:(SR.nx S G).then u=u S G:=id rfl
@[simp]theorem ZFv:(SR.rt d G).then u=.rt d G:=id rfl
@[simp]theorem ZFt{x:Xn}:(SR.err x G).then u=.err x G:=id rfl
@[simp]theorem ev_sEx:sEx t S G=(t S G).toS λ_ G1=>.nx S G1:=id rfl
@[simp]theorem ev_sRt:sRt t S G=(t S G).toS λd G1=>.rt d G1:=id rfl
@[simp]theorem ev_sIf{c:DB}{t:DS}:sIf c t u S G=(c S G).toS λk G1=>if k=jU then t S G1 else u S G1:=id rfl
@[simp]theorem ev_sAs:sAs t g S G=(t S G).toS λd G1=>(g d S G1).toS λS2 G2=>.nx S2 G2:=id rfl
@[simp]theorem ZFn{it:DI}{b:DS}:Ek it g b S G=(it S G).toS λJ G1=>(match J with
 |.pure xs=>Bp g b xs S G1
 |.mt i=>match G1[i]? with
  |some (.lst xs)=>forM i g b xs.length 0 S G1
  |_=>.bad
 |.fn n f=>Cr f g b n 0 S G1):=id rfl
@[simp]theorem ZFd:Gy t S G=(t S G).bind Ha:=id rfl
@[simp]theorem ZFq{f:List D->DH->R ItD}{t:DA}:Ew f t S G=(t S G).bind f:=id rfl
@[simp]theorem Jm:gV i d S G=.ok (S.set i (jS d)) G:=id rfl
@[simp]theorem ZGH:G7 [] S G=.ok S G:=id rfl
@[simp]theorem ZFf{t:DG}{u:DGs}{r:List D}:Cw t u (d::r) S G=(t d S G).bind λS1 G1=>u r S1 G1:=id rfl
@[simp]theorem ZFr{n:Nat}{t:DGs}:Fi n t (.tup ds) S G=if ds.length=n then t ds S G else .bad:=id rfl
@[simp]theorem ev_MtL{f:D->List D->DH->R D}{o:DE}{t:DA}:Hd f o t S G=(o S G).bind λx G1=>if isL x G1=jU then(t S G1).bind λxs G2=>f x xs G2 else .bad:=id rfl
@[simp]theorem ZF2{it:DI}{nt:Nat}{caps:List Nat}{c:DB}:Gi it nt caps g c te S G=(it S G).bind λJ G1=>(match J with
 |.pure xs=>Ck g c te (Bh nt caps S) xs G1
 |.mt i=>match G1[i]? with
  |some (.lst xs)=>Gh i g c te (Bh nt caps S) xs.length 0 G1
  |_=>.bad
 |.fn n f=>Dg f g c te (Bh nt caps S) n 0 G1).bind Ay:=id rfl
@[simp]theorem ZF9:Dc S G=.ok jU G:=id rfl
@[simp]theorem Jp{k:DSt->DH->SR}:aft (.nx S G) k=k S G:=id rfl
@[simp]theorem ZGL{k:DSt->DH->SR}{x:Xn}:aft (.err x G) k=.err x G:=id rfl
theorem Ga{b:DS}:Bp g b [] S G=.nx S G:=id rfl
theorem Ed{b:DS}{x:D}:Bp g b (x::xs) S G=(g x S G).toS λS1 G1=>aft (b S1 G1) (Bp g b xs):=id rfl
theorem ZBy{c:DB}:Ck g c te S [] G=.ok [] G:=id rfl
theorem Ph{c:DB}{x:D}:Ck g c te S (x::xs) G=(g x S G).bind λS1 G1=>(c S1 G1).bind λk G2=>
   if k=jU then(te S1 G2).bind λd G3=>(Ck g c te S xs G3).bind λds G4=>.ok (d::ds) G4 else Ck g c te S xs G2:=id rfl
noncomputable def SR.ret(r:SR):R D:=match r with
 |.nx _ G'=>.ok .non G'
 |.rt d G'=>.ok d G'
 |.err x G'=>.err x G'
 |_=>.bad
@[simp]theorem ret_rt:(SR.rt d G).ret=.ok d G:=id rfl
@[simp]theorem ZF7{x:Xn}:(SR.err x G).ret=.err x G:=id rfl
theorem Bq{np nl:Nat}{b:DS}:Bm np nl b ds G=if ds.length=np then tidy G (b (ds.map jS++zQ nl jT) G).ret else .bad:=id rfl
end
section
variable{n:Nat}{G:DH}
@[simp]theorem ZFc:bel n .non=jU:=by simp[DL.bel]
@[simp]theorem bel_bl{b:Bool}:bel n (.bl b)=jU:=by simp[DL.bel]
@[simp]theorem ZF4{b:Int}:bel n (.int b)=jU:=by simp[DL.bel]
@[simp]theorem ZGN{b:Str}:bel n (.str b)=jU:=by simp[DL.bel]
@[simp]theorem ZGJ{b:List D}:bel n (.tup b)=bels n b:=by simp[DL.bel]
@[simp]theorem ZGM{b:Nat}:bel n (.ref b)=decide (b<n):=by simp[DL.bel]
@[simp]theorem ZFx:bels n []=jU:=by simp[DL.bels]
@[simp]theorem ZEB:bels n (d::ds)=(bel n d&&bels n ds):=by simp[DL.bels]
theorem Zi:bels n ds=jU↔∀d∈ds,bel n d=jU:=by
 induction ds with
 |nil=>simp
 |cons d ds ih=>simp[ih]
theorem J0{f:α->D}{xs:List α}(h:∀x∈xs,bel n (f x)=jU):bels n (xs.map f)=jU:=by rw[Zi];intro d hd;obtain⟨x,hx,rfl⟩:=List.mem_map.mp hd;exact h x hx
theorem Bs(h:bel G.length d=jU):tidy G (.ok d G)=.ok d G:=by unfold tidy;simp[h]
theorem Jq(h:bel G.length d=jU):tidy G (.ok d (G++L))=.ok d G:=by unfold tidy;simp[h]
theorem ZDI(L:DH)(hk:L[k]?=jS (.lst ds))(h:bels G.length ds=jU):tidy G (.ok (.ref (G.length+k)) (G++L))=.ok (.ref G.length) (G++[.lst ds]):=by
 unfold tidy;have e:(G++L)[G.length+k]?=jS (.lst ds):=by rw[zy (by lia)];simpa using hk
 simp[e,Hu,h]
theorem Km(h:bels G.length ds=jU):tidy G (.ok (.ref G.length) (G++ .lst ds::L))=.ok (.ref G.length) (G++[.lst ds]):=ZDI (.lst ds::L) (k:=0) rfl h
@[simp]theorem ZGC{x:Xn}:tidy G (.err x G')=.err x G':=id rfl
theorem N8(h:bel G.length d=jU):freeze G (.ok d G)=.ok d G:=by unfold freeze;simp[h,Er]
theorem Xd{n:Nat}:∀{ds:List D},bels n ds=jU->Hm (Er G' n (k+1)) ds=jS ds
 |[],_=>rfl
 |d::ds,h=>by simp only[ZEB,zz]at h;unfold Hm;rw[Xd h.2];simp[Er,h.1]
theorem ZEi(L:DH)(hk:L[k]?=jS (.lst ds))(h:bels G.length ds=jU):freeze G (.ok (.ref (G.length+k)) (G++L))=.ok (.fl ds) G:=by
 unfold freeze;have e:(G++L)[G.length+k]?=jS (.lst ds):=by rw[zy (by lia)];simpa using hk
 have m:Er (G++L) G.length 9 (.ref (G.length+k))=jS (.fl ds):=by unfold Er;simp[e,Xd h]
 simp[m]
theorem Gq(h:bels G.length ds=jU):freeze G (.ok (.ref G.length) (G++ .lst ds::L))=.ok (.fl ds) G:=ZEi (.lst ds::L) (k:=0) rfl h
theorem ZCS(L:DH)(k:Nat):(G++L)[G.length+k]?=L[k]? :=by rw[zy (by lia)];simp
theorem Eb(L:DH):(G++L)[G.length]?=L[0]? :=ZCS L 0
theorem ZBZ(L:DH)(k:Nat)(o:DO):(G++L).set (G.length+k) o=G++L.set k o:=by rw[List.set_append_right _ _ (by lia)];simp
theorem Gk(L:DH)(o:DO):(G++L).set G.length o=G++L.set 0 o:=ZBZ L 0 o
theorem Ld{lo:Int}:By lo 0=[]:=id rfl
theorem Ju{lo:Int}{n:Nat}:By lo (n+1)=.int lo::By (lo+1) n:=by
 unfold By;rw[List.range_succ_eq_map,zI,List.map_map]
 congr 1
 ·simp
 ·apply List.map_congr_left;intro k _;simp only[Function.comp]
  congr 1
  lia
end
section
variable{G:DH}{i j:Int}{x y:Str}{k l:Bool}
@[simp]theorem ev_add:Al (.int i) (.int j) G=.ok (.int (i+j)) G:=id rfl
@[simp]theorem ZFe:Al (.str x) (.str y) G=if x.length+y.length<=1000000 then .ok (.str (x++y)) G else .bad:=id rfl
@[simp]theorem ZFb{ys:List D}:Al (.tup xs) (.tup ys) G=if xs≠[]/\xs.length+ys.length<=1000000 then .ok (.tup (xs++ys)) G else .bad:=id rfl
@[simp]theorem ev_sub:Ff (.int i) (.int j) G=.ok (.int (i-j)) G:=id rfl
theorem log2_small{n:Nat}(h:n<10^100):n.log2<9000:=by
 by_cases hn:n=0
 ·subst hn;decide
 ·rw[Nat.log2_lt hn];exact Nat.lt_trans h (by decide)
@[simp]theorem ZGI{n:Nat}[NeZero n](h:n<10^100):Bj (.int i) (.int (no_index (OfNat.ofNat n))) G=.ok (.int (i/OfNat.ofNat n)) G:=
 if_pos ⟨Int.ofNat_lt.mpr (Nat.pos_of_ne_zero (NeZero.ne n)),log2_small h⟩
@[simp]theorem ev_mod:Av (.int i) (.int j) G=if 0<j then .ok (.int (i%j)) G else .bad:=id rfl
@[simp]theorem ev_pow:Fw (.int i) (.int j) G=if 0<=j/\j<=1000000/\i.natAbs<18446744073709551616 then .ok (.int (i^j.toNat)) G else .bad:=id rfl
@[simp]theorem ev_lt:Fj (.int i) (.int j) G=.ok (.bl (decide (i<j))) G:=id rfl
@[simp]theorem ev_le:Lr (.int i) (.int j) G=.ok (.bl (decide (i<=j))) G:=id rfl
@[simp]theorem ev_gt:Fv (.int i) (.int j) G=.ok (.bl (decide (j<i))) G:=id rfl
@[simp]theorem ev_ge:T8 (.int i) (.int j) G=.ok (.bl (decide (j<=i))) G:=id rfl
@[simp]theorem ev_eq:Cg (.int i) (.int j) G=.ok (.bl (decide (i=j))) G:=id rfl
@[simp]theorem ev_ne:Hg (.int i) (.int j) G=.ok (.bl (!decide (i=j))) G:=id rfl
@[simp]theorem ev_eqS:Cg (.str x) (.str y) G=.ok (.bl (decide (x=y))) G:=id rfl
@[simp]theorem ZFk:Kv .non=jU:=id rfl
@[simp]theorem ZGG:Kv (.int i)=xQ:=id rfl
@[simp]theorem ev_min:M3 [.int i,.int j] G=.ok (.int (min i j)) G:=by
 show R.ok (D.int (if j<i then j else i)) G=_
 congr 2
 split <;> lia
@[simp]theorem ZCM{n:Nat}:Ce (.ref n) G=(match G[n]? with |some (.lst xs)=>jS xs|_=>jT):=id rfl
@[simp]theorem ZF3:Cp [.tup ds] G=.ok (.int ds.length) G:=id rfl
@[simp]theorem ZF8:Cp [.fl ds] G=.ok (.int ds.length) G:=id rfl
@[simp]theorem ev_ixT:An (.tup ds) (.int i) G=(match atI ds i with |some v=>.ok v G|none=>.bad):=id rfl
@[simp]theorem ev_ixF:An (.fl ds) (.int i) G=(match atI ds i with |some v=>.ok v G|none=>.bad):=id rfl
theorem ZBf{n k:Nat}(h:k<n):ixN n (k:Int)=jS k:=by unfold ixN;rw[if_pos (by lia),if_pos (by lia)];simp
theorem ZDy{xs:List α}{k:Nat}{d:α}(h:xs[k]?=jS d):atI xs (k:Int)=jS d:=by unfold atI;rw[ZBf (zx.mp h).1];exact h
theorem Di{xs:List α}{j:Int}{k:Nat}{d:α}(e:j=k)(h:xs[k]?=jS d):atI xs j=jS d:=by subst e;exact ZDy h
@[simp]theorem atI_0{a:α}{xs:List α}:atI (a::xs) 0=jS a:=Di (k:=0) rfl rfl
@[simp]theorem atI_1{a b:α}{xs:List α}:atI (a::b::xs) 1=jS b:=Di (k:=1) rfl rfl
@[simp]theorem atI_2{a b c:α}{xs:List α}:atI (a::b::c::xs) 2=jS c:=Di (k:=2) rfl rfl
@[simp]theorem atI_3{a b c d:α}{xs:List α}:atI (a::b::c::d::xs) 3=jS d:=Di (k:=3) rfl rfl
@[simp]theorem atI_4{a b c d e:α}{xs:List α}:atI (a::b::c::d::e::xs) 4=jS e:=Di (k:=4) rfl rfl
@[simp]theorem ZGF:Ay ds G=if ds.length<=1000000 then .ok (.ref G.length) (G++[.lst ds])else .bad:=id rfl
@[simp]theorem ZF6:Ej [.tup ds] G=.ok (.tup ds) G:=id rfl
@[simp]theorem ZF0:Ej [.fl ds] G=.ok (.tup ds) G:=id rfl
@[simp]theorem ZFp{n:Nat}:Ej [.ref n] G=(match G[n]? with |some (.lst xs)=>.ok (.tup xs) G|_=>.bad):=by
 unfold Ej;simp only[ZCM];cases G[n]? with
 |none=>rfl
 |some o=>cases o<;>rfl
@[simp]theorem ev_itT:Ha (.tup ds) G=.ok (.pure ds) G:=id rfl
@[simp]theorem ZGD:rng1 [.int j] G=if inR j then .ok (.pure (By 0 j.toNat)) G else .bad:=id rfl
theorem Jk(h0: -1000000000<=i)(h:i<=1000000000):inR i:=⟨by lia,by lia⟩
@[simp]theorem ZGA{n:Nat}:isL (.ref n) G=(match G[n]? with |some (.lst _)=>jU|_=>xQ):=id rfl
@[simp]theorem ev_app{n:Nat}:Gj (.ref n) [d] G=(match G[n]? with |some (.lst xs)=>if xs.length<1000000 then .ok .non (G.set n (.lst (xs++[d])))else .bad|_=>.bad):=id rfl
end
section
variable{c:Prop}[Decidable c]
@[simp]theorem ite_ok{a b:α}:(if c then R.ok a G else R.ok b G)=R.ok (if c then a else b) G:=by split <;> rfl
end
section
variable{X:Cx}{E:XK}
end
section
variable{S:DSt}{G:DH}{n:Nat}{kvs:List (Key×D)}
end
section
noncomputable def okD:Nat->D->Bool
 |0,_=>xQ
 |_+1,.non=>jU
 |_+1,.int _=>jU
 |_+1,.str _=>jU
 |n+1,.tup ds=>ds.all (okD n)
 |n+1,.fl ds=>ds.all (okD n)
 |_+1,_=>xQ
theorem R3{f:D->D->Option Bool}{P:D->Prop}(hf:∀x y,P x->P y->∃b,f x y=jS b/\(b=jU↔x=y)):∀{xs ys:List D},(∀x∈xs,P x)->(∀y∈ys,P y)->
  ∃b,eqZ f xs ys=jS b/\(b=jU↔xs.take ys.length=ys.take xs.length)
 |[],ys,_,_=>⟨jU,by cases ys<;>rfl,by simp⟩
 |x::xs,[],_,_=>⟨jU,rfl,by simp⟩
 |x::xs,y::ys,hx,hy=>by obtain⟨b,e1,h1⟩:=hf x y (hx x (by simp)) (hy y (by simp));obtain⟨c,e2,h2⟩:=R3 hf (λz hz=>hx z (zY _ hz)) (λz hz=>hy z (zY _ hz));refine⟨b&&c,by simp[eqZ,e1,e2],?_⟩;simp[h1,h2]
theorem Vg{G:DH}:∀(n:Nat)(d e:D),okD n d=jU->okD n e=jU->∃b,eqD n G d e=jS b/\(b=jU↔d=e)
 |0,d,e,h,_=>by cases h
 | n+1,d,e,h1,h2=>by
  have ih:=Vg (G:=G) n;cases d with
  |bl _=>simp[okD]at h1
  |ty _=>simp[okD]at h1
  |ref _=>simp[okD]at h1
  | tup xs=>
   cases e with
   |bl _=>simp[okD]at h2
   |ty _=>simp[okD]at h2
   |ref _=>simp[okD]at h2
   |tup ys=>
    simp only[okD,qA]at h1 h2;obtain⟨b,e1,h3⟩:=R3 ih (λx hx=>h1 x hx) (λx hx=>h2 x hx);refine⟨b&&xs.length==ys.length,by simp[eqD,view,e1],?_⟩;simp only[zz,h3,beq_iff_eq,D.tup.injEq];constructor
    ·rintro⟨e,hl⟩;rw[<-hl,qB]at e;rw[e,hl,qB]
    ·rintro rfl;exact⟨rfl,rfl⟩
   |_=>exact⟨xQ,by simp[eqD,view],by simp⟩
  | fl xs=>
   cases e with
   |bl _=>simp[okD]at h2
   |ty _=>simp[okD]at h2
   |ref _=>simp[okD]at h2
   |fl ys=>
    simp only[okD,qA]at h1 h2;by_cases hl:xs.length=ys.length
    ·obtain⟨b,e1,h3⟩:=R3 ih (λx hx=>h1 x hx) (λx hx=>h2 x hx);refine⟨b,by simp[eqD,view,hl,e1],?_⟩;rw[h3,<-hl,qB,hl,qB];simp
    ·exact⟨xQ,by simp[eqD,view,hl],by simp;rintro rfl;exact hl rfl⟩
   |_=>exact⟨xQ,by simp[eqD,view],by simp⟩
  |non=>cases e<;>first|(simp[okD]at h2;done)|exact⟨_,rfl,by simp[eqV]⟩
  |int i=>cases e<;>first|(simp[okD]at h2;done)|exact⟨_,rfl,by simp[eqV]⟩
  |str i=>cases e<;>first|(simp[okD]at h2;done)|exact⟨_,rfl,by simp[eqV]⟩
open Classical in
theorem ZBx{e:D}(h1:okD 30 d=jU)(h2:okD 30 e=jU):Hg d e G=.ok (.bl (!decide (d=e))) G:=by
 obtain⟨b,e1,h⟩:=Vg (G:=G) 30 d e h1 h2;unfold Hg;rw[e1];cases b with
 |true=>simp[h.mp rfl]
 |false=>simp[show¬d=e from λz=>zV (h.mpr z)]
theorem ZEd(h1:okD 30 d=jU):Hg d d G=.ok (.bl xQ) G:=by rw[ZBx h1 h1];simp
theorem Up{n:Nat}(h:∀d∈ds,okD n d=jU):okD (n+1) (.tup ds)=jU:=by simpa[okD]using h
end
def optI(t:Option DE)(S:DSt)(G:DH):R (Option Int):=match t with
 |none=>.ok jT G
 |some t=>(t S G).bind λd G1=>match d with
  |.int i=>.ok (jS i) G1
  |_=>.bad
section
variable{X:Cx}{E:XK}
def outO(E:XK)(a:Wd)(r:R (Option Int))(Q:Option Int->Hp->Prop):Prop:=match r with
 |.ok k G=>∀(b:Wd),Ext a b->Sim b G->Q k b.H
 |.err x G=>XOk E a x G
 |.bad=>False
def QO(X:Cx)(E:XK)(e:Option qO)(t:Option DE):Prop:=PO X e (λσ H Q=>∃(a:Wd)(S:DSt)(G:DH),a.K=X.K/\a.H=H/\Sim a G/\RepS a S σ/\outO E a (optI t S G) Q)
section
variable{name:Str}{id:String}{f:D->List D->DH->R D}{o e:qO}{es:List qO}{to:DE}{t:DA}{apos cpos:Pos}
end
end
section
variable{S:DSt}{G:DH}
@[simp]theorem J8{z:Str}{i:Int}:An (.str z) (.int i) G=if z.length<=1000000 then(match atI z.cps.toList i with |some c=>.ok (sgn c) G|none=>.bad)else .bad:=id rfl
end
end DL
namespace DL
open PySem PySem.Spec L2
open PyProof.Rows hiding St
open Builtin.Str
section
variable(p:Nat->Bool)(m:Nat)
end
def CStep(g:DG)(c:DB)(te:DE)(S:DSt)(G:DH)(x:D)(r:Option D):Prop:=
 ∃S1,g x S G=.ok S1 G/\((c S1 G=.ok xQ G/\r=jT)∨(c S1 G=.ok jU G/\∃d,te S1 G=.ok d G/\r=jS d))
theorem Zd{g:DG}{c:DB}{te:DE}{S:DSt}{G:DH}{F:D->Option D}:∀{xs:List D},(∀x∈xs,CStep g c te S G x (F x))->Ck g c te S xs G=.ok (xs.filterMap F) G
 |[],_=>rfl
 |x::xs,h=>by
  obtain⟨S1,h1,h2⟩:=h x (by simp);have ih:=Zd (λy hy=>h y (zY _ hy));rw[Ph,h1];rcases h2 with⟨h2,h3⟩|⟨h2,d,h3,h4⟩
  ·simp[h2,h3,ih,zO]
  ·simp[h2,h3,h4,ih,zO]
theorem Yi{x y:Str}(h:x.cps.toList=y.cps.toList):x=y:=by obtain⟨a⟩:=x;obtain⟨b⟩:=y;simp only at h;rw[Array.toList_inj.mp h]
end DL
namespace DL
open PySem PySem.Spec L2
open PyProof.Rows hiding St
variable{p:qM}{k:Nat}{old:jZ}
inductive Src where
 |l (a:qM)
 |t (a:qM)
variable{sr:Src}
noncomputable def Src.itn:Src->String
 |.l _=>"list_iterator"
 |.t _=>"tuple_iterator"
noncomputable def Src.adr:Src->qM
 |.l a=>a
 |.t a=>a
def Src.it(h:Heap)(p:qM)(k:Nat)(sr:Src):Prop:=∃o,h.get? p=jS o/\o.cls=.type sr.itn/\o.data=.fields #[.ref sr.adr,.int k 0]
def Src.val(h:Heap)(xs:Array jZ):Src->Prop
 |.l a=>h.IsList a xs
 |.t a=>h.IsTuple a xs
theorem Src.it.at{h h':Heap}(x:sr.it h p k)(e:∀o,h.get? p=jS o->h'.get? p=jS o):sr.it h' p k:=let⟨o,ho,r⟩:=x;⟨o,e o ho,r⟩
theorem Src.it.lt{h:Heap}(x:sr.it h p k):p<h.objs.size:=let⟨_,ho,_⟩:=x;zX ho
section
variable{prog:qS}{w:jJ}{A:qN}{E:jZ->qU->Prop}{s:qU}
theorem Src.next_item{xs:Array jZ}{x:jZ}{Q:jZ->qU->Prop}(hit:sr.it s.heap p k)(hv:sr.val s.heap xs)(hx:xs[k]?=jS x)
  (hQ:∀h',sr.it h' p (k+1)->qx p s.heap h'->Q x {s with heap:=h'}):jA (j5 prog w) A (Builtin.SmallTypes.nextOf (.ref p)) Q E s:=by
 cases sr with
 |l a=>exact wpAny_nextOf_list_item (show s.heap.IsListIter p a k from hit) hv hx hQ
 |t a=>
  obtain⟨o,ho,hc,hd⟩:=id hit;obtain⟨ol,hol,_,nl,hdl⟩:=hv;have hT:s.TypeIs (.ref p) "tuple_iterator":=⟨o,ho,hc⟩;unfold Builtin.SmallTypes.nextOf;refine jC (jD (name:=Str.ofString "__next__") hT PySem.F.slot_tuple_iterator_next (jE PySem.F.slot_tuple_iterator_next hT PySem.F.entry_tuple_iterator_next ?_ (PySem.F.args_tuple_iterator_next_1 _)));refine jC (m:=field (.ref p) 0) (jF ho hd (x:=.ref a) rfl ?_)
  show jA _ _ (if(Value.ref a==Value.none)=jU then _ else(field (.ref p) 1 >>=_)) _ _ s
  rw[if_neg (show¬((Value.ref a==Value.none)=jU)from zV)]
  refine jC (m:=field (.ref p) 1) (jF ho hd (x:=.int k 0) rfl (jC (m:=seqItems? (.ref a)) (wpAny_seqItems hol hdl ?_)));simp only[Int.toNat_natCast,hx];refine jC (wpAny_setField ho hd (by simp) (jL ⟨x,rfl,jL (hQ _ ⟨_,zL _ ho (Obj.isFreed_of_fields (Obj.data_mapFields hd _)),(Obj.cls_mapFields ..).trans hc,?_⟩ (qx.update ..))⟩))
  rw[Obj.data_mapFields hd];simp[j6,Src.adr]
theorem Src.next_end{xs:Array jZ}{Q:jZ->qU->Prop}(hh:A.handled=jT)(hit:sr.it s.heap p k)(hv:sr.val s.heap xs)(hx:xs[k]?=jT)
  (hE:∀h' e,Heap.ExtBut p s.heap h'->(∃o,h'.get? e=jS o/\o.cls=.type "StopIteration")->E (.ref e) {s with heap:=h'}):jA (j5 prog w) A (Builtin.SmallTypes.nextOf (.ref p)) Q E s:=by
 cases sr with
 |l a=>exact wpAny_nextOf_list_end hh (show s.heap.IsListIter p a k from hit) hv hx hE
 |t a=>
  obtain⟨o,ho,hc,hd⟩:=id hit;obtain⟨ol,hol,_,nl,hdl⟩:=hv;have hT:s.TypeIs (.ref p) "tuple_iterator":=⟨o,ho,hc⟩;unfold Builtin.SmallTypes.nextOf;refine jC (jD (name:=Str.ofString "__next__") hT PySem.F.slot_tuple_iterator_next (jE PySem.F.slot_tuple_iterator_next hT PySem.F.entry_tuple_iterator_next ?_ (PySem.F.args_tuple_iterator_next_1 _)));refine jC (m:=field (.ref p) 0) (jF ho hd (x:=.ref a) rfl ?_)
  show jA _ _ (if(Value.ref a==Value.none)=jU then _ else(field (.ref p) 1 >>=_)) _ _ s
  rw[if_neg (show¬((Value.ref a==Value.none)=jU)from zV)]
  refine jC (m:=field (.ref p) 1) (jF ho hd (x:=.int k 0) rfl (jC (m:=seqItems? (.ref a)) (wpAny_seqItems hol hdl ?_)));simp only[Int.toNat_natCast,hx];refine jC (wpAny_rule (jC (wpAny_setField ho hd (by simp) (jC (m:=newExc (.type "StopIteration") []) ?_))));simp only[newExc,newTuple]
  refine jC (jH (jC (m:=firstArgMember _ _) (wpAny_of_eq (a:=Value.none) (by first|rfl|(simp only[firstArgMember];rfl)) (jH ?_ (by size_fits)))) (by size_fits))
  simp only[raiseNew];refine jC (wpAny_handled ?_)
  first|rw[show A.in1.handled=jT from hh]|rw[hh]
  exact jC (jL (wpAny_throw (hE _ _ (((qx.update ..).extBut.push _).push _) ⟨_,zj _ rfl,rfl⟩)))
theorem Src.iter{xs:Array jZ}{Q:jZ->qU->Prop}(hv:sr.val s.heap xs)
  (hQ:Q (.ref s.heap.objs.size) {s with heap:=s.heap.push {cls:=.type sr.itn,data:=.fields #[.ref sr.adr,.int 0 0]}}):jA (j5 prog w) A (pyIter (.ref sr.adr)) Q E s:=by
 cases sr with
 |l a=>exact wpAny_pyIter_list hv hQ
 |t a=>exact wpAny_pyIter_tuple hv hQ
end
abbrev En(h:Heap)(e it:qM)(f0:jZ)(i:Int)(g old:jZ):Prop:=
 h.get? e=jS {cls:=.type "enumerate",dict:=jT,data:=.fields #[f0,.bool xQ,.ref it,j6 i,g,old],slots:= #[]}
def Gv(i:Int)(g:jZ):Prop:=g=.none∨∃t,g=.int i t
section
variable{prog:qS}{w:jJ}{A:qN}{E:jZ->qU->Prop}{s:qU}
theorem ZDp{e it:qM}{i:Int}{xs:Array jZ}{x g:jZ}{Q:jZ->qU->Prop}(he:En s.heap e it .none i g old)(hg:Gv i g)(hit:sr.it s.heap it k)(hv:sr.val s.heap xs)(hx:xs[k]?=jS x)(hne:e≠it)
  (hQ:∀h' t tk,En h' e it (j6 s.heap.objs.size) (i+1) .none x->sr.it h' it (k+1)->h'.get? s.heap.objs.size=jS {cls:=.type "tuple",data:=.seq #[.int i t,x]}->h'.objs.size=s.heap.objs.size+1->
   (∀b o,b≠e->b≠it->s.heap.get? b=jS o->h'.get? b=jS o)->Q (.ref s.heap.objs.size) {s with heap:=h',toks:=tk}):
  jA (j5 prog w) A (Builtin.«enumerate.__next__» ⟨[.ref e],[]⟩) (λfin s'=>∃v,fin=.done (.ret v)/\Q v s') E s:=by
 obtain⟨hp,gg,d,tk,os⟩:=s;refine jC (m:=field (.ref e) 2) (jF he rfl (x:=.ref it) rfl (jC (m:=Builtin.SmallTypes.nextOf (.ref it)) (Src.next_item hit hv hx λh₁ hit₁ hs₁=>?_)));have he₁:En h₁ e it .none i g old:=(hs₁.2 e hne).trans he;have k₁:∀b o,b≠e->b≠it->hp.get? b=jS o->h₁.get? b=jS o:=λb o _ hb q=>hs₁.extBut b o hb q
 have z₁:h₁.objs.size=hp.objs.size:=hs₁.1;refine jC (m:=field (.ref e) 3) (jF he₁ rfl (x:=j6 i) rfl ?_);refine jC (m:=field (.ref e) 4) (jF he₁ rfl (x:=g) rfl ?_)
 have rest:∀(t:Tok)(tk':Nat),jA (j5 prog w) A (do
   setField (.ref e) 3 (j6 (i+1));setField (.ref e) 4 .none
   let result<-newTuple [.int i t,x]
   if<-Builtin.SmallTypes.ownedTupleIsFree (.ref e)then
    rule "enumerate.__next__.owned-tuple-again"
    let old<-field (.ref e) 5
    setField (.ref e) 5 x
    Builtin.SmallTypes.ownedTupleHandOut (.ref e) result
    PySem.letGo [old] [result]
   ret result) (λfin s'=>∃v,fin=.done (.ret v)/\Q v s') E ⟨h₁,gg,d,tk',os⟩:=by
  intro t tk';refine jC (jM he₁ (by simp) λh₂ he₂ hs₂=>?_);refine jC (jM he₂ (by simp) λh₃ he₃ hs₃=>?_)
  replace he₃:En h₃ e it .none (i+1) .none old:=he₃
  have z₃:h₃.objs.size=hp.objs.size:=by rw[hs₃.1];show h₂.objs.size=_;rw[hs₂.1];exact z₁
  have k₃:∀b o,b≠e->b≠it->hp.get? b=jS o->h₃.get? b=jS o:=λb o h1 h2 q=>hs₃.extBut b o h1 (hs₂.extBut b o h1 (k₁ b o h1 h2 q))
  have i₃:sr.it h₃ it (k+1):=(hit₁.at λo q=>hs₂.extBut it o (Ne.symm hne) q).at λo q=>hs₃.extBut it o (Ne.symm hne) q
  refine jC (wpAny_newTuple ?_);generalize hh₄:h₃.push {cls:=.type "tuple",data:=.seq [Value.int i t,x].toArray}=h₄;have he₄:En h₄ e it .none (i+1) .none old:=by rw[<-hh₄];exact zZ _ he₃
  have ht₄:h₄.get? hp.objs.size=jS {cls:=.type "tuple",data:=.seq #[.int i t,x]}:=by rw[<-hh₄,<-z₃];exact zj _ rfl
  have z₄:h₄.objs.size=hp.objs.size+1:=by rw[<-hh₄,qj,z₃]
  have k₄:∀b o,b≠e->b≠it->hp.get? b=jS o->h₄.get? b=jS o:=λb o h1 h2 q=>by rw[<-hh₄];exact zZ _ (k₃ b o h1 h2 q)
  have i₄:sr.it h₄ it (k+1):=i₃.at λo q=>by rw[<-hh₄];exact zZ _ q
  have ez:e<hp.objs.size:=zX he;refine jC (m:=Builtin.SmallTypes.ownedTupleIsFree (.ref e)) ?_;unfold Builtin.SmallTypes.ownedTupleIsFree;refine jC (jF he₄ rfl (x:=.none) rfl (jL ?_));simp only[if_true];refine jC (wpAny_rule (jC (jF he₄ rfl (x:=old) rfl (jC (jM he₄ (by simp) λh₅ he₅ hs₅=>?_)))))
  replace he₅:En h₅ e it .none (i+1) .none x:=he₅
  refine jC (m:=Builtin.SmallTypes.ownedTupleHandOut _ _) ?_;unfold Builtin.SmallTypes.ownedTupleHandOut;refine jC (jM he₅ (by simp) λh₆ he₆ hs₆=>?_);refine jM he₆ (by simp) λh₇ he₇ hs₇=>?_
  refine jC (wpAny_letGo (jL ⟨_,rfl,?_⟩));have up:∀b o,b≠e->h₄.get? b=jS o->h₇.get? b=jS o:=λb o hb q=>hs₇.extBut b o hb (hs₆.extBut b o hb (hs₅.extBut b o hb q))
  show Q (.ref h₃.objs.size) _;rw[z₃];rw[z₃]at he₇;exact hQ h₇ t tk' he₇ (i₄.at λo q=>up it o (Ne.symm hne) q) (up _ _ (q8 ez) ht₄) (by rw[hs₇.1];show h₆.objs.size=_;rw[hs₆.1];show h₅.objs.size=_;rw[hs₅.1];exact z₄) λb o h1 h2 q=>up b o h1 (k₄ b o h1 h2 q)
 rcases hg with rfl|⟨t,rfl⟩
 ·exact jC (m:=mkInt i) (wpAny_mkInt (rest tk (tk+1)))
 ·exact jC (m:=(pure (Value.int i t):Sem jZ)) (jL (rest t tk))
theorem ZDK{e it:qM}{i:Int}{xs:Array jZ}{x g:jZ}{Q:Option jZ->qU->Prop}(he:En s.heap e it .none i g old)(hg:Gv i g)(hit:sr.it s.heap it k)(hv:sr.val s.heap xs)(hx:xs[k]?=jS x)(hne:e≠it)
  (hQ:∀h' t tk,En h' e it (j6 s.heap.objs.size) (i+1) .none x->sr.it h' it (k+1)->h'.get? s.heap.objs.size=jS {cls:=.type "tuple",data:=.seq #[.int i t,x]}->h'.objs.size=s.heap.objs.size+1->
   (∀b o,b≠e->b≠it->s.heap.get? b=jS o->h'.get? b=jS o)->Q (jS (.ref s.heap.objs.size)) {s with heap:=h',toks:=tk}):
  jA (j5 prog w) A (pyNext (.ref e)) Q E s:=by
 have hT:s.TypeIs (.ref e) "enumerate":=⟨_,he,rfl⟩;unfold pyNext;exact jC (wpAny_attempt (jD (name:=Str.ofString "__next__") hT PySem.F.slot_enumerate_next
  (jE PySem.F.slot_enumerate_next hT PySem.F.entry_enumerate_next (ZDp he hg hit hv hx hne λh' t tk a1 a2 a3 a4 a5=>jL (hQ h' t tk a1 a2 a3 a4 a5)) (PySem.F.args_enumerate_next_1 _))))
theorem ZDw{e it:qM}{i:Int}{xs:Array jZ}{g:jZ}{Q:Option jZ->qU->Prop}(hh:A.handled=jT)(he:En s.heap e it .none i g old)(hit:sr.it s.heap it k)(hv:sr.val s.heap xs)(hx:xs[k]?=jT)
  (hQ:∀h',Heap.ExtBut it s.heap h'->Q jT {s with heap:=h'}):jA (j5 prog w) A (pyNext (.ref e)) Q E s:=by
 have hT:s.TypeIs (.ref e) "enumerate":=⟨_,he,rfl⟩;unfold pyNext;refine jC (wpAny_attempt (jD (name:=Str.ofString "__next__") hT PySem.F.slot_enumerate_next
  (jE PySem.F.slot_enumerate_next hT PySem.F.entry_enumerate_next (jC (m:=field (.ref e) 2) (jF he rfl (x:=.ref it) rfl (jC (m:=Builtin.SmallTypes.nextOf (.ref it)) (Src.next_end hh hit hv hx λh' x he' hx'=>?_)))) (PySem.F.args_enumerate_next_1 _))))
 obtain⟨o,ho,hc⟩:=hx';exact jC (wpAny_isInstance (T:="StopIteration") (b:=jU) ⟨o,ho,hc⟩ isSubtype_stop (jL (hQ _ he')))
theorem ZAl{elts:List qO}{x1}{pos:Pos}{e it a:qM}{i:Int}{g:jZ}{Q:Unit->qU->Prop}(he:En s.heap e it (j6 a) i g old)
  (hQ:∀h',En h' e it .none i g old->qx e s.heap h'->Q () {s with heap:=h'}):jA (j5 prog w) A (j3 (.Tuple elts x1 pos) (.ref e) (.ref a)) Q E s:=by
 unfold j3;refine jC (wpAny_load he ?_);dsimp only;rw[if_pos (by simp)];exact jC (wpAny_rule (jM he (by simp) λh' he' hs'=>hQ h' he' hs'))
theorem Wv{e it:qM}{f0:jZ}{i:Int}{g:jZ}{Q:jZ->qU->Prop}(he:En s.heap e it f0 i g old)(h:Q (.ref e) s):jA (j5 prog w) A (pyIter (.ref e)) Q E s:=by have hT:s.TypeIs (.ref e) "enumerate":=⟨_,he,rfl⟩;exact wpAny_pyIter_slot hT PySem.F.slot_enumerate_iter (jE PySem.F.slot_enumerate_iter hT PySem.F.entry_enumerate_iter (jL ⟨_,rfl,"enumerate",_,hT,PySem.F.slot_enumerate_next.lookup,h⟩) (PySem.F.args_enumerate_iter_1 _))
end
abbrev Tp(h:Heap)(T:qM)(xs:List jZ):Prop:=h.get? T=jS {cls:=.type "tuple",data:=.seq xs.toArray}
section
variable{prog:qS}{w:jJ}{A:qN}{E:jZ->qU->Prop}{s:qU}
end
section
variable{prog:qS}{w:jJ}{A:qN}{E:jZ->qU->Prop}{s:qU}
end
end DL
namespace DL
open PySem PySem.W PyProof.Rows
section
variable{lt:Nat->Nat->Bool}
noncomputable abbrev pt(p:Array Nat)(j:Nat):Nat:=p.getD j 0
end
end DL
namespace DL
open PySem PySem.Spec L2
open PyProof.Rows hiding St
variable{s:qU}
section
variable{X:Cx}{jR:List (qM×Obj)}{σ:St}{H:Hp}{s:qU}{h':Heap}
theorem Wr{t':Nat}{fp:List qM}(I:Inv X jR σ H s)(k:∀b o,b∉fp->s.heap.get? b=jS o->h'.get? b=jS o)(hf:∀b∈fp,FpOk X jR H b):Inv X jR σ H {s with heap:=h',toks:=t'}:=by
 have nit:∀b u,H b=jS u->b∉fp:=λb u e z=>by rw[(hf b z).1]at e;cases e
 refine I.step (g':=s.gens) (d':=s.drawn) (ch:=fp) (λb hb=>?_) (λb o _ _ hc e _=>k b o hc e) (λb o _ _ hc e _=>⟨o.slots,k b o hc e⟩) (λ_ _ _ _ n=>n)
  (λb o hc e=>⟨o,k b o hc e⟩) (λ_ _ e=>e) (λ_ _ _ e=>e) (λb ps e=>⟨#[],by rw[e];simp⟩) (λm hm=>?_) (λb u e=>?_) I.bare
 ·obtain⟨f0,f1,f2,f3,f4,f5⟩:=hf b hb;exact⟨f3,f1,f4,f5⟩
 ·obtain⟨o,es,ep,ho,r⟩:=hm;exact⟨o,es,ep,k _ o (λz=>(hf _ z).2.1 rfl) ho,r⟩
 ·refine(I.hok b u e).stay (λc v hc q=>k c v ?_ q) (λ_ q=>q) λ_ _ q=>q
  rcases hc with z|z
  ·rw[z];exact nit b u e
  ·exact nit c _ z
theorem ZCg{t':Nat}{fp:List qM}{p:qM}{xs:List V}{its:List jZ}(I:Inv X jR σ H s)(k:∀b o,b∉fp->s.heap.get? b=jS o->h'.get? b=jS o)(hf:∀b∈fp,FpOk X jR H b)(hp:s.heap.objs.size<=p)
  (hz:xs.length<=sizeLine) (r:Vals xs its) (ht:Tp h' p its):Inv X jR σ (upd H p (.tup xs)) {s with heap:=h',toks:=t'}:=by
 obtain⟨g0,g1,g2,g3,g4,g5⟩:=I.Jb (H':=H) hp (I.hok.fresh hp);exact Xj (Wr I k hf) g0 (z0 I.sz hp) g1 g4 g5 ⟨hz,its,r,_,ht,rfl,_,rfl⟩
end
def Src.sq(K:PySem.W.Frag)(H:Hp)(xs:List V):Src->Prop
 |.l a=>SqL K H a xs
 |.t a=>SqT K H a xs
variable{sr:Src}
theorem Src.sq.val{X:Cx}{jR:List (qM×Obj)}{σ:St}{H:Hp}{xs:List V}(I:Inv X jR σ H s)(h:sr.sq X.K H xs):∃its:List jZ,Vals xs its/\sr.val s.heap its.toArray/\xs.length<=sizeLine:=by
 cases sr with
 |l a=>obtain⟨its,r,p,hz⟩:=I.list h;exact⟨its,r,p.isList,hz⟩
 |t a=>obtain⟨its,r,p,hz⟩:=I.tuple h;exact⟨its,r,p,hz⟩
theorem Src.sq.inj{X:Cx}{jR:List (qM×Obj)}{σ:St}{H:Hp}{xs ys:List V}(I:Inv X jR σ H s)(h:sr.sq X.K H xs)(h':sr.sq X.K H ys):xs=ys:=by
 cases sr with
 |l a=>exact I.Rb h h'
 |t a=>exact I.Q3 h h'
def Ite(K:PySem.W.Frag)(sr:Src)(n:Int):It:=
 ⟨λi H=>∃xs x,sr.sq K H xs/\xs[i]?=jS x,λi H v H'=>∃p x,v=.ref p/\H p=jT/\H'=upd H p (.tup [.int (n+i),x])/\∀xs,sr.sq K H xs->xs[i]?=jS x,λi H=>∃xs,sr.sq K H xs/\xs.length<=i⟩
theorem ZED{P:qS}{w:jJ}{K:PySem.W.Frag}{elts:List qO}{x1}{pos:Pos}(sr:Src)(n:Int)(e it:qM)(hne:e≠it):
  Turn P w K (.Tuple elts x1 pos) (Ite K sr n) [e,it] e (λi h=>∃g old,En h e it .none (n+i) g old/\Gv (n+i) g/\sr.it h it i) where
 mem:=by simp
 obj:=λi h st b hb=>by
  obtain⟨g,old,he,_,o,ho,_,hd⟩:=st;rcases(show b=e∨b=it by simpa using hb)with rfl|rfl
  ·exact⟨_,he,λv z=>by cases z⟩
  ·exact⟨o,ho,λv z=>by rw[hd]at z;cases z⟩
 keep:=λi h h' st k=>by obtain⟨g,old,he,hg,hi⟩:=st;exact⟨g,old,k e (by simp) _ he,hg,hi.at λo q=>k it (by simp) o q⟩
 item:=by
  intro X hP hw hK hc i jR s σ H E I hf st hg;subst hP hw hK;obtain⟨xs,x,hq,hx⟩:=hg;obtain⟨its,rv,hv,hz⟩:=Src.sq.val I hq;obtain⟨u,hu,ru⟩:=rv.get hx;obtain⟨g,old,he,hgv,hi⟩:=st;refine ZDK he hgv hi hv (x:=u) (by simpa using hu) hne λh1 t tk e1 i1 t1 z1 k1=>⟨_,rfl,?_⟩
  refine ZAl (s:={s with heap:=h1,toks:=tk}) e1 λh2 e2 sb=>?_
  have hpe:s.heap.objs.size≠e:=q8 (zX he);have I2:Inv X jR σ (upd H s.heap.objs.size (.tup [.int (n+i),x])) {s with heap:=h2,toks:=tk}:=
   ZCg (fp:=[e,it]) (its:=[.int (n+i) t,u]) I (λb o hb q=>by
    have hb':b≠e/\b≠it:=by simpa using hb
    exact sb.extBut b o hb'.1 (k1 b o hb'.1 hb'.2 q)) hf (zW _) (by show 2<=sizeLine;decide) (.cons ⟨t,rfl⟩ (.cons ru .nil)) (sb.extBut _ _ hpe t1)
  have hfr:H s.heap.objs.size=jT:=I.hok.fresh (zW _);refine⟨.ref s.heap.objs.size,_,I2,rfl,⟨_,x,rfl,hfr,rfl,λys hy=>by rw[Src.sq.inj I hy hq];exact hx⟩,⟨.none,u,?_,.inl rfl,i1.at λo q=>sb.extBut _ _ (Ne.symm hne) q⟩,λb hb=>?_⟩
  ·have ee:n+(i:Int)+1=n+((i+1:Nat):Int):=by lia
   rw[<-ee];exact e2
  ·have hb':b=e∨b=it:=by simpa using hb
   rw[Aq (λz=>?_)]
   ·exact(hf b hb).1
   ·rcases hb' with rfl|rfl
    ·exact hpe z.symm
    ·have hlt:=Src.it.lt hi;rw[z]at hlt;exact zB _ hlt
 done:=by
  intro X hP hw hK hc i jR s σ H E I hf st hg;subst hP hw hK;obtain⟨xs,hq,hx⟩:=hg;obtain⟨its,rv,hv,hz⟩:=Src.sq.val I hq;obtain⟨g,old,he,hgv,hi⟩:=st;have hl:=rv.length;refine ZDw (I.ok.hd hc) he hi hv (by simp;lia) λh1 xb=>⟨rfl,?_⟩
  exact Wr (t':=s.toks) (fp:=[e,it]) I (λb o hb q=>xb b o (λz=>hb (by simp[z])) q) hf
 self:=λ_ _ _ _ _ st h=>by obtain⟨g,old,he,_⟩:=st;exact Wv he h
section
variable{X:Cx}{E:XK}
theorem ZCq{prog:qS}{w:jJ}{A:qN}{E:jZ->qU->Prop}{xs:Array jZ}{Q:jZ->qU->Prop}(hv:sr.val s.heap xs)
  (h:∀h',En h' (s.heap.objs.size+1) s.heap.objs.size .none 0 .none .none->sr.it h' s.heap.objs.size 0->(∀b o,s.heap.get? b=jS o->h'.get? b=jS o)->Q (.ref (s.heap.objs.size+1)) {s with heap:=h'}):
  jA (j5 prog w) A (call (.type "enumerate") [.ref sr.adr]) Q E s:=by
 have g:Meets (Builtin.«enumerate.__new__» ⟨[.type "enumerate",.ref sr.adr],[]⟩) (λ_ R s=>sr.val s.heap xs/\
   R (.ok (.ret (.ref (s.heap.push {cls:=.type sr.itn,data:=.fields #[.ref sr.adr,.int 0 0]}).objs.size)))
    {s with heap:=(s.heap.push {cls:=.type sr.itn,data:=.fields #[.ref sr.adr,.int 0 0]}).push {cls:=.type "enumerate",data:=.fields #[.none,.bool xQ,.ref s.heap.objs.size,j6 0,.none,.none]}}):=
  .of_wp λprog w A R s h=>by
   obtain⟨hp,g,d,tk,os⟩:=s;obtain⟨hl,h⟩:=h;have hsub:=sub_enumerate;have hL:sr.val (Shared.heap ⟨hp,g,d,tk,os⟩) xs:=hl
   wp_walk
   refine wpAny_stack_any λst=>jL ?_
   split
   ·rename_i c _ _ _ _ _
    cases(c==Value.type "enumerate")<;>(wp_walk using Src.iter hL;exact⟨_,rfl,h⟩)
   ·wp_walk using Src.iter hL
    exact⟨_,rfl,h⟩
 refine callType_new PySem.F.called_enumerate (by decide) (PySem.F.typeCall_enumerate_1 _) (PySem.F.newCall_enumerate_1 _) (λobj=>PySem.F.args_object_init_2 obj _) PySem.F.entry_enumerate_new g ⟨hv,?_⟩;have hz:(s.heap.push {cls:=.type sr.itn,data:=.fields #[.ref sr.adr,.int 0 0]}).objs.size=s.heap.objs.size+1:=qj ..;show _/\_;rw[hz];have he:En ((s.heap.push {cls:=.type sr.itn,data:=.fields #[.ref sr.adr,.int 0 0]}).push {cls:=.type "enumerate",data:=.fields #[.none,.bool xQ,.ref s.heap.objs.size,j6 0,.none,.none]}) (s.heap.objs.size+1) s.heap.objs.size .none 0 .none .none:=by
  have:=zj (s.heap.push {cls:=.type sr.itn,data:=.fields #[.ref sr.adr,.int 0 0]}) (o:={cls:=.type "enumerate",data:=.fields #[.none,.bool xQ,.ref s.heap.objs.size,j6 0,.none,.none]}) rfl;rw[hz]at this;exact this
 exact⟨⟨_,he,rfl⟩,h _ he ⟨_,zZ _ (zj _ rfl),rfl,rfl⟩ λb o x=>zZ _ (zZ _ x)⟩
def ZB3(K:PySem.W.Frag)(ta:TA):TI:=λσ H R=>ta σ H λvs H1=>∃sr xs,vs=[.ref (Src.adr sr)]/\sr.sq K H1 xs/\R (Ite K sr 0) H1
theorem ZEz{elts:List qO}{x1}{tp:Pos}{a:qO}{ta:TA}{p pos:Pos}(hg:Gl X "enumerate")(hm:X.mg "enumerate"=jT)(ha:PA X [a] ta)(hs:j8 [a] X.env=[(xQ,eval a X.env)]:=by rfl):PI X (.Tuple elts x1 tp) (.Call (.Name "enumerate" p) [a] [] pos) (ZB3 X.K ta):=by
 intro jR s σ H R I h;refine Call_ (Ka I hg hm PyProof.Rows.boot_enumerate (PyProof.Rows.callWith_type1 (thn (ha pos jR s σ H _ I h) λus s1 ⟨vs,H1,I1,r1,q1⟩=>?_) hs rfl));obtain⟨sr,xs,e,hq,q⟩:=q1;subst e;cases r1 with
 |cons r rr=>
  cases rr;cases r;obtain⟨its,rv,hv,hz⟩:=Src.sq.val I1 hq;refine ZCq hv λh' he hi kp=>?_
  refine Wv he ?_;have I2:Inv X jR σ H1 {s1 with heap:=h'}:=I1.kept (t':=s1.toks) kp;refine⟨s1.heap.objs.size+1,[s1.heap.objs.size+1,s1.heap.objs.size],_,_,H1,rfl,I2,ZED sr 0 _ _ (Nat.succ_ne_self _),⟨.none,.none,by simpa using he,.inl rfl,hi⟩,λb hb=>?_,q⟩;have hb':b=s1.heap.objs.size+1∨b=s1.heap.objs.size:=by simpa using hb
  have hle:s1.heap.objs.size<=b:=by rcases hb' with rfl|rfl<;>lia
  exact I1.Jb hle (I1.hok.fresh hle)
end
section
variable{X:Cx}{jR:List (qM×Obj)}{σ:St}{H:Hp}{s:qU}
end
def lenOf(G:DH)(d:D):Nat:=match Ce d G with
 |some xs=>xs.length
 |none=>0
def W8(G:DH)(d:D):Bool:=(Ce d G).isSome
def Gz(n:Int)(d:D)(j:Nat)(G:DH):Option (Option D):=match Ce d G with
 |none=>jT
 |some xs=>jS (xs[j]?.map λx=>.tup [.int (n+j),x])
def Kl(ds:List D)(G:DH):R ItD:=match ds with
 |[d]=>if W8 G d=jU then .ok (.fn (lenOf G d) (Gz 0 d)) G else .bad
 |_=>.bad
section
variable{X:Cx}{E:XK}
theorem ZAV{a:Wd}{G:DH}{d:D}{v:V}{xs:List D}(s:Sim a G)(r:Rep a d v)(h:Ce d G=jS xs):
  ∃sr:Src,v=.ref sr.adr/\(∃vs,sr.sq a.K a.H vs)/\∀b:Wd,Ext a b->∀G',Sim b G'->∀ys,Ce d G'=jS ys->∃us,sr.sq b.K b.H us/\Reps b ys us:=by
 cases d with
 |tup ds=>
  obtain⟨p,vs,rfl,hq,rv⟩:=r;refine⟨.t p,rfl,⟨vs,hq⟩,λb x G' s' ys hy=>?_⟩
  cases(show jS ds=jS ys from hy)
  exact⟨vs,x.sqT hq,rv.mono x⟩
 |fl ds=>
  obtain⟨p,vs,rfl,hq,rv⟩:=r;refine⟨.l p,rfl,⟨vs,hq.sq⟩,λb x G' s' ys hy=>?_⟩
  cases(show jS ds=jS ys from hy)
  exact⟨vs,(x.fzL hq).sq,rv.mono x⟩
 | ref i=>
  obtain⟨hi,rfl⟩:=r;have hx:∃zs,G[i]?=jS (.lst zs):=by
   unfold Ce at h;dsimp only at h;split at h
   ·rename_i zs hz;exact⟨zs,hz⟩
   ·cases h
  obtain⟨zs,hz⟩:=hx;obtain⟨vs,e1,_⟩:=s.lst hz;refine⟨.l (a.m i),rfl,⟨vs,.of e1⟩,λb x G' s' ys hy=>?_⟩;unfold Ce at hy;dsimp only at hy;split at hy
  ·rename_i zs' hz';cases hy;obtain⟨us,e2,r2⟩:=s'.lst hz';rw[x.m i hi]at e2;exact⟨us,.of e2,r2⟩
  ·cases hy
 |_=>cases h
theorem ZBi{a:Wd}{G:DH}{d:D}{v:V}(hk:a.K=X.K)(rd:∀b:Wd,Ext a b->∀G',Sim b G'->∀ys,Ce d G'=jS ys->∃us,sr.sq b.K b.H us/\Reps b ys us)(n:Nat):RepI a (.fn n (Gz 0 d)) (Ite X.K sr 0):=by
 intro b x G' s' i;have kb:b.K=X.K:=x.k.trans hk;constructor
 ·intro e he;unfold Gz at he;split at he
  ·cases he
  ·rename_i ys hy;obtain⟨us,hq,ru⟩:=rd b x G' s' ys hy;rw[kb]at hq;cases hyi:ys[i]? with
   |none=>rw[hyi]at he;cases he
   |some y=>
    rw[hyi]at he;have he':D.tup [.int (0+i),y]=e:=by simpa using he
    subst he';obtain⟨u,hu,rx⟩:=ru.get hyi;refine⟨⟨us,u,hq,hu⟩,?_⟩;rintro w H' ⟨p,u',rfl,hp,rfl,hu'⟩;refine⟨b.put p (.tup [.int (0+i),u']),rfl,Ext.put hp,s'.put hp,p,_,rfl,.of Eh,?_⟩;have e1:=hu' us hq;rw[hu]at e1;cases e1;exact⟨_,_,rfl,rfl,Reps.cons (rx.mono (Ext.put hp)) rfl⟩
 ·intro he;unfold Gz at he;split at he
  ·cases he
  ·rename_i ys hy;obtain⟨us,hq,ru⟩:=rd b x G' s' ys hy;rw[kb]at hq;cases hyi:ys[i]? with
   |none=>exact⟨us,hq,by rw[<-ru.length];exact qy.mp hyi⟩
   |some y=>rw[hyi]at he;cases he
theorem ZCt{elts:List qO}{x1}{tp:Pos}{e:qO}{ta:DA}{p pos:Pos}(hg:Gl X "enumerate")(hm:X.mg "enumerate"=jT)(ha:QA X E [e] ta)(hs:j8 [e] X.env=[(xQ,eval e X.env)]:=by rfl):
  QI X E (.Tuple elts x1 tp) (.Call (.Name "enumerate" p) [e] [] pos) (Ew Kl ta):=(ZEz hg hm ha hs).mono λσ H Q h=>by
 obtain⟨a,S,G,hk,rfl,s,r,h⟩:=h;refine⟨a,S,G,hk,rfl,s,r,(Vd h).imp ?_⟩;rintro vs _ ⟨b,ds,G1,rfl,x,s1,q,-,h1⟩;unfold Kl at h1;split at h1
 ·rename_i d;split at h1
  ·rename_i hok;obtain⟨v,r,e1,q1,q2⟩:=q
   cases(show r=[]from q2)
   subst e1
   obtain⟨xs,hx⟩:=Option.isSome_iff_exists.mp (show(Ce d G1).isSome=jU from hok)
   obtain⟨sr,rfl,⟨us,hq⟩,rd⟩:=ZAV s1 q1 hx;have kb:b.K=X.K:=x.k.trans hk;exact⟨sr,us,rfl,by rw[<-kb];exact hq,h1 b _ (Ext.refl b) s1 (ZBi (G:=G1) (v:=.non) kb rd _)⟩
  ·exact h1.elim
 ·exact h1.elim
end
section
variable{X:Cx}{E:XK}
end
def Jv(ds:List D)(G:DH):R D:=match ds with
 | [d]=>match Ce d G with
  |some xs=>match Eg xs with
   |some (n::ns)=>.ok (.int (ns.foldl max n)) G
   |_=>.bad
  |none=>.bad
 |_=>.bad
theorem Wg:∀(ns:List Int)(n:Int),n<=ns.foldl max n/\(∀x∈ns,x<=ns.foldl max n)/\(ns.foldl max n=n∨ns.foldl max n∈ns)
 |[],n=>⟨Int.le_refl _,λx h=>(by cases h),.inl rfl⟩
 | m::ns,n=>by
  obtain⟨h1,h2,h3⟩:=Wg ns (max n m);rw[List.foldl_cons];refine⟨by lia,λx hx=>?_,?_⟩
  ·rcases zw.mp hx with rfl|hx
   ·lia
   ·exact h2 x hx
  ·rcases h3 with h|h
   ·by_cases e:m<=n
    ·exact .inl (by rw[h];lia)
    ·exact .inr (by rw[h];rw[show max n m=m by lia];exact zE)
   ·exact .inr (zY _ h)
section
variable{X:Cx}{E:XK}
theorem intAt{ns:List Int}{its:List jZ}{i:Nat}{w:jZ}(hv:Vals (ns.map V.int) its)(hw:its.toArray[i]?=jS w):i<ns.length/\∃t,w=.int (ns.getD i 0) t:=by
 have hw':its[i]?=jS w:=by simpa using hw
 have hl:i<(ns.map V.int).length:=by rw[hv.length];exact(zx.mp hw').1
 have hl':i<ns.length:=by simpa using hl
 obtain⟨u,hu,ru⟩:=hv.get (i:=i) (x:=V.int ns[i]) (by simp[hl']);rw[hw']at hu;cases hu;obtain⟨t,rfl⟩:=ru;exact⟨hl',t,by simp[hl']⟩
theorem ZEJ(hc:X.calm=jU):CallR X (.builtin "max") (lRn X.K E Jv):=by
 intro jR s σ H vs us Q I rs h;obtain⟨a,G,ds,hk,rfl,sm,r,q⟩:=h;unfold Jv at q;split at q
 ·rename_i d;obtain⟨v,rfl,rv⟩:=reps1 r;split at q
  ·rename_i xs hs;split at q
   ·rename_i n ns hn;cases Yd hn;obtain⟨p,ws,rfl,h1,r1⟩:=Ov sm rv hs;cases Vi r1;rw[hk]at h1;obtain⟨u,rfl,ru⟩:=vals1 rs;cases ru;refine call_max_walk (ZAF I hc h1 λit fp wr its St s₂ hv W st hfp fin=>⟨it,fp,wr,its.toArray.size,_,St,_,rfl,W,st,hfp,?_,CmpOf.ints_gt (λi=>(n::ns).getD i 0) (λi w hw=>(intAt hv hw).2),λw h' tk hw kk=>?_⟩)
    ·rw[zq,<-hv.length];simp
    ·obtain⟨hl,t,rfl⟩:=intAt hv hw;obtain⟨b1,b2⟩:=argBest_gt (λi=>(n::ns).getD i 0) (its.toArray.size-1);refine⟨.int (ns.foldl max n),a.H,fin h' tk kk,⟨t,?_⟩,q a _ (Ext.refl a) sm rfl⟩;have hsz:its.toArray.size=ns.length+1:=by rw[zq,<-hv.length];simp
     obtain⟨m1,m2,m3⟩:=Wg ns n;have hle:∀x∈n::ns,x<=ns.foldl max n:=λx hx=>by
      rcases zw.mp hx with rfl|hx
      ·exact m1
      ·exact m2 x hx
     have hin:ns.foldl max n∈n::ns:=by
      rcases m3 with h|h
      ·rw[h];exact zE
      ·exact zY _ h
     obtain⟨j,hj,ej⟩:=List.getElem_of_mem hin;have c1:=b2 j (by simp at hj;lia);have c2:=hle _ (List.getElem_mem hl);have e1:(n::ns).getD j 0=ns.foldl max n:=by rw[qk,zK hj];exact ej
     have e2:(n::ns).getD (argBest (λi j=>decide ((λi=>(n::ns).getD i 0) i>(λi=>(n::ns).getD i 0) j)) (its.toArray.size-1)) 0=(n::ns)[argBest (λi j=>decide ((λi=>(n::ns).getD i 0) i>(λi=>(n::ns).getD i 0) j)) (its.toArray.size-1)]:=by rw[qk,zK hl];rfl
     have c1':=c1;rw[e1]at c1';rw[<-e2]at c2
     congr 1
     exact Int.le_antisymm c2 c1'
   ·exact q.elim
  ·exact q.elim
 ·exact q.elim
end
end DL
namespace DL
open PySem PySem.W PyProof.Rows
end DL
namespace DL
open PySem PySem.Spec L2
open PyProof.Rows hiding St
variable{g:DG}{xs:List D}{d:D}
section
variable{prog:qS}{w:jJ}{A:qN}{s:qU}
end
section
variable{X:Cx}{E:XK}{jR:List (qM×Obj)}{σ:St}{s:qU}{H:Hp}{h':Heap}
end
section
variable{prog:qS}{w:jJ}{A:qN}{E:jZ->qU->Prop}{s:qU}
end
section
variable{X:Cx}{E:XK}{jR:List (qM×Obj)}{σ:St}{s:qU}{H:Hp}
end
section
variable{X:Cx}{E:XK}
end
section
variable{S:DSt}{G:DH}
noncomputable def Ft(xs:List D):List D:=xs.zipIdx.map λq=>.tup [.int q.2,q.1]
theorem Yx{f:Nat->DH->Option (Option D)}{b:DS}(h:∀j G,f j G=jS xs[j]?):∀(n j:Nat),j+n=xs.length->∀S G,Cr f g b n j S G=Bp g b (xs.drop j) S G
 |0,j,e,S,G=>by
  unfold Cr;rw[h,zR (by lia),q9 (by lia)]
  rfl
 |n+1,j,e,S,G=>by
  have hj:j<xs.length:=by lia
  unfold Cr;rw[h,zK hj,qX hj,Ed];have:Cr f g b n (j+1)=Bp g b (xs.drop (j+1)):=by funext S G;exact Yx h n (j+1) (by lia) S G
  rw[this]
theorem ZFB{f:Nat->DH->Option (Option D)}{b:DS}{n:Nat}(h:∀j G,f j G=jS xs[j]?)(hn:n=xs.length):Cr f g b n 0 S G=Bp g b xs S G:=by rw[Yx h n 0 (by lia)];rfl
theorem ZCn(j:Nat)(G:DH):Gz 0 (.tup xs) j G=jS (Ft xs)[j]? :=by
 unfold Gz Ft;simp only[Ce,z5,List.getElem?_zipIdx]
 cases xs[j]?<;>simp
theorem Tz:(Ft xs).length=xs.length:=by simp[Ft]
@[simp]theorem ZF5:Kl [.tup xs] G=.ok (.fn xs.length (Gz 0 (.tup xs))) G:=by simp[Kl,W8,Ce,lenOf]
@[simp]theorem ZGK{b:DS}:Cr (Gz 0 (.tup xs)) g b xs.length 0 S G=Bp g b (Ft xs) S G:=ZFB ZCn Tz.symm
theorem ZFD{n:Int}{ns:List Int}(h:Ce d G=jS ((n::ns).map D.int)):Jv [d] G=.ok (.int (ns.foldl max n)) G:=by simp only[Jv,h,ZDR]
end
def Bts(i:Int):Prop:=i.natAbs.log2<33554432
def MulB(i j:Int):Prop:=CMul i j∨(Bts i/\Bts j)
noncomputable instance (i:Int):Decidable (Bts i):=by unfold Bts;infer_instance
noncomputable instance (i j:Int):Decidable (MulB i j):=by unfold MulB;infer_instance
theorem MulB.ok{i j:Int}(h:MulB i j):IntMulOk i j:=by
 rcases h with h|⟨h1,h2⟩
 ·exact h.ok
 ·have b:∀k:Int,Bts k->Builtin.Int.intBits k<=33554432:=λk hk=>by
   unfold Builtin.Int.intBits;split
   ·exact Nat.zero_le _
   ·exact hk
  have c1:=b i h1;have c2:=b j h2;have h:Builtin.Int.intTooBig (Builtin.Int.intBits i+Builtin.Int.intBits j)=xQ:=by unfold Builtin.Int.intTooBig bitsLine;exact decide_eq_false (by lia)
  unfold IntMulOk;rw[h];simp
section
variable{X:Cx}{E:XK}
theorem ZDg:OpR X (jY .Mult) (rI MulB λi j=>.int (i*j)):=opI λ_ _ _ _ _ _ _ hc q=>mul_int q hc.ok
end
section
variable{i j:Int}{G:DH}
end
section
variable{X:Cx}{E:XK}
end
theorem RepF.uncons{a:Wd}{g:Str}{fs:List (Str×D)}{us:List (Str×V)}(h:RepF a ((g,d)::fs) us):∃v us',us=(g,v)::us'/\Rep a d v/\RepF a fs us':=by
 obtain⟨h1,h2⟩:=h;cases us with
 |nil=>simp at h1
 |cons q us=>
  obtain⟨g',y⟩:=q;simp only[zI,List.cons.injEq]at h1;obtain⟨rfl,h1⟩:=h1;obtain⟨v,r,e1,r1,r2⟩:=h2;simp only[zI,List.cons.injEq]at e1;obtain⟨rfl,rfl⟩:=e1;exact⟨y,us,rfl,r1,h1,r2⟩
theorem lkc{α:Type}{f g:Str}{x:α}{fs:List (Str×α)}:qC f ((g,x)::fs)=if(f==g)=jU then jS x else fs.lookup f:=by
 show(match f==g with
  |true=>jS x
  |false=>qC f fs)=_
 cases f==g<;>rfl
theorem RepF.look{a:Wd}{f:Str}:∀{fs:List (Str×D)}{us:List (Str×V)},RepF a fs us->fs.lookup f=jS d->∃u,us.lookup f=jS u/\Rep a d u
 |[],us,h,e=>by simp at e
 |(g,x)::fs,us,h,e=>by
  obtain⟨v,us',rfl,hv,hr⟩:=h.uncons;rw[lkc]at e⊢;by_cases q:(f==g)=jU
  ·rw[if_pos q]at e⊢;cases e;exact⟨v,rfl,hv⟩
  ·rw[if_neg q]at e⊢;exact RepF.look hr e
section
variable{X:Cx}{E:XK}{c f m:Str}{C:qM}{e o:qO}{es:List qO}{t ta tv:DE}{tr:DA}{pos apos pos':Pos}
end
theorem Nq:∀{ns:List Int}{us:List jZ},Vals (ns.map V.int) us->us.length=ns.length/\∀(j:Nat)(u:jZ),us[j]?=jS u->∃t,∃h:j<ns.length,u=.int ns[j] t
 |[],us,h=>by cases h;exact⟨rfl,λj u e=>by simp at e⟩
 | n::ns,us,h=>by
  cases h with
  | cons r rr=>
   obtain⟨h1,h2⟩:=Nq rr;obtain⟨t,rfl⟩:=r;refine⟨by simp[h1],λj u e=>?_⟩;cases j with
   |zero=>simp at e;exact⟨t,by simp,by simpa using e.symm⟩
   |succ j=>
    obtain⟨t',hj,e'⟩:=h2 j u (by simpa using e);exact⟨t',by simpa using hj,by simpa using e'⟩
section
variable{X:Cx}{E:XK}
end
section
variable{prog:qS}{w:jJ}{A:qN}{E:jZ->qU->Prop}{s:qU}
end
section
variable{X:Cx}{E:XK}
end
end DL
namespace DL
open PySem PySem.Spec L2
section
variable{S:DSt}{G:DH}{c f m:Str}{t to tv:DE}{ta:DA}{F:List D->DH->R D}{i:Nat}{fs:List (Str×D)}{v d:D}
end
end DL
namespace DL
open PySem PySem.Spec L2
open PyProof.Rows hiding St
def Il(x:Str)(n:Int):Str:=if n<1 then Str.empty else if(n==1||x.length==0)=jU then x else⟨(zQ n.toNat x.cps).foldl (·++·) #[]⟩
theorem Pk{a:Array Nat}:∀(n:Nat)(b:Array Nat),((zQ n a).foldl (·++·) b).toList=b.toList++(zQ n a.toList).flatten
 |0,b=>by simp
 |n+1,b=>by rw[qW,List.foldl_cons,Pk n (b++a),qW,List.flatten_cons];simp
theorem ZCf{a:Array Nat}(n:Nat):((zQ n a).foldl (·++·) #[]).size=n*a.size:=by rw[<-qQ,Pk];simp
theorem ZFG{x:Str}{n:Int}:(Il x n).cps.toList=(zQ n.toNat x.cps.toList).flatten:=by
 unfold Il;split
 ·rename_i h;have e:n.toNat=0:=by lia
  rw[e];rfl
 ·rename_i h;split
  ·rename_i hx;rw[Bool.or_eq_true,beq_iff_eq,beq_iff_eq]at hx;rcases hx with rfl|hx
   ·simp
   ·have e:x.cps.toList=[]:=by have:x.cps.size=0:=hx;rw[<-qQ]at this;exact zT this
    rw[e];simp
  ·show((zQ n.toNat x.cps).foldl (·++·) #[]).toList=_
   rw[Pk];simp
def Ba:D->D->DH->R D
 |.int i,.int j,G=>if MulB i j then .ok (.int (i*j)) G else .bad
 |.str x,.int n,G=>if -1000<=n/\n<=1000/\x.length<=1000 then .ok (.str (Il x n)) G else .bad
 |_,_,_=>.bad
section
variable{X:Cx}{E:XK}
theorem ZBz:OpR X (jY .Mult) (λx y H Q=>∃i n,x=.str i/\y=.int n/\(-1000<=n/\n<=1000/\i.length<=1000)/\Q (.str (Il i n)) H):=by
 intro jR s σ H x y v u Q I rx ry h;obtain⟨i,n,rfl,rfl,⟨h1,h2,h3⟩,q⟩:=h;obtain⟨t,rfl⟩:=rx;obtain⟨t',rfl⟩:=ry;have hlen:∀m:Nat,m<=1000->i.length*m<=1000000:=λm hm=>z0 (Nat.mul_le_mul h3 hm) (by decide)
 refine P.mul_str ?_ (λhn hx=>?_) (λhn hx=>?_) ?_
 ·rw[decide_eq_false (by lia),decide_eq_false (by lia)];rfl
 ·intro hgt;have hm:0<n:=by lia
  have:(i.length:Int)*n<=2^63-1:=by have h4:(i.length:Int)*n<=1000*1000:=Int.mul_le_mul (by lia) h2 (by lia) (by lia);lia
  have h5:=(Int.le_ediv_iff_mul_le hm).mpr this;lia
 ·have:=hlen n.toNat (by lia);unfold Builtin.Str.tooLong;rw[j7];exact decide_eq_false (by lia)
 ·unfold Il at q;split
  ·rename_i hn;rw[if_pos hn]at q;exact⟨by decide,.str Str.empty,H,I.tok _,⟨_,rfl⟩,q⟩
  ·rename_i hn;rw[if_neg hn]at q;split
   ·rename_i hx;rw[if_pos hx]at q;exact⟨.str i,H,I,⟨t,rfl⟩,q⟩
   ·rename_i hx;rw[if_neg hx]at q;refine⟨?_,.str _,H,I.tok _,⟨_,rfl⟩,q⟩
    show((zQ n.toNat i.cps).foldl (·++·) #[]).size<=sizeLine
    have h6:i.cps.size<=1000:=h3;have h7:=Nat.mul_le_mul (show n.toNat<=1000 by lia) h6;rw[ZCf,j7];lia
theorem Cd:OpR X (jY .Mult) (lR2 X.K E Ba):=El (ZDg.or ZBz) λa G d e x y Q hk s rd re q=>by
 cases d<;>cases e<;>first
  |exact q.elim
  | (
    rename_i i j;unfold Ba at q;dsimp only at q;split at q
    ·first
     |exact .inl ⟨_,_,rd,re,by assumption,q a _ (Ext.refl a) s rfl⟩
     |exact .inr ⟨_,_,rd,re,by assumption,q a _ (Ext.refl a) s rfl⟩
    ·exact q.elim)
end
section
variable{i j:Int}{G:DH}
theorem Iv(h1: -(2^64)<i)(h2:i<2^64):Ba (.int i) (.int j) G=.ok (.int (i*j)) G:=if_pos (.inl (.inl ⟨h1,h2⟩))
theorem Hn(h1: -(2^64)<j)(h2:j<2^64):Ba (.int i) (.int j) G=.ok (.int (i*j)) G:=if_pos (.inl (.inr ⟨h1,h2⟩))
@[simp]theorem ZF1{n:Nat}(h:n<18446744073709551616):Ba (.int (no_index (OfNat.ofNat n))) (.int j) G=.ok (.int (OfNat.ofNat n*j)) G:=
 Iv (by have:(0:Int)<=(OfNat.ofNat n:Int):=Int.natCast_nonneg n;lia) (by have:(OfNat.ofNat n:Int)<18446744073709551616:=Int.ofNat_lt.mpr h;lia)
@[simp]theorem ZFo{n:Nat}(h:n<18446744073709551616):Ba (.int i) (.int (no_index (OfNat.ofNat n))) G=.ok (.int (i*OfNat.ofNat n)) G:=
 Hn (by have:(0:Int)<=(OfNat.ofNat n:Int):=Int.natCast_nonneg n;lia) (by have:(OfNat.ofNat n:Int)<18446744073709551616:=Int.ofNat_lt.mpr h;lia)
theorem ZDL{x:Str}{n:Int}(h: -1000<=n/\n<=1000/\x.length<=1000):Ba (.str x) (.int n) G=.ok (.str (Il x n)) G:=if_pos h
end
section
variable{X:Cx}{E:XK}{e st:qO}{te:TE}{ts:TO}{p2 pos:Pos}
end
section
variable{S:DSt}{G:DH}
end
section
variable{X:Cx}{E:XK}
end
section
variable{S:DSt}{G:DH}
end
section
variable{X:Cx}{jR:List (qM×Obj)}{σ:St}{H:Hp}{s:qU}{N:List Str}{scope:qT}{caps:List Nat}{x qual:Str}{f:qM}{cd:jZ}{A:qN}
end
section
variable{X:Cx}{jR:List (qM×Obj)}{σ:St}{s:qU}{scope:qT}{a:Wd}
end
section
variable{prog:qS}{w:jJ}{A:qN}{E:jZ->qU->Prop}{s:qU}
end
section
variable{X:Cx}{jR:List (qM×Obj)}{σ:St}{H:Hp}{s:qU}{h':Heap}{m:Str->Option jZ}
end
section
variable{X:Cx}{jR:List (qM×Obj)}{σ:St}{N:List Str}{scope:qT}{caps:List Nat}{x:Str}{f:qM}{A:qN}{a:Wd}{S:DSt}{body:qO}{te:DE}{params:Arguments}{pm ctv:jZ}{c':qM}{ob oc:Obj}{vs0:Array jZ}{t0:Tok}{E:XK}
 {Dd kS:qM} {e1:Nat} {m:Str->Option jZ} {h₀:Heap} {Q:VK}
end
end DL
namespace DL
open PySem PySem.Spec L2
open PyProof.Rows hiding St
open PySem.W (KatKeys KatFin katRev KatBack)
section
variable{prog:qS}{w:jJ}{A:qN}{E:jZ->qU->Prop}{s:qU}{h₀:Heap}{L a kS:qM}{m:Str->Option jZ}{P:PySem.Fin->qU->Prop}
end
end DL
namespace DL
open PySem PySem.Spec L2
open PyProof.Rows hiding St
section
variable{X:Cx}{jR:List (qM×Obj)}{σ:St}{N:List Str}{scope:qT}{caps:List Nat}{x:Str}{f:qM}{A:qN}{a:Wd}{S:DSt}{body:qO}{te:DE}{params:Arguments}{pm ctv:jZ}{c':qM}{ob oc:Obj}{vs0:Array jZ}{t0:Tok}
 {Dd kS:qM} {e1:Nat} {m:Str->Option jZ} {h₀:Heap} {Q:VK}
end
section
variable{X:Cx}{jR:List (qM×Obj)}{σ:St}{N:List Str}{scope:qT}{caps:List Nat}{x:Str}{f:qM}{A:qN}{a:Wd}{S:DSt}{body:qO}{te:DE}{params:Arguments}{pm ctv:jZ}{c':qM}{ob oc:Obj}{vs0:Array jZ}{t0:Tok}{Q:VK}
end
section
variable{X:Cx}{N:List Str}{scope:qT}{caps:List Nat}{x:Str}{body:qO}{te:DE}{params:Arguments}{e:qO}{tn:DA}{p p' pos pos' lp kp kp' cp:Pos}{C m:Str}{cj:Nat}
end
end DL
namespace DL
open PySem PySem.W L2
variable{K:jO}{C f:qM}{m x q:Str}{st:jQ}
noncomputable def Iw:List Obj->Nat->jO
 |[],_=>[]
 |o::r,n=>match o.cls,o.data with
  |.none,.fields _=>Iw r (n+1)
  |_,.freed=>Iw r (n+1)
  |_,_=>(n,o)::Iw r (n+1)
def Lb(h:Heap):jO:=Iw h.objs.toList 0
theorem Yy{a:qM}{o:Obj}:∀{l:List Obj}{n:Nat},(Iw l n).lookup a=jS o->n<=a/\l[a-n]?=jS o/\∀x y z,o≠⟨x,y,.freed,z⟩
 |[],n,h=>by cases h
 | p::r,n,h=>by
  have next:(Iw r (n+1)).lookup a=jS o->n<=a/\(p::r)[a-n]?=jS o/\∀x y z,o≠⟨x,y,.freed,z⟩:=λh=>by obtain⟨h1,h2,h3⟩:=Yy h;obtain⟨k,rfl⟩:=Nat.exists_eq_add_of_le h1;rw[Nat.add_sub_cancel_left]at h2;refine⟨z0 (qz n) h1,?_,h3⟩;rw[show n+1+k-n=k+1 by rw[Nat.add_assoc,Nat.add_sub_cancel_left,Nat.add_comm],List.getElem?_cons_succ];exact h2
  unfold Iw at h;split at h
  ·exact next h
  ·exact next h
  ·rename_i hz hf;rw[qZ]at h;split at h
   ·rename_i e;have e':a=n:=by simpa using e
    subst e';cases h;refine⟨zW _,by simp,λx y z q=>?_⟩;subst q;exact hz rfl
   ·exact next h
theorem ZCL(h:Heap):(Lb h).In h:=λa o e=>by
 obtain⟨_,h2,h3⟩:=Yy e;have h4:h.objs[a]?=jS o:=by simpa using h2
 unfold Heap.get?;rw[h4];split
 ·rename_i q;cases q;exact absurd rfl (h3 _ _ _)
 ·rfl
noncomputable def Gg(p:qS)(N:Nat)(w:jJ):Heap:=match openEnds j9 p w N with
 |some s=>s.heap
 |none=>default
def Stays(p:qS)(N:Nat)(w:jJ)(h:Heap):Prop:=∀b o,(Gg p N w).get? b=jS o->h.get? b=jS o
theorem Stays.in{p:qS}{N:Nat}{w:jJ}{h:Heap}(x:Stays p N w h):(Lb (Gg p N w)).In h:=λa o e=>x a o (ZCL _ a o e)
def Mt(p:qS)(N:Nat):Hook:=
 ⟨Heap,λs=>s.heap,Gg p N,Stays p N,λw s e b o q=>by rw[show s.heap=Gg p N w from e];exact q,λw h h' x k b o q=>k b o (x b o q)⟩
section
variable{p q:qS}{loose:List Str}{Xt:qU->Bool}{N:Nat}{β:Type}{see:Heap->β}{val:β}
theorem ZEb(E:∀w,(openEnds j9 p w N).map (λs=>(openSeen q loose (jv p.main.body) Xt jU s,see s.heap))=jS (openGood q loose,val)):
  LeftO p q loose Xt (Mt p N).obs (Mt p N).val N:=λw=>by
 obtain⟨s,h1,h2⟩:=zk.mp (E w);show Option.map _ _=jS (openGood q loose,Gg p N w);unfold Gg;rw[h1];show jS (openSeen q loose (jv p.main.body) Xt jU s,s.heap)=_;rw[(Prod.mk.inj h2).1]
theorem ZBu(E:∀w,(openEnds j9 p w N).map (λs=>(openSeen q loose (jv p.main.body) Xt jU s,see s.heap))=jS (openGood q loose,val))(w:jJ):see (Gg p N w)=val:=by obtain⟨s,h1,h2⟩:=zk.mp (E w);unfold Gg;rw[h1];exact(Prod.mk.inj h2).2
end
noncomputable def dOf(s:jQ):DefRec:=match s with
 |Stmt.FunctionDef n a b _ _ _ s _ _ p=>⟨n,a,b,s,p⟩
 |_=>⟨Str.empty,⟨[],[],jT,[],[],jT,[]⟩,[],{kind:=.module,names:=[],isGenerator:=xQ,isCoroutine:=xQ,more:=[]},⟨0,0,0,0⟩⟩
noncomputable abbrev XtOf(l:OpenLaw)(q:qS)(s:qU):Bool:=xlAt q [] s&&recOk l.row.toRowW.records s
theorem holds_top{l:OpenLaw}{q:qS}{loose:List Str}{N:Nat}{β:Type}{see:Heap->β}{val:β}{d:DefRec}(well:l.wellSaid=jU)
  (E:∀w,(openEnds j9 l.prog w N).map (λs=>(openSeen q loose (jv l.prog.main.body) (XtOf l q) jU s,see s.heap))=jS (openGood q loose,val))
  (hdef:defOf q l.row.name=jS (d,[])) (hp:l.row.prog.theDef l.row.name=jS (d.params,d.body,d.scope)) (hk:kwWritten? d.params.kwonlyargs d.params.kw_defaults=jS []) (hwr:(!l.row.writes||l.row.records.isEmpty)=jU)
  (ok:(chainsOk q&&opensWell l.row.prog&&(frees l.row.toRowW&&l.row.within.isEmpty))=jU) (hb:l.row.prog.bare) (hw:l.row.toRowW.promised)
  (call:WalkO q loose (XL q []) (Stays l.prog N) l.row.toRowW d [] λf vs=>PySem.call f vs):l.Holds:=
 holds_law well λsaid=>holds_open (r:=l.row) (q:=q) (loose:=loose) (Xt:=XtOf l q) (XP:=XL q []) (YP:=Stays l.prog N) (N:=N) (ZEb E) (Mt l.prog N).of (Mt l.prog N).keeps
  (λs e=>xl_of s (qV.mp e).1) XL.keeps hdef hp hk (λs e=>recFacts_of (qV.mp e).2) hwr said ok hb hw call
noncomputable def Af(K:jO)(n:Str):qM:=match nsIn K j4 n with
 |some (jS (.ref f))=>f
 |_=>0
noncomputable def gOk(K:jO)(n:Str):Bool:=match nsIn K j4 n with
 |some (jS (.ref _))=>jU
 |_=>xQ
theorem Ji{n:Str}(h:gOk K n=jU):nsIn K j4 n=jS (jS (.ref (Af K n))):=by
 unfold gOk at h;unfold Af;split at h
 ·rename_i e;rw[e]
 ·cases h
noncomputable def Cj(K:jO)(C:qM)(m:Str):qM:=match findIn K (.ref C) m with
 |some (jS (.ref f))=>f
 |_=>0
noncomputable def mOk(K:jO)(C:qM)(m:Str):Bool:=match findIn K (.ref C) m with
 |some (jS (.ref f))=>isFn K (.ref f)
 |_=>xQ
theorem Yz(h:mOk K C m=jU):findIn K (.ref C) m=jS (jS (.ref (Cj K C m)))/\isFn K (.ref (Cj K C m))=jU:=by
 unfold mOk at h;unfold Cj;split at h
 ·rename_i e;rw[e];exact⟨rfl,h⟩
 ·cases h
noncomputable def noF(K:jO)(C:qM)(m:Str):Bool:=match findIn K (.ref C) m with
 |some jT=>jU
 |_=>xQ
theorem Z1(h:noF K C m=jU):findIn K (.ref C) m=jS jT:=by
 unfold noF at h;split at h
 ·assumption
 ·cases h
noncomputable def zOk(K:jO)(n:Str):Bool:=match nsIn K j4 n with
 |some jT=>jU
 |_=>xQ
theorem ZDA{n:Str}(h:zOk K n=jU):nsIn K j4 n=jS jT:=by
 unfold zOk at h;split at h
 ·assumption
 ·cases h
noncomputable def Mr(K:jO)(C:qM):Bool:=match findIn K (.ref C) "__setattr__" with
 |some (jS (.builtin s))=>s == "object.__setattr__"
 |_=>xQ
theorem Wj(h:Mr K C=jU):findIn K (.ref C) "__setattr__"=jS (jS (.builtin "object.__setattr__")):=by
 unfold Mr at h;split at h
 ·rename_i e;rw[e,beq_iff_eq.mp h]
 ·cases h
noncomputable def iOk(K:jO)(n:Str)(v:Int):Bool:=match nsIn K j4 n with
 |some (jS (.int u _))=>decide (u=v)
 |_=>xQ
noncomputable def sOk(K:jO)(n:Str)(v:Str):Bool:=match nsIn K j4 n with
 |some (jS (.str u _))=>decide (u=v)
 |_=>xQ
noncomputable def Gd(K:jO)(n:Str):Tok:=match nsIn K j4 n with
 |some (jS (.int _ t))=>t
 |some (jS (.str _ t))=>t
 |_=>0
theorem ZE9{n:Str}{v:Int}(h:iOk K n v=jU):nsIn K j4 n=jS (jS (.int v (Gd K n))):=by
 unfold iOk at h;unfold Gd;split at h
 ·rename_i e;rw[e,of_decide_eq_true h]
 ·cases h
theorem ZAs{n:Str}{v:Str}(h:sOk K n v=jU):nsIn K j4 n=jS (jS (.str v (Gd K n))):=by
 unfold sOk at h;unfold Gd;split at h
 ·rename_i e;rw[e,of_decide_eq_true h]
 ·cases h
noncomputable def Ht(K:jO)(f:qM):Obj:=match K.lookup f with
 |some o=>o
 |none=>⟨.none,jT,.plain,#[]⟩
def Bl(K:jO)(f:qM):qP:=match(Ht K f).data with
 |.func fd=>fd
 |_=>default
noncomputable def ZCv:jZ->Bool
 |.none=>jU
 |_=>xQ
noncomputable def ZBm:FuncBody->Option (List jQ)
 |.stmts b=>jS b
 |_=>jT
def Oh(K:jO)(x q:Str)(f:qM):Bool:=match K.lookup f with
 |some ⟨_,_,.func fd,_⟩=>decide (fd.name=x)&&decide (fd.qualname=q)&&(fd.globals==j4&&fd.builtins==builtinsNs&&fd.closure.isEmpty&&ZCv fd.defaults)&&(codeIn K fd.code q&&keepIn K (.ref f))
 |_=>xQ
noncomputable abbrev DefTxt:=Arguments×Option (List jQ)×qT
def Mp(K:jO)(f:qM):DefTxt:=((Bl K f).params,ZBm (Bl K f).body,(Bl K f).scope)
def Mj(st:jQ):DefTxt:=(Fp st,jS (Dk st),Ao st)
abbrev FnSaid(K:jO)(x q:Str)(st:jQ)(f:qM):Prop:=
 K.lookup f=jS ⟨(Ht K f).cls,(Ht K f).dict,.func (fnOf x q (Fp st) (Dk st) (Ao st) .none (Bl K f).kwdefaults (Bl K f).doc (Bl K f).pyModule (Bl K f).annotations (Bl K f).code (Bl K f).closureTuple),(Ht K f).slots⟩/\
  codeIn K (Bl K f).code q=jU/\keepIn K (.ref f)=jU
theorem Yc(h:Oh K x q f=jU)(t:Mp K f=Mj st):FnSaid K x q st f:=by
 unfold Oh at h;split at h
 ·rename_i oc od fd sl e;have eo:Ht K f=⟨oc,od,.func fd,sl⟩:=by unfold Ht;rw[e]
  have ef:Bl K f=fd:=by unfold Bl;rw[eo]
  unfold Mp Mj at t;rw[ef]at t;obtain⟨t1,t2⟩:=Prod.mk.inj t;obtain⟨t2,t3⟩:=Prod.mk.inj t2;simp only[zz,decide_eq_true_eq,beq_iff_eq,List.isEmpty_iff]at h;obtain⟨⟨⟨h1,h2⟩,⟨⟨h3,h4⟩,h5⟩,h6⟩,h7,h8⟩:=h;unfold FnSaid;rw[ef,eo,e];refine⟨?_,h7,h8⟩;have h6':fd.defaults=.none:=by
   revert h6
   generalize fd.defaults=df;intro h6
   cases df<;>first|rfl|cases h6
  have h9:fd.body=.stmts (Dk st):=by
   revert t2
   generalize fd.body=bd;intro t2
   cases bd<;>first|(cases t2;rfl)|(cases t2)
  have ef':fd=fnOf x q (Fp st) (Dk st) (Ao st) .none fd.kwdefaults fd.doc fd.pyModule fd.annotations fd.code fd.closureTuple:=by show FuncData.mk fd.name fd.qualname fd.params fd.body fd.scope fd.globals fd.closure fd.defaults fd.kwdefaults fd.doc fd.pyModule fd.annotations fd.code fd.closureTuple fd.builtins=_;rw[h1,h2,t1,h9,t3,h3,h5,h6',h4]
  exact congrArg (λz=>jS (Obj.mk oc od (.func z) sl)) ef'
 ·cases h
noncomputable def strsOf:List jZ->Option (List Str)
 |[]=>jS []
 |.str s _::r=>(strsOf r).map (s::·)
 |_::_=>jT
theorem Od:∀{l:List jZ}{ss:List Str},strsOf l=jS ss->Vals (ss.map V.str) l
 |[],ss,h=>by cases h;exact .nil
 |v::r,ss,h=>by
  unfold strsOf at h;split at h
  ·rename_i q;cases q
  ·rename_i s t r' q;cases q;obtain⟨ss',h1,rfl⟩:=zk.mp h;exact .cons ⟨_,rfl⟩ (Od h1)
  ·cases h
def Q9(K:jO)(n:Str)(vs:List Str):Bool:=match nsIn K j4 n with
 | some (jS (.ref p))=>(match K.lookup p with
   |some ⟨.type t,_,.seq its _,_⟩=>t == "tuple"&&decide (strsOf its.toList=jS vs)&&Nat.ble its.toList.length 1000
   |_=>xQ)
 |_=>xQ
abbrev GtSaid(K:jO)(n:Str)(vs:List Str):Prop:=∃(p:qM)(od:Option qM)(sl:Array (Option jZ))(k:Nat)(its:List jZ),nsIn K j4 n=jS (jS (.ref p))/\K.lookup p=jS ⟨.type "tuple",od,.seq its.toArray k,sl⟩/\its.length<=1000/\Vals (vs.map V.str) its
theorem ZCr{n:Str}{vs:List Str}(h:Q9 K n vs=jU):GtSaid K n vs:=by
 unfold Q9 at h;split at h
 ·rename_i p e;split at h
  ·rename_i t od its k sl e2;simp only[zz,beq_iff_eq,decide_eq_true_eq]at h;obtain⟨⟨rfl,h2⟩,h3⟩:=h;exact⟨p,od,sl,k,its.toList,e,by rw[e2],zM h3,Od h2⟩
  ·cases h
 ·cases h
def Qq(K:jO)(n:Str)(kvs:List (Str×Str)):Bool:=match nsIn K j4 n with
 | some (jS (.ref p))=>(match K.lookup p with
   |some ⟨.type t,_,.dict es _,_⟩=>t == "dict" && !(p==sysModules)&&decide (strsOf (es.toList.map (·.key))=jS (kvs.map (·.1)))&&decide (strsOf (es.toList.map (·.val))=jS (kvs.map (·.2)))
   |_=>xQ)
 |_=>xQ
abbrev GdSaid(K:jO)(n:Str)(kvs:List (Str×Str)):Prop:=∃(p:qM)(od:Option qM)(sl:Array (Option jZ))(k:Nat)(es:Array DictEntry),nsIn K j4 n=jS (jS (.ref p))/\K.lookup p=jS ⟨.type "dict",od,.dict es k,sl⟩/\(p==sysModules)=xQ/\Vals ((kvs.map (·.1)).map V.str) (es.toList.map (·.key))/\Vals ((kvs.map (·.2)).map V.str) (es.toList.map (·.val))
theorem ZCH{n:Str}{kvs:List (Str×Str)}(h:Qq K n kvs=jU):GdSaid K n kvs:=by
 unfold Qq at h;split at h
 ·rename_i p e;split at h
  ·rename_i t od es k sl e2;simp only[zz,beq_iff_eq,decide_eq_true_eq,Bool.not_eq_true']at h;obtain⟨⟨⟨rfl,h2⟩,h3⟩,h4⟩:=h;exact⟨p,od,sl,k,es,e,by rw[e2],h2,Od h3,Od h4⟩
  ·cases h
 ·cases h
inductive Ask where
 |fn (n:Str) (st:jQ)
 |mt (c m q:Str) (st:jQ)
 |cl (c:Str)
 |no (c x:Str)
 |z (n:Str)
 |gi (n:Str) (v:Int)
 |gs (n v:Str)
 |gt (n:Str) (vs:List Str)
 |gd (n:Str) (kvs:List (Str×Str))
 |ck (φ:jO->Bool)
def Ask.chk(K:jO):Ask->Bool
 |.fn n _=>gOk K n&&Oh K n n (Af K n)
 |.mt c m q _=>mOk K (Af K c) m&&Oh K m q (Cj K (Af K c) m)
 |.cl c=>gOk K c&&(plainGet K (Af K c) Str.empty&&hasDictIn K (Af K c)&&plainOver K (Af K c))&&(Mr K (Af K c)&&makesIn K (Af K c)&&keepIn K (.ref (Af K c)))
 |.no c x=>noF K (Af K c) x
 |.z n=>zOk K n
 |.gi n v=>iOk K n v
 |.gs n v=>sOk K n v
 |.gt n vs=>Q9 K n vs
 |.gd n kvs=>Qq K n kvs
 |.ck φ=>φ K
def Ask.txt(K:jO):Ask->Option DefTxt
 |.fn n _=>jS (Mp K (Af K n))
 |.mt c m _ _=>jS (Mp K (Cj K (Af K c) m))
 |_=>jT
def Ask.want:Ask->Option DefTxt
 |.fn _ st=>jS (Mj st)
 |.mt _ _ _ st=>jS (Mj st)
 |_=>jT
def Ask.Said(K:jO):Ask->Prop
 |.fn n st=>nsIn K j4 n=jS (jS (.ref (Af K n)))/\FnSaid K n n st (Af K n)
 |.mt c m q st=>findIn K (.ref (Af K c)) m=jS (jS (.ref (Cj K (Af K c) m)))/\isFn K (.ref (Cj K (Af K c) m))=jU/\FnSaid K m q st (Cj K (Af K c) m)
 | .cl c=>nsIn K j4 c=jS (jS (.ref (Af K c)))/\plainGet K (Af K c) Str.empty=jU/\hasDictIn K (Af K c)=jU/\plainOver K (Af K c)=jU/\
   findIn K (.ref (Af K c)) "__setattr__"=jS (jS (.builtin "object.__setattr__"))/\makesIn K (Af K c)=jU/\keepIn K (.ref (Af K c))=jU
 |.no c x=>findIn K (.ref (Af K c)) x=jS jT
 |.z n=>nsIn K j4 n=jS jT
 |.gi n v=>nsIn K j4 n=jS (jS (.int v (Gd K n)))
 |.gs n v=>nsIn K j4 n=jS (jS (.str v (Gd K n)))
 |.gt n vs=>GtSaid K n vs
 |.gd n kvs=>GdSaid K n kvs
 |.ck φ=>φ K=jU
theorem Ask.said:∀{a:Ask},a.chk K=jU->a.txt K=a.want->a.Said K
 |.fn n st,h,t=>by obtain⟨h1,h2⟩:=qV.mp h;exact⟨Ji h1,Yc h2 (Option.some.inj t)⟩
 |.mt c m q st,h,t=>by obtain⟨h1,h2⟩:=qV.mp h;exact⟨(Yz h1).1,(Yz h1).2,Yc h2 (Option.some.inj t)⟩
 |.cl c,h,_=>by simp only[Ask.chk,zz]at h;obtain⟨⟨h1,⟨h2,h3⟩,h4⟩,⟨h5,h6⟩,h7⟩:=h;exact⟨Ji h1,h2,h3,h4,Wj h5,h6,h7⟩
 |.no c x,h,_=>Z1 h
 |.z n,h,_=>ZDA h
 |.gi n v,h,_=>ZE9 h
 |.gs n v,h,_=>ZAs h
 |.gt n vs,h,_=>ZCr h
 |.gd n kvs,h,_=>ZCH h
 |.ck _,h,_=>h
def AllSaid(K:jO):List Ask->Prop
 |[]=>True
 |a::r=>a.Said K/\AllSaid K r
theorem W7:∀{l:List Ask},(l.all (Ask.chk K),l.map (Ask.txt K))=(jU,l.map Ask.want)->AllSaid K l
 |[],_=>trivial
 |a::r,h=>by obtain⟨h1,h2⟩:=Prod.mk.inj h;rw[List.all_cons]at h1;obtain⟨h3,h4⟩:=qV.mp h1;rw[zI,zI]at h2;obtain⟨h5,h6⟩:=List.cons.inj h2;exact⟨Ask.said h3 h5,W7 (by rw[h4,h6])⟩
def Sw(l:List Ask)(h:Heap):Bool×List (Option DefTxt):=(l.all (Ask.chk (Lb h)),l.map (Ask.txt (Lb h)))
noncomputable abbrev Uk(l:List Ask):Bool×List (Option DefTxt):=(jU,l.map Ask.want)
theorem ZBs{a:Str}{fd:qP}{s:qU}{v:jZ}(F:Fun K x q st f fd)
  (h:∀(kV doc pm:jZ)(an:Option qM)(cdv ct:jZ)(u:jZ),bindArgs (fnOf x q (Fp st) (Dk st) (Ao st) .none kV doc pm an cdv ct) ⟨[u],[]⟩=pure [(a,u)]):BindsTo s fd ⟨[v],[]⟩ [(a,v)]:=by
 obtain⟨oc,od,kV,doc,pm,an,cdv,ct,osl,rfl,lk,hcd⟩:=F.ex;exact .of_eq (h kV doc pm an cdv ct v)
noncomputable def O5(p:qS)(w:jJ)(n₀:Nat)(ann:Option jZ):Nat->SharedT->Thread->Option SharedT
 |0,_,_=>jT
 | n+1,s,t=>match through t with
  |true=>jS s
  | false=>match PySem.W.Fast.tw6613529449190102663 n₀ ann t with
   |false=>jT
   |true=>match PySem.W.Fast.tw10156331382660048174 (PySem.W.Fast.tw11892475500146522536 PySem.W.Fast.tw14364793385576792824) p w s t with
    |some (s',t')=>O5 p w n₀ ann n s' t'
    |none=>jT
theorem Y7{p:qS}{w:jJ}{n₀:Nat}{ann:Option jZ}:∀{n:Nat}{s s':SharedT}{t:Thread},O5 p w n₀ ann n s t=jS s'->topRun j9 p w n₀ ann n s.abs t=jS s'.abs
 |0,_,_,_,h=>by cases h
 | n+1,s,s',t,h=>by
  unfold O5 at h;unfold topRun;rw[<-PySem.W.Fast.te6613529449190102663,<-PySem.W.Fast.te10156331382660048174,<-PySem.W.Fast.te11892475500146522536,<-PySem.W.Fast.te14364793385576792824]at h;cases ht:through t with
  |true=>
   rw[ht]at h;cases h
   rfl
  | false=>
   rw[ht]at h;dsimp only at h⊢;cases ho:stepOk n₀ ann t with
   |false=>rw[ho]at h;cases h
   |true=>
    rw[ho]at h;dsimp only at h⊢;split at h
    ·rename_i s2 t2 e;rw[stepT_spec e];exact Y7 h
    ·cases h
noncomputable def Yr:List Obj->Nat->BT->BT
 |[],_,t=>t
 |o::r,n,t=>Yr r (n+1) (t.ins n o)
def Zw(w:jJ)(os:OsState):SharedT:=⟨Yr (jP w.params).objs.toList 0 .nil,(jP w.params).objs.size,(jP w.params).life,Array.mk [],boot_drawn,boot_toks,os⟩
theorem boot_abs:∀w os,(Zw w os).abs=⟨jP w.params,Array.mk [],boot_drawn,boot_toks,os⟩:=λw os=>by kernel_rfl
theorem ZCi:∀w:jJ,((jP w.params).isNs j4&&(Array.mk []:Array GenState).size==0)=jU:=λw=>by kernel_rfl
def Uw(p:qS)(w:jJ)(os:OsState):Option SharedT:=O5 p w (jP w.params).objs.size (PySem.W.Fast.tw8920871248978507458 (jP w.params) j4 "__annotations__") 100000 (Zw w os) (topStub p)
noncomputable def Ub(p:qS)(w:jJ)(s:qU):Bool:=staticsOk (PySem.W.Fast.tw5923862056798008813 p.main.body) (jP w.params) s.heap&&namesBound p s.heap&&gensDone s&&laidKept (jP w.params) s.heap
theorem ZDO{p q:qS}{loose:List Str}{Xt:qU->Bool}{β:Type}{see:Heap->β}{val:β}(e:opening p=plainProg p.main.scope.names)(f:∀s,fenceModules? p s=jS s)
  (R:∀w os,(Uw p w os).map (λs=>(Ub p w s.abs,PySem.W.Fast.tw4187177175401517315 q loose (PySem.W.Fast.tw5923862056798008813 p.main.body) Xt jU s.abs,see s.abs.heap))=jS (jU,openGood q loose,val)):
  ∀w,(openEnds j9 p w 100000).map (λs=>(openSeen q loose (jv p.main.body) Xt jU s,see s.heap))=jS (openGood q loose,val):=λw=>by
 obtain⟨⟨h,gs,d,k,os⟩,h0,e0⟩:=zk.mp (boot_open (N:=100000) e rfl f w);obtain⟨rfl,rfl,rfl,rfl⟩:h=jP w.params/\gs=Array.mk []/\d=boot_drawn/\k=boot_toks:=by simpa using e0
 obtain⟨s,h1,h2⟩:=zk.mp (R w os);obtain⟨h3,h4⟩:=Prod.mk.inj h2;obtain⟨h4,h5⟩:=Prod.mk.inj h4;unfold Uw at h1;have r:=Y7 h1;rw[boot_abs,<-PySem.W.Fast.te8920871248978507458]at r;rw[<-PySem.W.Fast.te4187177175401517315,<-PySem.W.Fast.te5923862056798008813]at h4;unfold Ub at h3;rw[<-PySem.W.Fast.te5923862056798008813]at h3;have t:topFrom j9 p w 100000 ⟨jP w.params,Array.mk [],boot_drawn,boot_toks,os⟩=jS s.abs:=by
  unfold topFrom;dsimp only;rw[ZCi,r]
  show(match staticsOk (jv p.main.body) (jP w.params) s.abs.heap&&namesBound p s.abs.heap&&gensDone s.abs&&laidKept (jP w.params) s.abs.heap with |true=>_|false=>_)=_
  rw[h3]
 unfold openEnds;rw[h0];show(topFrom j9 p w 100000 _).map _=_;rw[t];exact congrArg jS (Prod.ext h4 h5)
theorem ZBt{l:OpenLaw}(h:PySem.W.Fast.tw9446332074065402090 l=jU):l.wellSaid=jU:=by rw[PySem.W.Fast.te9446332074065402090];exact h
structure FT (K:jO) (mg:Str->Option jZ) (n:Str) (st:jQ) (ps:List Str):Prop where
 F:Fun K n n st (Af K n) (Bl K (Af K n))
 b:Binds K (Bl K (Af K n)) ps []
 m:mg n=jS (.ref (Af K n))
 k:keepIn K (.ref (Af K n))=jU
structure MT (K:jO) (c m q:Str) (st:jQ) (ps:List Str):Prop where
 F:Fun K m q st (Cj K (Af K c) m) (Bl K (Cj K (Af K c) m))
 b:Binds K (Bl K (Cj K (Af K c) m)) ps []
 me:Meth K (Af K c) m (Cj K (Af K c) m)
theorem Kq(s:FnSaid K x q st f):Fun K x q st f (Bl K f):=by
 have e:Bl K f=fnOf x q (Fp st) (Dk st) (Ao st) .none (Bl K f).kwdefaults (Bl K f).doc (Bl K f).pyModule (Bl K f).annotations (Bl K f).code (Bl K f).closureTuple:=by
  have h:=s.1
  conv=>lhs;unfold Bl Ht;rw[h]
 exact⟨⟨_,_,_,_,_,_,_,_,_,e,by rw[e];exact s.1,s.2.1⟩,s.2.2⟩
theorem De{h:Heap}{mg:Str->Option jZ}{n:Str}{ps:List Str}(X:K.In h)(G:h.Ns j4 mg)(s:Ask.Said K (.fn n st))
  (hb:∀(kV doc pm:jZ)(an:Option qM)(cdv ct:jZ)(us:List jZ),us.length=ps.length->bindArgs (fnOf n n (Fp st) (Dk st) (Ao st) .none kV doc pm an cdv ct) ⟨us,[]⟩=pure (ps.zip us)):FT K mg n st ps:=
 ⟨Kq s.2,(Kq s.2).binds hb,mg_of X G s.1,s.2.2.2⟩
theorem ZDP{c:Str}{ps:List Str}(s:Ask.Said K (.mt c m q st))
  (hb:∀(kV doc pm:jZ)(an:Option qM)(cdv ct:jZ)(us:List jZ),us.length=ps.length->bindArgs (fnOf m q (Fp st) (Dk st) (Ao st) .none kV doc pm an cdv ct) ⟨us,[]⟩=pure (ps.zip us)):MT K c m q st ps:=
 ⟨Kq s.2.2,(Kq s.2.2).binds hb,s.1,s.2.1,s.2.2.2.2⟩
abbrev FnO(P:qS)(w:jJ)(K:jO)(mg:Str->Option jZ)(base:Heap)(k:Nat)(n:Str)(ps:List Str)(F:List D->DH->R D):Prop:=FnOk P w K mg base CX0 k (Af K n) (Bl K (Af K n)) ps (lF K F)
theorem ZAw{fd:qP}{s:qU}{v:jZ}{a:Str}(F:Fun K x q st f fd)
  (h:∀(kV doc pm:jZ)(an:Option qM)(cdv ct:jZ)(u:jZ),bindArgs (fnOf x q (Fp st) (Dk st) (Ao st) .none kV doc pm an cdv ct) ⟨[u],[]⟩=pure [(a,u)]:=by intros;rfl):BindsTo s fd ⟨[v],[]⟩ [(a,v)]:=ZBs F h
end DL
namespace DL
open PySem PySem.Spec L2
open PyProof.Rows hiding St
variable{k:Nat}{st:jQ}{ps N:List Str}{F:List D->DH->R D}{cls:jZ}{od:Option qM}{P:qS}{w:jJ}{h base:Heap}{C f:qM}{H:Hp}{mg:Str->Option jZ}{x qual:Str}{fd:qP}{s:qU}{A:qN}{fill expr:Bool}
section
variable{prog:qS}{w:jJ}{A:qN}{E:jZ->qU->Prop}{s:qU}
end
section
variable{X:Cx}{E:XK}{p:qM}{kvs:List (Str×Str)}{x:Str}{a:qO}{ta:DE}{np pos:Pos}
end
noncomputable def Gf:D->Option V
 |.int i=>jS (.int i)
 |.str x=>jS (.str x)
 |_=>jT
section
variable{X:Cx}{E:XK}{pos:Pos}
end
section
variable{S:DSt}{G:DH}
end
theorem Bf{X:Cx}{j:Nat}{n:Str}{p pos:Pos}{e:qO}{es:List qO}{tr:DA}(FF:FnO X.prog X.w X.K X.mg X.base k n ps F)(T:FT X.K X.mg n st ps)(hr:Room j X.A)(ha:QA X E0 (e::es) tr)
  (hj:k<=j:=by decide) (hg:Gl X n:=by exact rfl) (hd:(n==("__debug__":Str))=xQ:=by decide) (he:notStar e=jU:=by exact rfl) (hp:es.all notStar=jU:=by exact rfl):QE X E0 (.Call (.Name n p) (e::es) [] pos) (dFn F tr):=
 ZBp FF (hr.mono hj) hg T.m T.k T.b pass0 ha hd he hp
theorem ZDH{f:Array jZ->Array jZ}{o:Obj}:(Obj.mapFields f o).dict=o.dict:=by
 obtain⟨c,d,dt,sl⟩:=o;unfold Obj.mapFields
 cases dt<;>rfl
def Trc(h B:Heap)(e:qM)(cls:jZ)(od:Option qM)(fl:jZ):Prop:=
 ∃oe vs T oT ts,h.get? e=jS oe/\(oe.cls=cls/\oe.dict=od)/\oe.data=.fields vs/\vs[1]?=jS (.ref T)/\(B.get? T=jT/\T≠e)/\h.get? T=jS oT/\oT.data=.fields ts/\ts[3]?=jS fl
structure Noted (B:Heap) (l:List Env) (e:qM) (cls:jZ) (od:Option qM) (fl:jZ) (h h':Heap):Prop where
 st:B.StaysIn h'
 fr:h'.FunFrames B l
 tr:Trc h' B e cls od fl
 up:∀b o,h.get? b=jS o->(∀vs,o.data≠ .fields vs)->∃sl,h'.get? b=jS {o with slots:=sl}
 th:∀b o,h.get? b=jS o->∃o',h'.get? b=jS o'
section
variable{M:Model}{A:qN}{E:jZ->qU->Prop}{s:qU}{B:Heap}{env:Env}{outer:List Env}{L e:qM}{oe:Obj}{vs:Array jZ}{head:jZ}{hn:Bool}{Q:Unit->qU->Prop}
theorem Wz(fr:A.frames=jS (env::outer))(hl:s.heap.FunFrames B (env::outer))(hf:env.frame=jS L)(he:s.heap.get? e=jS oe)(hk:B.StaysIn s.heap)(hb:B.get? e=jT)(hd:oe.data=.fields vs)(hz:1<vs.size)
  (q:∀h',Noted B (env::outer) e oe.cls oe.dict (j6 L) s.heap h'->Q () {s with heap:=h'}):
  jA M A (do let a<-frameOf env;let pl<-entryPlaceOf L hn;let b<-EntryCells.newEntry head a .none (j6 L) .none pl;setField (.ref e) 1 b) Q E s:=by
 have ne:e∉(env::outer).filterMap (·.frame):=λhm=>by obtain⟨_,o,ho,nf⟩:=hl.mem hm;rw[he]at ho;cases ho;exact nf vs hd
 refine jC (wpAny_frameOf_fun fr hl hf λh1 k1=>?_);refine jC (wpAny_entryPlaceOf λpl hp=>?_);unfold EntryCells.newEntry newFields;refine jC (jH ?_ (hp.sizeOk5 _ _ _ _ _));generalize hO:({cls:=.type "traceback",dict:=jT,data:=.fields ([head,.ref L,.none,j6 L,.none]++(if pl.isEmpty then zQ 6 Value.none else pl)).toArray}:Obj)=O;have hOd:O.data=.fields ([head,.ref L,.none,j6 L,.none]++(if pl.isEmpty then zQ 6 Value.none else pl)).toArray:=by rw[<-hO]
 have e1:h1.get? e=jS oe:=(k1.2.1 e ne).trans he;have b1:B.StaysIn h1:=λb o hbo=>(k1.2.1 b λhm=>by rw[(hl.mem hm).1]at hbo;cases hbo).trans (hk b o hbo)
 have e2:(h1.push O).get? e=jS oe:=zZ O e1;refine wpAny_setField e2 hd hz (q _ ?_);have nTe:h1.objs.size≠e:=q8 (zX e1)
 have d3:=Obj.data_mapFields hd (·.setIfInBounds 1 (Value.ref h1.objs.size))
 have e3:=zL (Obj.mapFields (·.setIfInBounds 1 (Value.ref h1.objs.size))) e2 (Obj.isFreed_of_fields d3)
 have t3:=(zH (h1.push O) (Obj.mapFields (·.setIfInBounds 1 (Value.ref h1.objs.size))) (Ne.symm nTe)).trans (zj h1 (by rw[<-hO];rfl))
 have keep:∀b o,b≠e->h1.get? b=jS o->((h1.push O).update e (Obj.mapFields (·.setIfInBounds 1 (Value.ref h1.objs.size)))).get? b=jS o:=λb o n hb'=>by rw[zH _ _ (Ne.symm n)];exact zZ _ hb'
 have nf:∀b o,s.heap.get? b=jS o->(∀vs,o.data≠ .fields vs)->b≠e:=λb o hb' n z=>by rw[z,he]at hb';cases hb';exact n vs hd
 have fresh:B.get? h1.objs.size=jT:=b1.fresh;refine⟨λb o hbo=>keep b o (λz=>by rw[z,hb]at hbo;cases hbo) (b1 b o hbo),hl.of_keeps λb o hb' n=>?_,⟨_,_,h1.objs.size,_,_,e3,⟨Obj.cls_mapFields _ _,ZDH⟩,d3,by simp[hz],⟨fresh,nTe⟩,t3,hOd,by simp⟩,λb o hb' n=>?_,λb o hb'=>?_⟩
 ·obtain⟨sl,hs⟩:=k1.2.2 b o hb';exact⟨_,keep b _ (nf b o hb' n) hs,rfl⟩
 ·obtain⟨sl,hs⟩:=k1.2.2 b o hb';exact⟨sl,keep b _ (nf b o hb' n) hs⟩
 ·obtain⟨sl,hs⟩:=k1.2.2 b o hb';by_cases z:b=e
  ·subst z;exact⟨_,e3⟩
  ·exact⟨_,keep b _ z hs⟩
theorem ZCc(fr:A.frames=jS (env::outer))(hl:s.heap.FunFrames B (env::outer))(hf:env.frame=jS L)(he:s.heap.get? e=jS oe)(hk:B.StaysIn s.heap)(hb:B.get? e=jT)(hd:oe.data=.fields vs)(h1:vs[1]?=jS .none)
  (q:∀h',Noted B (env::outer) e oe.cls oe.dict (j6 L) s.heap h'->Q () {s with heap:=h'}):jA M A (noteFrame (.ref e) env) Q E s:=by
 unfold noteFrame;simp only[hf];refine jC (jF he hd h1 ?_);rw[if_neg (by decide)];exact Wz fr hl hf he hk hb hd (zC.mp h1).1 q
theorem ZAq(fr:A.frames=jS (env::outer))(hl:s.heap.FunFrames B (env::outer))(hf:env.frame=jS L)(ht:Trc s.heap B e cls od .none)(hk:B.StaysIn s.heap)(hb:B.get? e=jT)
  (q:∀h',Noted B (env::outer) e cls od (j6 L) s.heap h'->Q () {s with heap:=h'}):jA M A (noteFrame (.ref e) env) Q E s:=by
 obtain⟨oe,vs,T,oT,ts,he,⟨rfl,rfl⟩,hd,h1,⟨nT,nTe⟩,hT,dT,h3⟩:=ht;unfold noteFrame;simp only[hf];refine jC (jF he hd h1 ?_)
 rw[if_pos (show(Value.ref T != Value.none)=jU from by simp)]
 refine jC (jF hT dT h3 ?_)
 rw[if_neg (show¬((Value.none==j6 L)=jU)from by simp[j6])]
 refine jC (wpAny_setField hT dT (zC.mp h3).1 ?_)
 have oth:∀b,b≠T->(s.heap.update T (Obj.mapFields (·.setIfInBounds 3 Value.none))).get? b=s.heap.get? b:=λb n=>zH _ _ (Ne.symm n)
 have nf:∀b o,s.heap.get? b=jS o->(∀vs,o.data≠ .fields vs)->b≠T:=λb o hb' n z=>by rw[z,hT]at hb';cases hb';exact n ts dT
 refine Wz fr (hl.of_keeps λb o hb' n=>⟨o,(oth b (nf b o hb' n)).trans hb',rfl⟩) hf ((oth e (Ne.symm nTe)).trans he)
  (λb o hbo=>(oth b λz=>by rw[z,nT]at hbo;cases hbo).trans (hk b o hbo)) hb hd (zC.mp h1).1
  λh' n=>q h' ⟨n.st,n.fr,n.tr,λb o hb' nn=>n.up b o ((oth b (nf b o hb' nn)).trans hb') nn,λb o hb'=>?_⟩
 by_cases z:b=T
 ·subst z;exact n.th b _ (zL _ hT (Obj.isFreed_of_fields (Obj.data_mapFields dT _)))
 ·exact n.th b o ((oth b z).trans hb')
theorem X4{fl:jZ}{l:List Env}(hl:s.heap.FunFrames B l)(ht:Trc s.heap B e cls od fl)(hk:B.StaysIn s.heap)
  (q:∀h',Noted B l e cls od .none s.heap h'->Q () {s with heap:=h'}):jA M A (setFlight (.ref e) jT) Q E s:=by
 obtain⟨oe,vs,T,oT,ts,he,⟨rfl,rfl⟩,hd,h1,⟨nT,nTe⟩,hT,dT,h3⟩:=ht;unfold setFlight;refine jC (jF he hd h1 ?_)
 rw[if_pos (show(Value.ref T != Value.none)=jU from by simp)]
 refine wpAny_setField hT dT (zC.mp h3).1 (q _ ?_)
 have oth:∀b,b≠T->(s.heap.update T (Obj.mapFields (·.setIfInBounds 3 ((jT:Option qM).elim Value.none λf=>j6 f)))).get? b=s.heap.get? b:=λb n=>zH _ _ (Ne.symm n)
 have nf:∀b o,s.heap.get? b=jS o->(∀vs,o.data≠ .fields vs)->b≠T:=λb o hb' n z=>by rw[z,hT]at hb';cases hb';exact n ts dT
 have dT':=Obj.data_mapFields dT (·.setIfInBounds 3 ((jT:Option qM).elim Value.none λf=>j6 f))
 have hT':=zL (Obj.mapFields (·.setIfInBounds 3 ((jT:Option qM).elim Value.none λf=>j6 f))) hT (Obj.isFreed_of_fields dT')
 have z3:=(zC.mp h3).1;refine⟨λb o hbo=>(oth b λz=>by rw[z,nT]at hbo;cases hbo).trans (hk b o hbo),hl.of_keeps λb o hb' n=>⟨o,(oth b (nf b o hb' n)).trans hb',rfl⟩,
  ⟨oe,vs,T,_,_,(oth e (Ne.symm nTe)).trans he,⟨rfl,rfl⟩,hd,h1,⟨nT,nTe⟩,hT',dT',by simp[z3]⟩,λb o hb' n=>⟨o.slots,(oth b (nf b o hb' n)).trans hb'⟩,λb o hb'=>?_⟩
 by_cases z:b=T
 ·subst z;exact⟨_,hT'⟩
 ·exact⟨o,(oth b z).trans hb'⟩
theorem Noted.trans{l:List Env}{f1 f2:jZ}{h1 h2 h3:Heap}(x:Noted B l e cls od f1 h1 h2)(y:Noted B l e cls od f2 h2 h3):Noted B l e cls od f2 h1 h3:=
 ⟨y.st,y.fr,y.tr,λb o hb n=>by
  obtain⟨sl,k⟩:=x.up b o hb n;obtain⟨sl',k'⟩:=y.up b _ k n;exact⟨sl',k'⟩,λb o hb=>by
  obtain⟨o',k⟩:=x.th b o hb;exact y.th b o' k⟩
theorem ZBh(fr:A.frames=jS (env::outer))(hl:s.heap.FunFrames B (env::outer))(hf:env.frame=jS L)(he:s.heap.get? e=jS oe)(hk:B.StaysIn s.heap)(hb:B.get? e=jT)(hd:oe.data=.fields vs)(h1:vs[1]?=jS .none)
  (q:∀h',Noted B (env::outer) e oe.cls oe.dict .none s.heap h'->Q () {s with heap:=h'}):jA M A (leaving env (.ref e)) Q E s:=by
 unfold leaving;exact jC (ZCc fr hl hf he hk hb hd h1 λh' n=>X4 n.fr n.tr n.st λh'' n'=>q h'' (n.trans n'))
end
structure Fly (B:Heap) (l:List Env) (e:qM) (cls:jZ) (od:Option qM) (H':Hp) (h:Heap):Prop where
 st:B.StaysIn h
 fr:h.FunFrames B l
 tr:Trc h B e cls od .none
 eb:B.get? e=jT
 al:∀b,H' b≠jT->∃o,B.get? b=jS o
def CXx(P:qS)(w:jJ):CXT:=λouter H s E e s'=>∃(ea:qM)(cls:jZ)(od:Option qM)(H':Hp)(B:Heap),e=.ref ea/\s'.os=s.os/\AllBare s'.gens/\Un (frs outer) [] H H' s.heap s'.heap/\HOk P w H' s'.heap/\
 Fly B outer ea cls od H' s'.heap/\(∀b o,s.heap.get? b=jS o->H b=jT->b∉frs outer->B.get? b=jS o)/\s.heap.get? ea=jT/\E cls od H'/\∃C,cls=.ref C
section
variable{X:Cx}{jR:List (qM×Obj)}{σ:St}{H H':Hp}{s s':qU}{B h'':Heap}{ea:qM}{cls:jZ}{od:Option qM}{E:XK}
theorem Y0{h':Heap}(hok:HOk P w H' h)(al:∀b,H' b≠jT->∃o,B.get? b=jS o)(s1:B.StaysIn h)(s2:B.StaysIn h'):HOk P w H' h':=λa o e=>
 (hok a o e).stay (λb u hb q=>by
  have hn:H' b≠jT:=by
   rcases hb with rfl|hb
   ·rw[e];simp
   ·rw[hb];simp
  obtain⟨o',k⟩:=al b hn;have k1:=s1 b o' k;rw[q]at k1;cases k1;exact s2 b u k) (λ_ q=>q) λ_ _ q=>q
theorem ZEA(I:Inv X jR σ H s)(hs:X.stack=X.env::X.outer)(hex:X.ex=[])(hfr:X.env.frame=jS X.env.locals)(os:s'.os=s.os)(bare:AllBare s'.gens)(un:Un (frs X.stack) [] H H' s.heap s'.heap)(hok:HOk X.prog X.w H' s'.heap)
  (bb:∀b o,s.heap.get? b=jS o->H b=jT->b∉frs X.stack->B.get? b=jS o) (al:∀b,H' b≠jT->∃o,B.get? b=jS o) (eb:B.get? ea=jT) (st:B.StaysIn s'.heap) (new:s.heap.get? ea=jT)
  (n:Noted B X.stack ea cls od .none s'.heap h'') (hE:E cls od H') (hc:∃C,cls=.ref C):CXx X.prog X.w X.outer X.H₀ X.s₀ E (.ref ea) {s' with heap:=h''}:=by
 have base:=I.base;rw[hex]at base;have fe:frs X.stack=X.env.locals::frs X.outer:=by rw[hs];unfold frs;rw[zO,hfr]
 have bb':∀b o,X.s₀.heap.get? b=jS o->X.H₀ b=jT->b∉frs X.outer->B.get? b=jS o:=λb o q hn hb=>by
  refine bb b o (base.keep b o q hn hb (by simp)) (base.free b o q hn (by simp)) ?_;rw[fe];intro hm;rcases zw.mp hm with z|z
  ·exact absurd (zJ (zX q) I.ok.above) (by rw[z];exact zB _)
  ·exact hb z
 have frO:h''.FunFrames B X.outer:=by have:=n.fr;rw[hs]at this;exact this.2.2
 refine⟨ea,cls,od,H',B,rfl,os.trans I.os,bare,⟨λb o q hn hb _=>n.st b o (bb' b o q hn hb),λb o q hn hb _=>?_,λb o q hn hx=>?_,λb o q hx=>?_,λb xs q=>un.tups b xs (base.tups b xs q),λb o u q=>un.frzs b o u (base.frzs b o u q),λb ps q=>?_⟩,Y0 hok al st n.st,⟨n.st,frO,n.tr,eb,al⟩,bb',?_,hE,hc⟩
 ·obtain⟨sl,k⟩:=base.slot b o q hn hb (by simp);have hm:b∈frs X.stack:=by rw[fe];exact zY _ hb
  obtain⟨sl',k'⟩:=un.slot b _ k (base.free b o q hn (by simp)) hm (by simp);obtain⟨_,o2,k2,nf⟩:=I.stack.mem hm;rw[k]at k2;cases k2;obtain⟨sl'',k3⟩:=n.up b _ k' nf;exact⟨sl'',k3⟩
 ·obtain⟨o1,k1⟩:=base.there b o q hx;exact un.free b o1 k1 (base.free b o q hn hx) hx
 ·obtain⟨o1,k1⟩:=base.there b o q hx;obtain⟨o2,k2⟩:=un.there b o1 k1 hx;exact n.th b o2 k2
 ·obtain⟨m1,k1⟩:=base.tbls b ps q;obtain⟨m2,k2⟩:=un.tbls b _ k1;exact⟨m1++m2,by rw[k2,Array.append_assoc]⟩
 ·cases q:X.s₀.heap.get? ea with
  |none=>rfl
  |some o=>
   obtain⟨o1,k1⟩:=base.there ea o q (by simp);rw[new]at k1;cases k1
def Ke(X:Cx)(E:XK):jZ->qU->Prop:=λe s'=>jA (j5 X.prog X.w) X.A (leaving X.env e) (λ_ s''=>CXx X.prog X.w X.outer X.H₀ X.s₀ E e s'') (λe' s''=>CXx X.prog X.w X.outer X.H₀ X.s₀ E e' s'') s'
theorem ZAU{a:qM}{o:HO}(x:ObjOk P w H h a o):∃ob,h.get? a=jS ob:=by
 cases o with
 |lst xs=>obtain⟨_,_,_,_,e⟩:=x;exact⟨_,e⟩
 |tup xs=>obtain⟨_,_,_,_,e,_⟩:=x;exact⟨_,e⟩
 |dK kvs=>obtain⟨_,_,_,_,o,_,_,e,_⟩:=x;exact⟨_,e⟩
 |dT kvs=>obtain⟨_,_,_,_,o,_,_,e,_⟩:=x;exact⟨_,e⟩
 |set S n=>obtain⟨o,_,_,_,e,_⟩:=x;exact⟨_,e⟩
 |ins C dx fs=>obtain⟨_,_,_,e,_⟩:=x;exact⟨_,e⟩
 |own y=>exact x
 |xd fs=>obtain⟨_,⟨_,_,_,e,_⟩,_⟩:=x;exact⟨_,e⟩
 |rng lo hi=>obtain⟨_,_,_,e⟩:=x;exact⟨_,e⟩
 |frz ob u=>obtain⟨e,_⟩:=x;exact⟨_,e⟩
 |tbl ps=>exact⟨_,x⟩
 |met f y=>exact⟨_,x⟩
 |ext φ=>exact x.2.1
theorem W2{h':Heap}:∀{l:List Env},h.FunFrames base l->(∀b∈frs l,∀o,h.get? b=jS o->∃sl,h'.get? b=jS {o with slots:=sl})->h'.FunFrames base l
 |[],_,_=>trivial
 |env::r,⟨hk,⟨L,o,hf,hn,ho,hd⟩,hr⟩,k=>by
  have fe:frs (env::r)=L::frs r:=by unfold frs;rw[zO,hf]
  obtain⟨sl,z⟩:=k L (by rw[fe];exact zE) o ho;exact⟨hk,⟨L,_,hf,hn,z,hd⟩,W2 hr λb hb o' ho'=>k b (by rw[fe];exact zY _ hb) o' ho'⟩
structure Made (X:Cx) (H:Hp) (s:qU) (ea:qM) (cls:jZ) (od:Option qM) (s':qU) (H':Hp):Prop where
 os:s'.os=s.os
 bare:AllBare s'.gens
 un:Un (frs X.stack) [] H H' s.heap s'.heap
 hok:HOk X.prog X.w H' s'.heap
 ob:∃oe vs,s'.heap.get? ea=jS oe/\oe.cls=cls/\oe.dict=od/\oe.data=.fields vs/\vs[1]?=jS .none
 fe:H' ea=jT
 new:s.heap.get? ea=jT
theorem ZEK(hs:X.stack=X.env::X.outer)(hex:X.ex=[])(hfr:X.env.frame=jS X.env.locals)(I:Inv X jR σ H s)(m:Made X H s ea cls od s' H')(hE:E cls od H')(hc:∃C,cls=.ref C):Ke X E (.ref ea) s':=by
 obtain⟨oe,vs,he,rfl,rfl,hd,h1⟩:=m.ob;have ne:ea∉frs X.stack:=λhm=>by obtain⟨_,o,ho,_⟩:=I.stack.mem hm;rw[m.new]at ho;cases ho
 have F':s'.heap.FunFrames X.base X.stack:=W2 I.stack λb hb o ho=>m.un.slot b o ho (I.Ou b hb) hb (by simp)
 have FB:s'.heap.FunFrames (PySem.W.hideAll s'.heap (ea::frs X.stack)) X.stack:=PySem.W.funFrames_hide F' λenv hm a q=>zY _ (List.mem_filterMap.mpr ⟨env,hm,q⟩)
 have eb:(PySem.W.hideAll s'.heap (ea::frs X.stack)).get? ea=jT:=by exact PySem.W.hideAll_none _ zE
 have st:(PySem.W.hideAll s'.heap (ea::frs X.stack)).StaysIn s'.heap:=λb o q=>PySem.W.of_hideAll _ q
 have bb:∀b o,s.heap.get? b=jS o->H b=jT->b∉frs X.stack->(PySem.W.hideAll s'.heap (ea::frs X.stack)).get? b=jS o:=λb o q hn hb=>PySem.W.hideAll_get _ (m.un.keep b o q hn hb (by simp)) λhm=>by
  rcases zw.mp hm with z|z
  ·rw[z,m.new]at q;cases q
  ·exact hb z
 have al:∀b,H' b≠jT->∃o,(PySem.W.hideAll s'.heap (ea::frs X.stack)).get? b=jS o:=λb hb=>by
  cases q:H' b with
  |none=>exact absurd q hb
  |some u=>
   obtain⟨o,k⟩:=ZAU (m.hok b u q);refine⟨o,PySem.W.hideAll_get _ k λhm=>?_⟩;rcases zw.mp hm with z|z
   ·rw[z,m.fe]at q;cases q
   ·obtain⟨_,o1,k1,_⟩:=I.stack.mem z;rw[m.un.free b o1 k1 (I.Ou b z) (by simp)]at q;cases q
 unfold Ke;refine ZBh (B:=PySem.W.hideAll s'.heap (ea::frs X.stack)) (L:=X.env.locals) (outer:=X.outer) (by rw[I.ok.frames,hs]) (by rw[<-hs];exact FB) hfr he st eb hd h1 λh'' n=>?_
 rw[<-hs]at n;exact ZEA I hs hex hfr m.os m.bare m.un m.hok bb al eb st m.new n hE hc
end
section
variable{prog:qS}{w:jJ}{A:qN}{E:jZ->qU->Prop}{h:Heap}{g:Array GenState}{d:Drawn}{t:Nat}{os:OsState}
variable{nm q:Str}{C N:qM}{bs bm bmB:List jZ}{hdct:Bool}{sn:List Str}{sub:List jZ}{ab:Bool}{col:Option Bool}{dd:Option qM}{k0 k1 k2 k3 k5:Option jZ}{B newId initId:String}
theorem ZDc(F:ExcBaseFacts B newId initId bmB)(T:OwnTail h bmB bm){mN:Str->Option jZ}{rest:List jZ}{fI:qM}{oI:Obj}{Q:Fin->qU->Prop}
  (hC:h.get? C=jS (excClassObj nm q C N bs bm hdct sn sub ab col dd k0 k1 k2 k3 k5 newId)) (hn:h.Ns N mN) (hi:mN "__init__"=jS (.ref fI)) (hfI:h.get? fI=jS oI) (hfc:oI.cls=.type "function")
  (hq:∀h' e,Heap.MadeExcOf h h' e (.ref C) rest->h.objs.size<=e->jA (j5 prog w) A (call (.ref fI) (.ref e::rest)) (λr s'=>r=.none/\Q (.done (.ret (.ref e))) s') E ⟨h',g,d,t,os⟩) (hr:rest.length<=sizeLine):
  jA (j5 prog w) A (Builtin.«type.__call__» ⟨.ref C::rest,[]⟩) Q E ⟨h,g,d,t,os⟩:=by
 repeat (first|with_reducible refine wpAny_loadPart_at hC ?_|with_reducible refine wpAny_madeBy_exc hC ?_|wp_step)
 refine codeAny_call_builtin_code (Code.quiet_builtin _ F.quiet) (wpAny_check_new_subT F T hC ?_);refine codeAny_exc_new_subT F T hC ?_ hr;show jA _ _ _ _ _ _;generalize hO1:({cls:=.type "tuple",data:=.seq rest.toArray}:Obj)=O1;generalize hO2:({cls:=.ref C,data:=.fields #[.ref h.objs.size,.none,.none,.none,.bool xQ,.none]}:Obj)=O2;have kp:∀b o,h.get? b=jS o->((h.push O1).push O2).get? b=jS o:=λb o z=>zZ _ (zZ _ z)
 have hC1:=kp _ _ hC;have hf1:=kp _ _ hfI;have hn1:((h.push O1).push O2).Ns N mN:=hn.keeps kp;have T1:=T.keeps kp;have hg:((h.push O1).push O2).get? (h.objs.size+1)=jS O2:=Heap.get?_push_at (by simp only[qj]) (by rw[<-hO2];rfl);have hc2:O2.cls=.ref C:=by rw[<-hO2]
 have cc:(Value.ref C::bm).contains (.ref C)=jU:=by simp
 unfold isInstance
 repeat (first|(with_reducible refine wpAny_loadPart_at hg ?_;rw[hc2])|(with_reducible refine wpAny_isSubtype_exc hC1 ?_;rw[cc])|wp_step)
 show jA _ _ (typeLookup (.ref C) _) _ _ _;refine wpAny_typeLookup_tail hC1 hn1 T1 F.mroIs F.init.lookup ?_;rw[hi];refine wpAny_holding (jC ?_);unfold bindSpecial;refine jC (wpAny_typeOf (T:="function") ⟨_,hf1,hfc⟩ ?_);rw[if_pos (by decide)];refine jL (jC (jG (hq _ (h.objs.size+1) ⟨kp,qD (qz _),h.objs.size,by rw[hg,<-hO2],qD (zW _),?_⟩ ?_) (λr s' z=>?_) λ_ _ x=>x))
 ·rw[<-hO1];exact zZ _ (Heap.get?_push_at rfl rfl)
 ·exact qz _
 ·obtain⟨rfl,hQ⟩:=z
  wp_walk
  exact hQ
theorem ZAn(F:ExcBaseFacts B newId initId bmB)(T:OwnTail h bmB bm){mN:Str->Option jZ}{rest:List jZ}{fI:qM}{oI:Obj}{Q:jZ->qU->Prop}
  (hC:h.get? C=jS (excClassObj nm q C N bs bm hdct sn sub ab col dd k0 k1 k2 k3 k5 newId)) (hn:h.Ns N mN) (hi:mN "__init__"=jS (.ref fI)) (hfI:h.get? fI=jS oI) (hfc:oI.cls=.type "function")
  (hq:∀h' e,Heap.MadeExcOf h h' e (.ref C) rest->h.objs.size<=e->jA (j5 prog w) (A.under (.builtin "type.__call__" ⟨.ref C::rest,[]⟩)) (call (.ref fI) (.ref e::rest)) (λr s'=>r=.none/\Q (.ref e) s') E ⟨h',g,d,t,os⟩) (hr:rest.length<=sizeLine):
  jA (j5 prog w) A (call (.ref C) rest) Q E ⟨h,g,d,t,os⟩:=by
 have f1:=tc_lookup;have f2:=tc_bind (.ref C);have hT:(⟨h,g,d,t,os⟩:qU).TypeIs (.ref C) "type":=⟨_,hC,rfl⟩;refine wpAny_call (codeAny_of_tree ?_);show jA _ _ (callAny (.ref C) _) _ _ _
 repeat (any_goals (first|assumption|with_reducible refine wpAny_loadPart_at hC ?_|wp_step))
 refine⟨rfl,?_⟩;refine codeAny_call_builtin_at (Code.quiet_builtin _ (by decide +kernel)) entry_typeCall (wpAny_check_type_call_sub hC (ZDc F T hC hn hi hfI hfc (λh' e hm he=>?_) hr));exact hq h' e hm he
end
noncomputable abbrev vmro:List jZ:=[.type "ValueError",.type "Exception",.type "BaseException",.type "object"]
def Gr(K:PySem.W.Frag)(C:qM):Bool:=match K.lookup C with
 |some ⟨.type "type",_,.cls cd,sl⟩=>(match cd.mro,sl.toList with
  |.ref C'::bm,[_,_,_,_,jS (.builtin n),_]=>C'==C&&n == "ValueError.__new__" && !cd.hasDel&&cd.hasDict&&PySem.W.tailIn K vmro bm&&PySem.W.nsOkIn K cd.ns
  |_,_=>xQ)
 |_=>xQ
noncomputable def Hw(K:PySem.W.Frag)(C f:qM):Bool:=match K.lookup C with
 |some ⟨_,_,.cls cd,_⟩=>PySem.W.nsIn K cd.ns "__init__"==jS (jS (.ref f))
 |_=>xQ
theorem ZCC{K:PySem.W.Frag}{N:qM}{m:Str->Option jZ}{n:Str}{v:jZ}(X:K.In h)(G:h.Ns N m)(e:PySem.W.nsIn K N n=jS (jS v)):m n=jS v:=by
 obtain⟨o,es,ep,ho,hd,_,hf⟩:=G;unfold PySem.W.nsIn at e;split at e
 ·rename_i c d es' n' sl q;have:=X _ _ q;rw[ho]at this;cases this;cases hd;split at e
  ·rename_i y he;rw[<-hf];unfold nsFind findBy;rw[<-Array.find?_toList,he];exact Option.some.inj e
  ·split at e<;>cases e
 ·cases e
theorem Js{K:PySem.W.Frag}(X:K.In h)(q:Gr K C=jU):∃bm N nm qn bs sn sub ab col dd k0 k1 k2 k3 k5,h.get? C=jS (excClassObj nm qn C N bs bm jU sn sub ab col dd k0 k1 k2 k3 k5 "ValueError.__new__")/\OwnTail h vmro bm/\
  (∃m,h.Ns N m/\∀f,Hw K C f=jU->m "__init__"=jS (.ref f)):=by
 unfold Gr at q;split at q
 ·rename_i dd cd sl ho;split at q
  ·rename_i C' bm k0 k1 k2 k3 n k5 hm hs;simp only[zz,beq_iff_eq,Bool.not_eq_true']at q;obtain⟨⟨⟨⟨⟨rfl,rfl⟩,hdel⟩,hdc⟩,ht⟩,hok⟩:=q;have hi:∀f,Hw K C' f=jU->PySem.W.nsIn K cd.ns "__init__"=jS (jS (.ref f)):=λf z=>by unfold Hw at z;rw[ho]at z;exact beq_iff_eq.mp z
   obtain⟨nm,bs,mro,ns,qn,hd,sn,sub,ab,col,del⟩:=cd;dsimp only at hm hdel hok hdc hi;subst hm hdel hdc;have hsl:sl= #[k0,k1,k2,k3,jS (.builtin "ValueError.__new__"),k5]:=by obtain⟨l⟩:=sl;simp only at hs;rw[hs]
   subst hsl;exact⟨bm,ns,nm,qn,bs,sn,sub,ab,col,dd,k0,k1,k2,k3,k5,X _ _ ho,PySem.W.tail_of_in X ht,_,.of_isNs (PySem.W.isNs_of_in X hok),λf z=>ZCC X (.of_isNs (PySem.W.isNs_of_in X hok)) (hi f z)⟩
  ·cases q
 ·cases q
noncomputable def exO(C:qM)(od:Option qM)(t:qM):Obj:={cls:=.ref C,dict:=od,data:=.fields #[.ref t,.none,.none,.none,.bool xQ,.none]}
def exo(e C:qM)(od:Option qM)(h:Heap):Prop:=∃t,h.get? e=jS (exO C od t)
theorem R0{e:qM}(x:exo e C od h):ObjOk P w H h e (.ext (exo e C od)):=
 ⟨x,let⟨t,k⟩:=x;⟨_,k⟩,λh1 h2 ⟨t,k⟩ s=>⟨t,s _ k⟩⟩
section
variable{X:Cx}{C W:qM}{x:Str}{mc:jZ}{p apos pos:Pos}{a1 a2:qO}{t:TA}
noncomputable def tBI(C:qM)(t:TA):TE:=λσ H Q=>t σ H λvs H1=>∃e v,vs=[.ref e,v]/\H1 e=jS (.ext (exo e C jT))/\Q .non H1
theorem ZD8{a:qM}{o:HO}(h:H a=jS o):upd H a o=H:=by
 funext b;unfold upd;split
 ·rename_i z;rw[z,h]
 ·rfl
theorem ZEe{pl:Sem Bool}(hC:Gr X.K C=jU)(hg:Gl X x)(hm:X.mg x=jS (.ref W))(hs:PySem.W.specialIn X.K (.ref W) "__getattribute__"=jS (jS (.builtin "type.__getattribute__")))(hr:PySem.W.readsIn X.K W mc=jU)
  (hf:PySem.W.findCls X.K (.ref W) mc "__init__"=jS (.val (.builtin "ValueError.__init__"))) (ha:PA X [a1,a2] t) (hdb:(x==("__debug__":Str))=xQ:=by decide)
  (he:j8 [a1,a2] X.env=(xQ,eval a1 X.env)::j8 [a2] X.env:=by rfl) (hpl:(jW pos (j8 [a2] X.env)).any (·.1)=xQ:=by rfl)
  (ht:eval (.Call (.Attribute (.Name x p) "__init__" apos) [a1,a2] [] pos) X.env=(do
   let ov<-eval (.Name x p) X.env
   standAt apos.atName
   let(f,first)<-holding [ov] (getMethod ov "__init__" pl)
   callWith pos f first (jW pos (j8 [a1,a2] X.env)) (backToKw pos (keywordEach [] X.env))):=by rfl):
  PE X (.Call (.Attribute (.Name x p) "__init__" apos) [a1,a2] [] pos) (tBI C t):=by
 intro jR s σ H Q I h;refine PySem.W.methodCall_KW (pl:=pl) (Ip I hg hm ?_ hdb) ht;refine PySem.W.method_cls I.kIn hs (PySem.W.cls_value I.kIn hr hf (by decide) ?_);refine PyProof.Rows.callWith_builtin1 (thn (ha pos jR _ σ H _ (I.tok _) h) λus s1 ⟨vs,H1,I1,r,e,v,ev,hx,q⟩=>?_) he hpl;subst ev;obtain⟨u,rfl⟩:∃u,us=[.ref e,u]:=by
  cases r with
  | cons r1 r2=>
   cases r2 with
   |cons r3 r4=>
    cases r4
    obtain rfl:=(show _=Value.ref e from r1)
    exact⟨_,rfl⟩
 obtain⟨⟨tp,hob⟩,_,_⟩:=I1.hok e _ hx;obtain⟨bm,N,nm,qn,bs,sn,sub,ab,col,dd,k0,k1,k2,k3,k5,hcl,T,m,hN,_⟩:=Js I1.kIn hC;obtain⟨hp,g,d,tk,os⟩:=s1;have F:=PySem.F.excBase_ValueError;refine wpAny_call (codeAny_call_builtin F.init.plain F.initEntry (wpAny_check_init_subT F T hcl hob rfl ?_))
 wp_walk
 show EP X jR σ Q .none {heap:=(hp.push {cls:=.type "tuple",data:=.seq #[u]}).update e (Obj.mapFields (·.setIfInBounds 0 (Value.ref hp.objs.size))),gens:=g,drawn:=d,toks:=tk,os:=os}
 have he1:(hp.push {cls:=.type "tuple",data:=.seq #[u]}).get? e=jS (exO C jT tp):=zZ _ hob
 have he2:((hp.push {cls:=.type "tuple",data:=.seq #[u]}).update e (Obj.mapFields (·.setIfInBounds 0 (Value.ref hp.objs.size)))).get? e=jS (exO C jT hp.objs.size):=zL _ he1 rfl
 have J:=I1.write (t':=tk) (x:=e) (e:=e) (o:=.ext (exo e C jT)) (h':=(hp.push {cls:=.type "tuple",data:=.seq #[u]}).update e (Obj.mapFields (·.setIfInBounds 0 (Value.ref hp.objs.size)))) (by rw[hx];trivial) (.inl rfl)
  (λb o n k=>by rw[zH _ _ (Ne.symm n)];exact zZ _ k) ⟨_,he2⟩ (R0 ⟨_,he2⟩)
 rw[ZD8 hx]at J;exact⟨.non,H1,J,rfl,q⟩
end
noncomputable def Iz:List jZ->Bool
 |[.type a,.type b,.type c,.type d]=>a == "ValueError"&&b == "Exception"&&c == "BaseException"&&d == "object"
 |.ref _::r=>Iz r
 |_=>xQ
theorem Zc{a b c d:String}(e:Iz [.type a,.type b,.type c,.type d]=jU): [Value.type a,.type b,.type c,.type d]=vmro:=by
 simp only[Iz,zz,beq_iff_eq]at e;obtain⟨⟨⟨rfl,rfl⟩,rfl⟩,rfl⟩:=e
 rfl
theorem Xc(self:jZ):∀{l:List jZ},Iz l=jU->refuseLoop self "__setattr__" l=pure ()
 |[.type a,.type b,.type c,.type d],e=>by rw[Zc e];exact PySem.F.store_ValueError.passes self
 |.ref c::r,e=>by rw[refuseLoop_ref];exact Xc self (l:=r) e
theorem Ys:∀{l:List jZ},Iz l=jU->l.contains (.type "object")=jU
 |[.type a,.type b,.type c,.type d],e=>by rw[Zc e];simp
 |.ref c::r,e=>by rw[List.contains_cons,Ys (l:=r) e,Bool.or_true]
def Nr(K:PySem.W.Frag)(C:qM):Bool:=(PySem.W.clsIn K C).any λcd=>Iz cd.mro
section
open PySem.W
variable{prog:qS}{w:jJ}{A:qN}{s:qU}{K:jO}{x C:qM}{R:Result->qU->Prop}
theorem ZCP{ox:Obj}{od:Option Obj}{name:Str}{tk:Tok}{v:jZ}{r:Option jZ}(X:K.In s.heap)(I:InstAt s.heap x ox C od)(hp:Nr K C=jU)(ht:takerIn K C name=jS r)
  (h:∀b,jA (j5 prog w) A.in1 (match r with |some a=>Builtin.ObjectAttr.setByDescriptor a (.ref x) v|none=>Builtin.ObjectAttr.storeInOwnDict (.ref x) (.ref C) (.str name tk) name v b)
   (λfin s'=>match fin with | .done f=>R (.ok f) s' | .again c'=>c'.quiet=jU/\codeAny (j5 prog w) A c' R s') (λe s'=>R (.error e) s') s):
  codeAny (j5 prog w) A (.call (.builtin "object.__setattr__") ⟨[.ref x,.str name tk,v],[]⟩) R s:=by
 obtain⟨cd,hcd,hve⟩:=any_some hp;obtain⟨at0,hat,htr⟩:=Option.bind_eq_some_iff.mp ht;have full:cd.mro≠[]:=λz=>by rw[z]at hve;cases hve
 have top:mroIn K C (.type "object")=jS jU:=by unfold mroIn;rw[hcd];show(if cd.mro.isEmpty=jU then _ else _)=_;rw[if_neg (by simpa using full),Ys hve]
 have line:Looks (j5 prog w) s.heap (mroOf (.ref C)) cd.mro:=(looks_clsIn X hcd).andThen Looks.now;have obj:Looks (j5 prog w) s.heap (isInstance (.ref x) (.type "object")) jU:=I.type.andThen (looks_mroIn X top);have tk3:Looks (j5 prog w) s.heap (Builtin.ObjectAttr.storeTaker? at0) r:=by
  rcases at0 with _|av
  ·cases htr;exact Looks.now
  ·obtain⟨bb,h1,h2⟩:=zk.mp htr;subst h2
   exact(looks_takesIn X h1).andThen (by cases bb<;>exact Looks.now)
 refine codeAny_call_builtin F.store_object.slot.plain F.store_object.entry (@check_slot (j5 prog w) _ _ _ "object.__setattr__" "object" "__setattr__" (.ref x) [.str name tk,v] [] _ F.store_object.kind F.store_object.split obj (F.store_object.args (.ref x) (.str name tk) v) ?_);rw[osa_eq,refuse_eq];apply jC;apply jC;refine I.type.here ?_;apply jC;refine line.here ?_;rw[Xc _ hve]
 apply jL;apply jC;refine I.type.here ?_;apply jC;refine(looks_findIn X hat).here ?_;apply jC;exact tk3.here (h _)
end
section
variable{prog:qS}{w:jJ}{A:qN}{E:jZ->qU->Prop}{s:qU}{K:PySem.W.Frag}{e C t:qM}{name:Str}{v:jZ}
theorem ZDS{Q:Unit->qU->Prop}(X:K.In s.heap)(he:s.heap.get? e=jS (exO C jT t))
  (hs:PySem.W.findIn K (.ref C) "__setattr__"=jS (jS (.builtin "object.__setattr__"))) (hp:Nr K C=jU) (ht:PySem.W.takerIn K C name=jS jT) (hh:PySem.W.hasDictIn K C=jU)
  (h:∀h' dx tk,s.heap.objs.size<=dx->h'.get? e=jS (exO C (jS dx) t)->h'.Ns1 dx (λy=>if y=name then jS v else jT)->(∀b o,b≠e->s.heap.get? b=jS o->h'.get? b=jS o)->Q () {s with heap:=h',toks:=tk}):
  jA (j5 prog w) A (setAttr (.ref e) name v) Q E s:=by
 have J:PySem.W.InstAt s.heap e (exO C jT t) C jT:=⟨he,rfl,rfl,trivial⟩;refine PySem.W.set_plain X J hs (ZCP (s:={s with toks:=s.toks+1}) (r:=jT) X J hp ht λb=>?_);obtain⟨cd,hc,hd'⟩:=PySem.W.any_some hh;refine jC (jL (jC (jC (wpAny_loadPart he (jC (PySem.W.Looks.here (s:={s with toks:=s.toks+1}) (PySem.W.looks_clsIn X hc) ?_))))));rw[hd'];have hx1:(s.heap.push {cls:=.type "dict",data:=.dict #[]}).get? e=jS (exO C jT t):=zZ _ he
 have ne:e≠s.heap.objs.size:=zA (zX he);refine jC (wpAny_alloc' ?_);refine jC (wpAny_update' hx1 ?_);unfold dictMade;refine jL ?_;have hgd:((s.heap.push {cls:=.type "dict",data:=.dict #[]}).update e λo=>{cls:=o.cls,dict:=jS s.heap.objs.size,data:=o.data,slots:=o.slots}).get? s.heap.objs.size=jS {cls:=.type "dict",data:=.dict #[]}:=
  (Heap.get?_update_ne _ _ _ _ ne.symm).trans (Heap.get?_push_at rfl rfl)
 have hnd:((s.heap.push {cls:=.type "dict",data:=.dict #[]}).update e λo=>{cls:=o.cls,dict:=jS s.heap.objs.size,data:=o.data,slots:=o.slots}).Ns s.heap.objs.size (λ_=>jT):=
  ⟨_,#[],_,hgd,rfl,λy hy=>absurd hy (by simp),λ_=>rfl⟩
 show jA _ _ (Builtin.ObjectAttr.storeInDict s.heap.objs.size _ name v) _ _ _;unfold Builtin.ObjectAttr.storeInDict Builtin.ObjectAttr.newKeyGuard;refine jC (jL (jC (wpAny_nsSet1 (Heap.Ns1.of_empty hnd) λh' hn' hs'=>?_)));obtain⟨oD,esD,epD,hoD,hdD,hcD⟩:=hn'.count (Within.cons name v Within.nil);refine jC (wpAny_lookBehind hoD (by rw[hdD];exact pastItsLine_dict (z0 hcD (by rw[List.length_cons,List.length_nil,j7];lia))) ?_)
 refine jL (h h' s.heap.objs.size _ (zW _) ?_ hn' λb o n hb=>?_)
 ·exact(hs'.2 e ne).trans (zL _ hx1 rfl)
 ·exact(hs'.2 b (zA (zX hb))).trans ((Heap.get?_update_ne _ _ _ _ n).trans (zZ _ hb))
end
structure XSet (K:PySem.W.Frag) (C:qM) (f:Str):Prop where
 ec:Gr K C=jU
 sa:PySem.W.findIn K (.ref C) "__setattr__"=jS (jS (.builtin "object.__setattr__"))
 po:Nr K C=jU
 tk:PySem.W.takerIn K C f=jS jT
 hd:PySem.W.hasDictIn K C=jU
section
variable{X:Cx}{C:qM}{f:Str}{o value:qO}{pos pos':Pos}{ta tv:TE}
def sXf(C:qM)(f:Str)(ta tv:TE):TS:=λD σ H=>tv σ H λy H1=>ta σ H1 λx H2=>∃e,x=.ref e/\H2 e=jS (.ext (exo e C jT))/\
 ∀dx o,H2 dx=jT->dx≠e->D.nx σ (upd (upd H2 e (.ext (exo e C (jS dx)))) dx (.frz o (.xd [(f,y)])))
theorem ZDX(S:XSet X.K C f)(ha:PE X o ta)(hv:PE X value tv)(hs:swapsWith value (jS (.Attribute o f pos')) pos.line X.env=pure xQ):PS X (.Assign [.Attribute o f pos'] value pos) (sXf C f ta tv):=by
 intro jR s σ H D I h;refine plainObj_wpAny_Assign_Attribute (thn (hv jR s σ H _ I h) λu s1 ⟨y,H1,I1,ry,q⟩=>thn (ha jR s1 σ H1 _ I1 q) λov s2 ⟨x,H2,I2,rx,e,ex,hx,q2⟩=>?_) hs;subst ex;obtain rfl:ov=Value.ref e:=rx;obtain⟨⟨t,hob⟩,_,_⟩:=I2.hok e _ hx;refine ZDS I2.kIn hob S.sa S.po S.tk S.hd λh' dx tk hz he' hn kp=>?_
 have fx:H2 dx=jT:=I2.hok.fresh hz;have ne:dx≠e:=λz=>by rw[z,hx]at fx;cases fx
 obtain⟨od,hod⟩:∃od,h'.get? dx=jS od:=by obtain⟨o,_,_,k,_⟩:=hn;exact⟨o,k⟩
 have J:=I2.write (t':=tk) (x:=e) (e:=e) (o:=.ext (exo e C (jS dx))) (h':=h') (by rw[hx];trivial) (.inl rfl) (λb o n k=>kp b o n k) ⟨_,he'⟩ (R0 ⟨t,he'⟩);have fx':upd H2 e (.ext (exo e C (jS dx))) dx=jT:=by unfold upd;rw[if_neg ne];exact fx
 have K2:HOk X.prog X.w (upd (upd H2 e (.ext (exo e C (jS dx)))) dx (.frz od (.xd [(f,y)]))) h':=λb ob z=>by
  by_cases zb:b=dx
  ·subst zb;have zo:ob=.frz od (.xd [(f,y)]):=by
    have z':upd (upd H2 e (.ext (exo e C (jS b)))) b (.frz od (.xd [(f,y)])) b=jS (.frz od (.xd [(f,y)])):=by unfold upd;rw[if_pos rfl]
    rw[z']at z;exact(Option.some.inj z).symm
   subst zo;refine⟨hod,_,hn,λg=>?_⟩;by_cases zg:g=f
   ·subst zg;simp[qC];exact ry
   ·have:(g==f)=xQ:=by simpa using zg
    simp[qC,this,zg]
    trivial
  ·have z':upd H2 e (.ext (exo e C (jS dx))) b=jS ob:=by unfold upd at z⊢;rw[if_neg zb]at z;exact z
   refine(J.hok b ob z').stay (λ_ _ _ k=>k) (λb' k=>?_) λb' xs k=>?_
   ·have:b'≠dx:=λw=>by rw[w,fx']at k;cases k
    show upd _ dx _ b'=_;unfold upd at k⊢;rw[if_neg this];exact k
   ·have:b'≠dx:=λw=>by rw[w,fx']at k;cases k
    show upd _ dx _ b'=_;unfold upd at k⊢;rw[if_neg this];exact k
 have ud:∀b,b≠e->b≠dx->upd (upd H2 e (.ext (exo e C (jS dx)))) dx (.frz od (.xd [(f,y)])) b=H2 b:=λb n1 n2=>by unfold upd;rw[if_neg n2,if_neg n1]
 have U:Un X.fs [] H2 (upd (upd H2 e (.ext (exo e C (jS dx)))) dx (.frz od (.xd [(f,y)]))) s2.heap h':=by
  have nd:∀b o,s2.heap.get? b=jS o->b≠dx:=λb o k z=>by have:=zX k;rw[z]at this;exact absurd this (Nat.not_lt.mpr hz)
  have n0:∀b,H2 b=jT->b≠e:=λb k z=>by rw[z,hx]at k;cases k
  refine⟨λb o k n _ _=>kp b o (n0 b n) k,λb o k n _ _=>⟨o.slots,kp b o (n0 b n) k⟩,λb o k n _=>by rw[ud b (n0 b n) (nd b o k)];exact n,λb o k _=>?_,λb xs k=>?_,λb o u k=>?_,λb ps k=>⟨#[],?_⟩⟩
  ·by_cases z:b=e
   ·subst z;exact⟨_,he'⟩
   ·exact⟨o,kp b o z k⟩
  ·rw[ud b (λz=>by rw[z,hx]at k;cases k) (λz=>by rw[z,fx]at k;cases k)];exact k
  ·rw[ud b (λz=>by rw[z,hx]at k;cases k) (λz=>by rw[z,fx]at k;cases k)];exact k
  ·rw[ud b (λz=>by rw[z,hx]at k;cases k) (λz=>by rw[z,fx]at k;cases k)];simpa using k
 exact⟨σ,_,I2.un (t':=tk) U K2,q2 dx od fx ne⟩
end
section
variable{X:Cx}{j:Nat}{v s1 s2:Str}{k1 k2 p1 p2 pv pf pos}
noncomputable def tFs(j:Nat):TE:=λσ H Q=>∃i:Int,σ[j]?=jS (jS (.int i))/\i.natAbs.log2<1920/\(Str.ofString (toString i)).length<=1000/\∀x,Q (.str x) H
theorem ZE5(hN:X.N[j]?=jS v)(hv:Vis X.env.scope v)(l1:s1.length<=1000)(l2:s2.length<=1000)(hd:(v==("__debug__":Str))=xQ:=by decide)(hcd:(v==("__classdict__":Str))=xQ:=by decide):
  PE X (.JoinedStr [.Constant (.str s1) k1 p1,.FormattedValue (.Name v pv) (-1) jT pf,.Constant (.str s2) k2 p2] pos) (tFs j):=by
 intro jR s σ H Q I h;obtain⟨i,hσ,hi,ls,q⟩:=h;have la:∀a b:Str,(a++b).length=a.length+b.length:=λa b=>by show(Str.append a b).length=_;unfold Str.append Str.length;simp
 have sz:∀n,n<=1000000->n<=sizeLine:=λn h=>by rw[j7];lia
 refine JoinedStr_many (joinParts_cons (thn (Tt (X:=X) jR s σ H (λx H'=>x=.str s1/\H'=H) I ⟨rfl,rfl⟩) λu s1' h1=>?_));obtain⟨x,H1,I1,rx,rfl,rfl⟩:=h1;obtain⟨t0,rfl⟩:=rx;refine⟨sz _ (by rw[la];show 0+_<=_;lia),?_⟩;refine joinParts_cons (FormattedValue_plain (thn (K9 (pos:=pv) hN hv hd hcd jR s1' σ H1 (λx H'=>x=.int i/\H'=H1) I1 ?_) λu s2' h1=>?_))
 ·exact⟨.int i,hσ,rfl,rfl⟩
 obtain⟨x,H2,I2,rx,rfl,rfl⟩:=h1;obtain⟨t1,rfl⟩:=rx;refine formatField_int_small hi ⟨sz _ (by rw[la,la];show 0+_+_<=_;lia),?_⟩;refine joinParts_consE (joinParts_cons (thn (Tt (X:=X) jR _ σ H2 (λx H'=>x=.str s2/\H'=H2) (I2.tok _) ⟨rfl,rfl⟩) λu s3' h1=>?_));obtain⟨x,H3,I3,rx,rfl,rfl⟩:=h1;obtain⟨t2,rfl⟩:=rx;refine⟨sz _ (by rw[la,la,la];show 0+_+_+_<=_;lia),?_⟩;refine joinParts_nilE (joinParts_nil ⟨.str _,H3,I3.tok _,⟨_,rfl⟩,q _⟩ (sz _ (by rw[la,la,la];show 0+_+_+_<=_;lia)))
end
def Rw(i:Int):Prop:=i.natAbs.log2<1920/\(Str.ofString (toString i)).length<=1000
def spI(C:qM)(f:Str):Sp:=λvs H Q _=>∃(e:qM)(i:Int),vs=[.ref e,.int i]/\Rw i/\H e=jS (.ext (exo e C jT))/\∀dx o,H dx=jT->dx≠e->Q .non (upd (upd H e (.ext (exo e C (jS dx)))) dx (.frz o (.xd [(f,.int i)])))
structure XBase (K:PySem.W.Frag) (mg:Str->Option jZ) (x:Str) (W:qM):Prop where
 m:mg x=jS (.ref W)
 s:PySem.W.specialIn K (.ref W) "__getattribute__"=jS (jS (.builtin "type.__getattribute__"))
 r:PySem.W.readsIn K W (.type "type")=jU
 f:PySem.W.findCls K (.ref W) (.type "type") "__init__"=jS (.val (.builtin "ValueError.__init__"))
theorem ZBP{K:PySem.W.Frag}{xw v f s1 s2:Str}{fa W:qM}{pw pa pc pe p1 p2 p3 p4 p5 p6 p7 p8 pv pf:Pos}{k1 k2}
  (F:Fun K x qual st fa fd) (S:FnScope ["self",v] ["self",v] (Ao st)) (XS:XSet K C f) (XB:XBase K mg xw W)
  (hb:Dk st=[.Expr (.Call (.Attribute (.Name xw pw) "__init__" pa) [.Name "self" p1,.JoinedStr [.Constant (.str s1) k1 p2,.FormattedValue (.Name v pv) (-1) jT pf,.Constant (.str s2) k2 p3] p4] [] pc) pe,.Assign [.Attribute (.Name "self" p5) f p6] (.Name v p8) p7])
  (l1:s1.length<=1000) (l2:s2.length<=1000) (hgl:(Ao st).names.lookup xw=jS .globalImplicit) (hdw:(xw==("__debug__":Str))=xQ) (hdv:(v==("__debug__":Str))=xQ) (hcv:(v==("__classdict__":Str))=xQ)
  (hvs:Vis (Ao st) "self") (hvv:Vis (Ao st) v)
  (hev:∀env:Env,∃pl:Sem Bool,eval (.Call (.Attribute (.Name xw pw) "__init__" pa) [.Name "self" p1,.JoinedStr [.Constant (.str s1) k1 p2,.FormattedValue (.Name v pv) (-1) jT pf,.Constant (.str s2) k2 p3] p4] [] pc) env=(do
   let ov<-eval (.Name xw pw) env
   standAt pa.atName
   let(f,first)<-holding [ov] (getMethod ov "__init__" pl)
   callWith pc f first (jW pc (j8 [.Name "self" p1,.JoinedStr [.Constant (.str s1) k1 p2,.FormattedValue (.Name v pv) (-1) jT pf,.Constant (.str s2) k2 p3] p4] env)) (backToKw pc (keywordEach [] env)))):
  FnOk P w K mg base CX0 (k+1) fa fd ["self",v] (spI C f):=by
 refine F.ok S (λvs H Q E ⟨e,i,z,_⟩=>by rw[z];rfl) (λcdv A outer s H vs Q E hr h=>?_);obtain⟨e,i,rfl,hi,hx,q⟩:=h;rw[hb];generalize hX:(Dr CX0 P w K mg base ["self",v] qual (Ao st) fa cdv A outer s H E).nox=X;have hK:X.K=K:=by rw[<-hX];rfl
 have hm:X.mg=mg:=by rw[<-hX];rfl
 have hN:X.N=(["self",v]:List Str):=by rw[<-hX];rfl
 have hs:X.env.scope=Ao st:=by rw[<-hX];rfl
 have pself:∀p,PE X (.Name "self" p) (Ir 0):=λp=>K9 (by rw[hN];rfl) (by rw[hs];exact hvs) (by decide) (by decide)
 have pv':∀p,PE X (.Name v p) (Ir 1):=λp=>K9 (by rw[hN];rfl) (by rw[hs];exact hvv) hdv hcv
 have hG:Gl X xw:=by unfold Gl;rw[<-hX];exact hgl
 obtain⟨pl,hpl⟩:=hev X.env;have c1:PE X (.Call (.Attribute (.Name xw pw) "__init__" pa) [.Name "self" p1,.JoinedStr [.Constant (.str s1) k1 p2,.FormattedValue (.Name v pv) (-1) jT pf,.Constant (.str s2) k2 p3] p4] [] pc) (tBI C (Sv (Ir 0) (Sv (tFs 1) tNil))):=
  ZEe (mc:=.type "type") (W:=W) (by rw[hK];exact XS.ec) hG (by rw[hm];exact XB.m) (by rw[hK];exact XB.s) (by rw[hK];exact XB.r) (by rw[hK];exact XB.f) (Gw (pself p1) (Gw (ZE5 (by rw[hN];rfl) (by rw[hs];exact hvv) l1 l2 hdv hcv) Lf)) hdw rfl rfl hpl
 have c2:PS X (.Assign [.Attribute (.Name "self" p5) f p6] (.Name v p8) p7) (sXf C f (Ir 0) (Ir 1)):=ZDX (by rw[hK];exact XS) (pself p5) (pv' p8) rfl;refine⟨_,Yb (Y9 c1 rfl) (Ww c2),?_⟩;refine⟨.ref e,rfl,i,rfl,hi.1,hi.2,λxx=>⟨e,_,rfl,hx,?_⟩⟩;exact⟨.int i,rfl,.ref e,rfl,e,rfl,hx,q⟩
section
variable{M:Model}{A:qN}{E:jZ->qU->Prop}{env:Env}
variable{nm q:Str}{C N:qM}{bs bm:List jZ}{hdct:Bool}{sn:List Str}{sub:List jZ}{ab:Bool}{col:Option Bool}{dd:Option qM}{k0 k1 k2 k3 k5:Option jZ}{newId:String}
theorem ZAp{x:Sem jZ}{Q:Flow->qU->Prop}(hh:A.handled=jT)
  (h:jA M A x (λv s₁=>∃e od t bm N nm q bs hdct sn sub ab col dd k0 k1 k2 k3 k5 newId,v=.ref e/\s₁.heap.get? C=jS (excClassObj nm q C N bs bm hdct sn sub ab col dd k0 k1 k2 k3 k5 newId)/\bm.contains (.type "BaseException")=jU/\
   s₁.heap.get? e=jS {cls:=.ref C,dict:=od,data:=.fields #[.ref t,.none,.none,.none,.bool xQ,.none]}/\E (.ref e) s₁) E s):jA M A (raiseStmt env (jS x) jT) Q E s:=by
 unfold raiseStmt;refine jC (jG h (λv s₁ h₁=>?_) λ_ _ x=>x);obtain⟨e,od,t,bm,N,nm,q,bs,hdct,sn,sub,ab,col,dd,k0,k1,k2,k3,k5,newId,rfl,hC,hb,he,hE⟩:=h₁;have hcB:(Value.ref C::bm).contains (.type "BaseException")=jU:=by rw[List.contains_cons,hb,Bool.or_true]
 obtain⟨hp,g,d,tk,os⟩:=s₁
 repeat (first|with_reducible refine wpAny_loadPart_at he ?_|with_reducible refine wpAny_loadPart_at hC ?_|(with_reducible refine wpAny_isSubtype_exc hC ?_;rw[hcB])|wp_step)
 exact wpAny_raiseNew_none hh hE
theorem ZDo{x:qO}{pos:Pos}{Q:Flow->qU->Prop}(hh:A.handled=jT)
  (h:jA M A (eval x env) (λv s₁=>∃e od t bm N nm q bs hdct sn sub ab col dd k0 k1 k2 k3 k5 newId,v=.ref e/\s₁.heap.get? C=jS (excClassObj nm q C N bs bm hdct sn sub ab col dd k0 k1 k2 k3 k5 newId)/\bm.contains (.type "BaseException")=jU/\
   s₁.heap.get? e=jS {cls:=.ref C,dict:=od,data:=.fields #[.ref t,.none,.none,.none,.bool xQ,.none]}/\E (.ref e) s₁) E s):jA M A (exec (.Raise (jS x) jT pos) env) Q E s:=by
 rw[arm_exec_Raise];refine jC (wpAny_standAt (ZAp (C:=C) hh ?_));exact jC (jG h (λv s₃ h₃=>jC (wpAny_standAt (jL h₃))) λ_ _ x=>x)
end
section
variable{X:Cx}{C fI:qM}{f x:Str}{np cpos pos:Pos}{a:qO}{ta:TA}{E:XK}{k:Nat}{fd:qP}{v:Str}
def tRz(C:qM)(f:Str)(E:XK)(ta:TA):TS:=λ_ σ H=>ta σ H λvs H1=>∃i:Int,vs=[.int i]/\Rw i/\∀dx o,H1 dx=jT->E (.ref C) (jS dx) (upd H1 dx (.frz o (.xd [(f,.int i)])))
theorem ZCG(hcalm:X.calm=jU)(hs:X.stack=X.env::X.outer)(hex:X.ex=[])(hfr:X.env.frame=jS X.env.locals)(hxe:∀e s,Ke X E e s->X.xe e s)
  (XS:XSet X.K C f) (hi:Hw X.K C fI=jU) (hfn:∃o,X.K.lookup fI=jS o/\o.cls=.type "function") (F:FnOk X.prog X.w X.K X.mg X.base CX0 k fI fd ["self",v] (spI C f)) (hr:Room (k+1) X.A) (hb:Binds X.K fd ["self",v] [])
  (hg:Gl X x) (hm:X.mg x=jS (.ref C)) (hk:PySem.W.keepIn X.K (.ref C)=jU) (ha:PA X [a] ta) (hdb:(x==("__debug__":Str))=xQ:=by decide)
  (he:j8 [a] X.env=(xQ,eval a X.env)::j8 [] X.env:=by rfl) (hpl:(jW cpos (j8 [] X.env)).any (·.1)=xQ:=by rfl):
  PS X (.Raise (jS (.Call (.Name x np) [a] [] cpos)) jT pos) (tRz C f E ta):=by
 intro jR s σ H D I h;refine ZDo (C:=C) (I.ok.hd hcalm) ?_;refine jB (Ip I hg hm ?_ hdb);refine PySem.W.callWith_K (h₀:=X.base) I.ok.mod.kin hk (thn (ha cpos jR s σ H _ I h) λus s1 ⟨vs,H1,I1,r,i,ev,hi',q⟩=>⟨I1.kIn,?_⟩) he hpl;subst ev;obtain⟨bm,N,nm,qn,bs,sn,sub,ab,col,dd,k0,k1,k2,k3,k5,hcl,T,m,hN,hin⟩:=Js I1.kIn XS.ec;obtain⟨oI,hfI,hfc⟩:=hfn;have hfI:=I1.kIn _ _ hfI;have hl1:us.length<=sizeLine:=by rw[<-r.length,j7];show 1<=_;decide
 obtain⟨hp,g,d,tk,os⟩:=s1;have FB:=PySem.F.excBase_ValueError;refine ZAn FB T hcl hN (hin fI hi) hfI hfc (λh' e hm' hz=>?_) hl1;obtain⟨t,ht,_,_⟩:=hm'.there;have ho:exo e C jT h':=⟨t,ht⟩;have I2:=I1.laid (t':=tk) (a:=e) (o:=.ext (exo e C jT)) (h':=h') hm'.keeps hz (R0 ho);have fe:H1 e=jT:=I1.hok.fresh hz;obtain⟨u,rfl⟩:∃u,us=[u]:=by
  cases r with
  |cons r1 r2=>cases r2;exact⟨_,rfl⟩
 have r2:Vals [V.ref e,V.int i] [Value.ref e,u]:=.cons rfl r;have h2e:upd H1 e (.ext (exo e C jT)) e=jS (.ext (exo e C jT)):=by unfold upd;rw[if_pos rfl]
 have h2n:∀b,b≠e->upd H1 e (.ext (exo e C jT)) b=H1 b:=λb n=>by unfold upd;rw[if_neg n]
 refine wpAny_call (jj (F.run _ X.stack _ _ ⟨[Value.ref e,u],[]⟩ [Value.ref e,u] [V.ref e,V.int i] (λw H3=>w=.non/\∃dx o,H1 dx=jT/\dx≠e/\H3=upd (upd (upd H1 e (.ext (exo e C jT))) e (.ext (exo e C (jS dx)))) dx (.frz o (.xd [(f,.int i)]))) E0 (hr.make C [u] [])
  (I2.env0.make C [u] []) (by simpa using hb _ [Value.ref e,u] I2.kIn rfl) r2 ⟨e,i,rfl,hi',h2e,λdx o n1 n2=>⟨rfl,dx,o,by rw[<-h2n dx n2];exact n1,n2,rfl⟩⟩) λr s' hq'=>?_)
 cases r with
 |error e=>exact hq'.elim
 | ok fl=>
  cases fl with
  |next=>exact False.elim hq'
  |brk=>exact False.elim hq'
  |cont=>exact False.elim hq'
  | ret w=>
   obtain⟨_,_,I3,_⟩:=I2.after hq';obtain⟨vw,H3,os',bare',un,hok,rw',rfl,dx,o,nd,ne,rfl⟩:=hq';refine⟨rw',?_⟩;have hd3:∀b,b≠e->upd (upd (upd H1 e (.ext (exo e C jT))) e (.ext (exo e C (jS dx)))) dx (.frz o (.xd [(f,.int i)])) b=upd H1 dx (.frz o (.xd [(f,.int i)])) b:=λb n=>by
    unfold upd;split
    ·rfl
    ·simp[n]
   have he3:upd (upd (upd H1 e (.ext (exo e C jT))) e (.ext (exo e C (jS dx)))) dx (.frz o (.xd [(f,.int i)])) e=jS (.ext (exo e C (jS dx))):=by unfold upd;rw[if_neg (Ne.symm ne),if_pos rfl]
   have feN:upd H1 dx (.frz o (.xd [(f,.int i)])) e=jT:=by unfold upd;rw[if_neg (Ne.symm ne)];exact fe
   obtain⟨⟨t',ht'⟩,_,_⟩:=hok e _ he3;obtain⟨bm',N',nm',qn',bs',sn',sub',ab',col',dd',l0,l1,l2,l3,l5,hcl',T',_⟩:=Js I3.kIn XS.ec;have ne':∀b o,hp.get? b=jS o->b≠e:=λb o k z=>by rw[z,hm'.new]at k;cases k
   have mk:Made X H1 ⟨hp,g,d,tk,os⟩ e (.ref C) (jS dx) s' (upd H1 dx (.frz o (.xd [(f,.int i)]))):=by
    refine⟨os',bare',⟨λb o k n hb hx=>un.keep b o (hm'.keeps b o k) (by rw[h2n b (ne' b o k)];exact n) hb hx,λb o k n hb hx=>un.slot b o (hm'.keeps b o k) (by rw[h2n b (ne' b o k)];exact n) hb hx,λb o k n hx=>?_,λb o k hx=>un.there b o (hm'.keeps b o k) hx,λb xs k=>?_,λb o u k=>?_,λb ps k=>?_⟩,λb ob z=>?_,⟨_,_,ht',rfl,rfl,rfl,rfl⟩,feN,hm'.new⟩
    ·rw[<-hd3 b (ne' b o k)];exact un.free b o (hm'.keeps b o k) (by rw[h2n b (ne' b o k)];exact n) hx
    ·have nb:b≠e:=λz=>by rw[z,fe]at k;cases k
     rw[<-hd3 b nb];exact un.tups b xs (by rw[h2n b nb];exact k)
    ·have nb:b≠e:=λz=>by rw[z,fe]at k;cases k
     rw[<-hd3 b nb];exact un.frzs b o u (by rw[h2n b nb];exact k)
    ·have nb:b≠e:=λz=>by rw[z,fe]at k;cases k
     rw[<-hd3 b nb];exact un.tbls b ps (by rw[h2n b nb];exact k)
    ·have nb:b≠e:=λz'=>by rw[z',feN]at z;cases z
     rw[<-hd3 b nb]at z;refine(hok b ob z).stay (λ_ _ _ k=>k) (λb' k=>?_) λb' xs k=>?_
     ·rw[<-hd3 b' (λz'=>by rw[z',he3]at k;cases k)];exact k
     ·rw[<-hd3 b' (λz'=>by rw[z',he3]at k;cases k)];exact k
   exact⟨e,jS dx,t',bm',N',nm',qn',bs',jU,sn',sub',ab',col',dd',l0,l1,l2,l3,l5,_,rfl,hcl',T'.hasType FB.hasBase,ht',hxe _ _ (ZEK hs hex hfr I1 mk (q dx o nd) ⟨C,rfl⟩)⟩
end
section
variable{X:Cx}{jR:List (qM×Obj)}{σ:St}{H H':Hp}{s s':qU}{B h'':Heap}{ea:qM}{cls:jZ}{od:Option qM}{E:XK}{fl:jZ}
theorem ZEG(I:Inv X jR σ H s)(os:s'.os=s.os)(bare:AllBare s'.gens)(un:Un (frs X.stack) [] H H' s.heap s'.heap)(hok:HOk X.prog X.w H' s'.heap)
  (bb:∀b o,s.heap.get? b=jS o->H b=jT->b∉frs X.stack->B.get? b=jS o) (al:∀b,H' b≠jT->∃o,B.get? b=jS o) (eb:B.get? ea=jT) (st:B.StaysIn s'.heap) (new:s.heap.get? ea=jT)
  (n:Noted B X.stack ea cls od fl s'.heap h''):∃oe vs,h''.get? ea=jS oe/\oe.cls=cls/\oe.dict=od/\oe.data=.fields vs/\H' ea=jT/\Inv X jR σ (upd H' ea (.frz oe (.own 0))) {s' with heap:=h''}:=by
 obtain⟨oe,vs,T,oT,ts,he,⟨hc,hd⟩,hda,_⟩:=n.tr;have fe:H' ea=jT:=by
  cases z:H' ea with
  |none=>rfl
  |some u=>
   obtain⟨o,k⟩:=al ea (by rw[z];simp);rw[eb]at k;cases k
 have ud:∀b,b≠ea->upd H' ea (.frz oe (.own 0)) b=H' b:=λb k=>by unfold upd;rw[if_neg k]
 have ns:∀b o,s.heap.get? b=jS o->b≠ea:=λb o k z=>by rw[z,new]at k;cases k
 have hk:=Y0 hok al st n.st;refine⟨oe,vs,he,hc,hd,hda,fe,I.call' (ch:=[]) os ⟨λb o q hn hb _=>n.st b o (bb b o q hn hb),λb o q hn hb _=>?_,λb o q hn hx=>?_,λb o q hx=>?_,λb xs q=>?_,λb o u q=>?_,λb ps q=>?_⟩ (λb ob z=>?_) bare λb z=>absurd z (by simp)⟩
 ·obtain⟨sl,k⟩:=un.slot b o q hn hb (by simp);obtain⟨_,o2,k2,nf⟩:=I.stack.mem hb;rw[q]at k2;cases k2;obtain⟨sl',k3⟩:=n.up b _ k nf;exact⟨sl',k3⟩
 ·rw[ud b (ns b o q)];exact un.free b o q hn hx
 ·obtain⟨o1,k1⟩:=un.there b o q hx;exact n.th b o1 k1
 ·have:=un.tups b xs q;rw[ud b (λz=>by rw[z,fe]at this;cases this)];exact this
 ·have:=un.frzs b o u q;rw[ud b (λz=>by rw[z,fe]at this;cases this)];exact this
 ·obtain⟨m,this⟩:=un.tbls b ps q;exact⟨m,by rw[ud b (λz=>by rw[z,fe]at this;cases this)];exact this⟩
 ·by_cases zb:b=ea
  ·subst zb;have zo:ob=.frz oe (.own 0):=by unfold upd at z;rw[if_pos rfl]at z;exact(Option.some.inj z).symm
   subst zo;exact⟨he,oe,he⟩
  ·rw[ud b zb]at z;refine(hk b ob z).stay (λ_ _ _ k=>k) (λb' k=>?_) λb' xs k=>?_
   ·rw[ud b' (λz'=>by rw[z',fe]at k;cases k)];exact k
   ·rw[ud b' (λz'=>by rw[z',fe]at k;cases k)];exact k
theorem lands(hs:X.stack=X.env::X.outer)(hfr:X.env.frame=jS X.env.locals)(I:Inv X jR σ H s){e:jZ}(h:CXx X.prog X.w X.stack H s E e s'){Q:Unit->qU->Prop}{E':jZ->qU->Prop}
  (q:∀(ea:qM)(C:jZ)(od:Option qM)(H':Hp)(oe:Obj)(vs:Array jZ)(h'':Heap),e=.ref ea->h''.get? ea=jS oe->oe.cls=C->oe.dict=od->oe.data=.fields vs->E C od H'->H' ea=jT->Inv X jR σ (upd H' ea (.frz oe (.own 0))) {s' with heap:=h''}->
   (∃B:Heap,Trc h'' B ea C od .none)->(∃C',C=.ref C')->Q () {s' with heap:=h''}):
  jA (j5 X.prog X.w) X.A (noteFrame e X.env) (λ_ s2=>jA (j5 X.prog X.w) X.A (setFlight e jT) Q E' s2) E' s':=by
 obtain⟨ea,cls,od,H',B,rfl,os,bare,un,hok,fly,bb,new,hE,hcC⟩:=h;have ff:=fly.fr;rw[hs]at ff;refine ZAq (B:=B) (L:=X.env.locals) (outer:=X.outer) (by rw[I.ok.frames,hs]) ff hfr fly.tr fly.st fly.eb λh1 n1=>?_
 refine X4 n1.fr n1.tr n1.st λh2 n2=>?_
 have n:=n1.trans n2;rw[<-hs]at n;obtain⟨oe,vs,he,hc,hd,hda,fe,J⟩:=ZEG I os bare un hok bb fly.al fly.eb fly.st new n;exact q ea cls od H' oe vs h2 rfl he hc hd hda hE fe J ⟨B,n.tr⟩ hcC
end
section
variable{M:Model}{A:qN}{E:jZ->qU->Prop}{h:Heap}{g:Array GenState}{d:Drawn}{t:Nat}{os:OsState}
theorem ZC6{W e:qM}{oe:Obj}{b:Bool}{nm q:Str}{N:qM}{bs bm:List jZ}{hdct:Bool}{sn:List Str}{sub:List jZ}{ab:Bool}{col:Option Bool}{dd:Option qM}{k0 k1 k2 k3 k5:Option jZ}{newId:String}
  {nm' q':Str} {N':qM} {bs' bm':List jZ} {hdct':Bool} {sn':List Str} {sub':List jZ} {ab':Bool} {col':Option Bool} {dd':Option qM} {l0 l1 l2 l3 l5:Option jZ} {newId':String} {Q:Bool->qU->Prop}
  (hC:h.get? C=jS (excClassObj nm q C N bs bm hdct sn sub ab col dd k0 k1 k2 k3 k5 newId)) (hW:h.get? W=jS (excClassObj nm' q' W N' bs' bm' hdct' sn' sub' ab' col' dd' l0 l1 l2 l3 l5 newId')) (he:h.get? e=jS oe) (hc:oe.cls=.ref C)
  (hb:bm'.contains (.type "BaseException")=jU) (hin:(Value.ref C::bm).contains (.ref W)=b) (hq:Q b ⟨h,g,d,t,os⟩):jA M A (excMatches (.ref e) (.ref W)) Q E ⟨h,g,d,t,os⟩:=by
 have hcB:(Value.ref W::bm').contains (.type "BaseException")=jU:=by rw[List.contains_cons,hb,Bool.or_true]
 have f:=tc_notTuple;unfold excMatches
 repeat (first|(with_reducible refine wpAny_loadPart_at he ?_;rw[hc])|with_reducible refine wpAny_loadPart_at hW ?_|(with_reducible refine wpAny_isSubtype_exc hW ?_;rw[hcB])|(with_reducible refine wpAny_isSubtype_exc hC ?_;rw[hin])|wp_step)
 cases b<;>(wp_walk;exact hq)
theorem ZD1{B:Heap}{e:qM}{Q:Unit->qU->Prop}(ht:Trc s.heap B e cls od .none)(q:∀h',(∀b o,s.heap.get? b=jS o->h'.get? b=jS o)->Q () {s with heap:=h'}):jA M A (setFlight (.ref e) jT) Q E s:=by
 obtain⟨oe,vs,T,oT,ts,he,_,hd,h1,⟨nT,nTe⟩,hT,dT,h3⟩:=ht;unfold setFlight;refine jC (jF he hd h1 ?_)
 rw[if_pos (show(Value.ref T != Value.none)=jU from by simp)]
 refine wpAny_setField hT dT (zC.mp h3).1 (q _ λb o k=>?_);by_cases z:b=T
 ·subst z;rw[hT]at k;cases k;rw[zL _ hT (Obj.isFreed_of_fields (Obj.data_mapFields dT _))];obtain⟨c,dd,dt,sl⟩:=oT;obtain rfl:dt=.fields ts:=dT;unfold Obj.mapFields;dsimp only
  congr 2
  have:ts.setIfInBounds 3 Value.none=ts:=by
   refine Array.ext_getElem? λi=>?_
   rw[Array.getElem?_setIfInBounds];split
   ·rename_i z;subst z;rw[if_pos (zC.mp h3).1,h3]
   ·rfl
  exact congrArg _ this
 ·rw[zH _ _ (Ne.symm z)];exact k
end
section
variable{X:Cx}{jR:List (qM×Obj)}{σ:St}{H:Hp}{s:qU}
theorem Nb{M:Model}{E:jZ->qU->Prop}{i:Nat}{n:Str}{pos:Pos}{Q:Unit->qU->Prop}(I:Inv X jR σ H s)(hN:X.N.Nodup)(hi:X.N[i]?=jS n)(hk:X.env.kindOf n=jS .local)
  (q:∀s',Inv X jR (σ.set i jT) H s'->Q () s'):jA M A (do bindName X.env n .none;unbindBehindTheSuite X.env n pos) Q E s:=by
 obtain⟨m,hn,hl⟩:=I.loc;have hp:(X.env.scope.kind == .class||(X.env.scope.kind == .module&&X.env.locals != X.env.globals))=xQ:=by rw[I.ok.kind];rfl
 refine wpAny_nameGoes_keeps hk hn hp λh' v hn' hs=>q _ ?_
 have neL:∀b o,X.s₀.heap.get? b=jS o->b≠X.env.locals:=λb o e=>zA (zJ (zX e) I.ok.above)
 refine⟨I.ok,I.os,I.bare,⟨λb o e nn hb hx=>(hs.2 b (neL b o e)).trans (I.base.keep b o e nn hb hx),λb o e nn hb hx=>?_,I.base.free,λb o e hx=>?_,I.base.tups,I.base.frzs,I.base.tbls⟩,⟨_,hn',λj y v' e1 e2 e3=>?_⟩,λy c e=>?_,I.free,I.Dz,λp hp=>?_,?_,by rw[qH];exact I.len⟩
 ·obtain⟨sl,e1⟩:=I.base.slot b o e nn hb hx;exact⟨sl,(hs.2 b (neL b o e)).trans e1⟩
 ·obtain⟨o',e1⟩:=I.base.there b o e hx;exact⟨o',(hs.2 b (neL b o e)).trans e1⟩
 ·have hj:j≠i:=λz=>by
   subst z;rw[zS]at e2;split at e2
   ·split at e2<;>cases e2
   ·rename_i z;exact z rfl
  rw[qw (Ne.symm hj)]at e2;obtain⟨u',r',z⟩:=hl j y v' e1 e2 e3;refine⟨u',r',?_⟩;rcases z with⟨k,e⟩|⟨k,c,e,z⟩
  ·refine .inl ⟨k,?_⟩;have:y≠n:=λe=>hj (Tw hN e1 (e▸hi))
   simp[this,e]
  ·exact .inr ⟨k,c,e,z.sameBut hs (I.cne y c e)⟩
 ·obtain⟨w',z⟩:=I.cell y c e;exact⟨w',z.sameBut hs (I.cne y c e)⟩
 ·obtain⟨e,nn,ne,nf,d⟩:=I.pin p hp;exact⟨(hs.2 p.1 ne).trans e,nn,ne,nf,d⟩
 ·exact λa o e=>(I.hok a o e).stay (λb u hb k=>(hs.2 b (λz=>by
   rcases hb with rfl|hb
   ·rw[z,I.free]at e;cases e
   ·rw[z,I.free]at hb;cases hb)).trans k) (λ_ k=>k) λ_ _ k=>k
end
noncomputable def Hi(X:Cx)(ea:qM):Cx:={X with A:=X.A.mark (jS (.ref ea)),calm:=xQ,xe:=λ_ _=>False}
section
variable{X:Cx}{jR:List (qM×Obj)}{σ:St}{H:Hp}{s:qU}{ea:qM}
theorem Ws(I:Inv X jR σ H s):Inv (Hi X ea) jR σ H s:=
 ⟨⟨I.ok.mod,I.ok.kind,I.ok.glob,I.ok.blt,I.ok.above,I.ok.inj,I.ok.has,I.ok.cab,λz=>absurd z (by simp[Hi]),I.ok.frames,I.ok.stk,I.ok.exf,I.ok.bs,I.ok.bsz,I.ok.noex,I.ok.exfs,I.ok.funs,I.ok.frf⟩,I.os,I.bare,I.base,I.loc,I.cell,I.free,I.Dz,I.pin,I.hok,I.len⟩
theorem O3{calm:X.calm=jU}(hh:X.A.handled=jT)(I:Inv (Hi X ea) jR σ H s):Inv X jR σ H s:=
 ⟨⟨I.ok.mod,I.ok.kind,I.ok.glob,I.ok.blt,I.ok.above,I.ok.inj,I.ok.has,I.ok.cab,λ_=>hh,I.ok.frames,I.ok.stk,I.ok.exf,I.ok.bs,I.ok.bsz,I.ok.noex,I.ok.exfs,I.ok.funs,I.ok.frf⟩,I.os,I.bare,I.base,I.loc,I.cell,I.free,I.Dz,I.pin,I.hok,I.len⟩
end
section
variable{X:Cx}{f W:qM}{fn x n:Str}{fp cp ep np hp pos:Pos}{a:qO}{es:List qO}{ta:TA}{sp:Sp}{k i:Nat}{fd:qP}{ps:List Str}{b₀:jQ}{suite:List jQ}{th:TS}
def takes(K:PySem.W.Frag)(C W:qM):Bool:=Gr K C&&Gr K W&&match K.lookup C with
 |some ⟨_,_,.cls cd,_⟩=>cd.mro.contains (.ref W)
 |_=>xQ
def tTry(K:PySem.W.Frag)(W:qM)(i:Nat)(sp:Sp)(ta:TA)(th:TS):TS:=λD σ H=>ta σ H λvs H1=>sp vs H1 (λ_ H2=>D.nx σ H2) λcls od H'=>cls=.none∨∃C,cls=.ref C/\takes K C W=jU/\
 ∀(ea:qM)(oe:Obj)(vs:Array jZ),H' ea=jT->oe.cls=.ref C->oe.dict=od->oe.data=.fields vs->th {nx:=λσ2 H2=>D.nx (σ2.set i jT) H2,rt:=D.rt,bk:=λσ2 H2=>D.bk (σ2.set i jT) H2,ct:=λσ2 H2=>D.ct (σ2.set i jT) H2} (σ.set i (jS (.ref ea))) (upd H' ea (.frz oe (.own 0)))
theorem ZE0(hcalm:X.calm=jU)(hs:X.stack=X.env::X.outer)(hfr:X.env.frame=jS X.env.locals)(F:FnOk X.prog X.w X.K X.mg X.base (CXx X.prog X.w) k f fd ps sp)(hr:Room k X.A)(hb:Binds X.K fd ps [])(hg:Gl X fn)(hm:X.mg fn=jS (.ref f))
  (hk:PySem.W.keepIn X.K (.ref f)=jU) (ha:PA X.nox (a::es) ta) (hgx:Gl X x) (hmx:X.mg x=jS (.ref W)) (hN:X.N.Nodup) (hi:X.N[i]?=jS n) (hl:X.env.kindOf n=jS .local)
  (hh:∀ea,PSs (Hi X ea) (b₀::suite) th)
  (hdb:(fn==("__debug__":Str))=xQ:=by decide) (hdx:(x==("__debug__":Str))=xQ:=by decide) (he:j8 (a::es) X.env=(xQ,eval a X.env)::j8 es X.env:=by rfl) (hpl:(jW cp (j8 es X.env)).any (·.1)=xQ:=by rfl)
  (hsw:swapsWith (.Call (.Name fn fp) (a::es) [] cp) jT ep.line X.env=pure xQ:=by rfl):
  PS X (.Try [.Expr (.Call (.Name fn fp) (a::es) [] cp) ep] [.ExceptHandler (jS (.Name x np)) (jS n) (b₀::suite) hp] [] [] pos) (tTry X.K W i sp ta th):=by
 intro jR s σ H D I h;refine wpAny_Try_except (wpAny_execs_cons (wpAny_Expr_any ?_ I.quiet hsw));refine jB (Ip I hg hm ?_ hdb);refine PySem.W.callWith_K (h₀:=X.base) I.ok.mod.kin hk (jG (ha cp jR s σ H _ (I.wish _) h) (λus s1 ⟨vs,H1,I1,r,q⟩=>⟨I1.kIn,?_⟩) λ_ _ z=>z.elim) he hpl;have I1':=I1.unwish;have hlen:(us++[]).length=ps.length:=by rw[zF,<-r.length];exact F.len _ _ _ _ q
 refine wpAny_call (jj (F.run X.A X.stack s1 H1 ⟨us,[]⟩ us vs _ _ hr I1'.env0 (by have:=hb s1 us I1'.kIn hlen;rwa[zF]at this) r q) λr s' hq=>?_);cases r with
 | ok fl=>
  cases fl with
  |next=>exact False.elim hq
  |brk=>exact False.elim hq
  |cont=>exact False.elim hq
  |ret u=>
   obtain⟨v,H2,I2,rv,q2⟩:=I1'.after hq;exact wpAny_execs_nil (wpAny_execs_nil ⟨σ,H2,I2,q2⟩)
 | error e=>
  refine lands hs hfr I1' hq λea C od H' oe vs' h'' ee ho hc hd hda hE fe J tr hcC=>?_
  subst ee;rcases hE with z|⟨C',hC',ht,hE⟩
  ·obtain⟨C2,z2⟩:=hcC;rw[z]at z2;cases z2
  subst hC';obtain⟨B,tr⟩:=tr;have hcalm':=I.ok.hd hcalm;unfold takes at ht;simp only[zz]at ht;obtain⟨⟨t1,t2⟩,t3⟩:=ht;obtain⟨bm,N,nm,qn,bs,sn,sub,ab,col,dd,k0,k1,k2,k3,k5,hcl,T,_⟩:=Js J.kIn t1;obtain⟨bm',N',nm',qn',bs',sn',sub',ab',col',dd',l0,l1,l2,l3,l5,hcl',T',_⟩:=Js J.kIn t2;have hin:(Value.ref C'::bm).contains (.ref W)=jU:=by
   split at t3
   ·rename_i c0 d0 cd sl0 ho';have:=J.kIn _ _ ho';rw[hcl]at this;cases this;exact t3
   ·cases t3
  refine wpAny_handleBy_cons (codeAny_handlers_test (Ip (X:=Hi X ea) (Ws J) hgx hmx ?_ hdx)) (by intro q;cases q);refine ZC6 hcl hcl' ho hc (T'.hasType PySem.F.excBase_ValueError.hasBase) hin ?_;refine codeAny_handlers_suite_as (ZD1 tr λh3 kp=>?_);have J3:=J.kept (h':=h3) (t':=s'.toks) kp;refine R5 J3 hN hi (.inl hl) (v:=.ref ea) rfl (λs4 I4=>?_) (.inr hl);refine jG (hh ea jR s4 _ _ _ (Ws I4) (hE ea oe vs' fe hc hd hda)) (λfl s5 q5=>?_) λ_ _ z=>z.elim
  cases fl with
  |next=>
   obtain⟨σ2,H2,I5,q5⟩:=q5;exact Nb (O3 (calm:=hcalm) hcalm' I5) hN hi hl λs6 I6=>⟨_,H2,I6,q5⟩
  |brk=>
   obtain⟨σ2,H2,I5,q5⟩:=q5;exact Nb (O3 (calm:=hcalm) hcalm' I5) hN hi hl λs6 I6=>⟨_,H2,I6,q5⟩
  |cont=>
   obtain⟨σ2,H2,I5,q5⟩:=q5;exact Nb (O3 (calm:=hcalm) hcalm' I5) hN hi hl λs6 I6=>⟨_,H2,I6,q5⟩
  |ret u=>
   obtain⟨v,σ2,H2,I5,rv,q5⟩:=q5;exact Nb (O3 (calm:=hcalm) hcalm' I5) hN hi hl λs6 I6=>⟨v,_,H2,I6,rv,q5⟩
end
theorem ZEj:∀n:Nat,n<100->Rw (n:Int):=by
 have h:∀n:Fin 100,((n.1:Int).natAbs.log2<1920/\(Str.ofString (toString (n.1:Int))).length<=1000):=by decide +kernel
 exact λn hn=>h ⟨n,hn⟩
def sRz(c f:Str)(t:DA):DS:=λS G=>match t S G with
 |.ok ds G1=>(match ds with
  |[.int i]=>if 0<=i/\i<100 then .err ⟨c,[(f,.int i)]⟩ G1 else .bad
  |_=>.bad)
 |.err x G1=>.err x G1
 |.bad=>.bad
section
variable{X:Cx}{E:XK}{C fI:qM}{c f v:Str}{np cpos pos:Pos}{a:qO}{t:DA}{k:Nat}{fd:qP}
theorem ZCZ(hn:PySem.W.nsIn X.K j4 c=jS (jS (.ref C)))(hcalm:X.calm=jU)(hs:X.stack=X.env::X.outer)(hex:X.ex=[])(hfr:X.env.frame=jS X.env.locals)(hxe:∀e s,Ke X E e s->X.xe e s)
  (XS:XSet X.K C f) (hi:Hw X.K C fI=jU) (hfn:∃o,X.K.lookup fI=jS o/\o.cls=.type "function") (F:FnOk X.prog X.w X.K X.mg X.base CX0 k fI fd ["self",v] (spI C f)) (hr:Room (k+1) X.A) (hb:Binds X.K fd ["self",v] [])
  (hg:Gl X c) (hm:X.mg c=jS (.ref C)) (hk:PySem.W.keepIn X.K (.ref C)=jU) (ha:QA X E [a] t) (hdb:(c==("__debug__":Str))=xQ:=by decide) (hst:notStar a=jU:=by rfl):
  QS X E (.Raise (jS (.Call (.Name c np) [a] [] cpos)) jT pos) (sRz c f t):=
 (ZCG hcalm hs hex hfr hxe XS hi hfn F hr hb hg hm hk ha hdb (Du a [] X.env hst) rfl).mono λW σ H h=>by
  obtain⟨w,S,G,hk,rfl,sm,r,h⟩:=h;refine⟨w,S,G,hk,rfl,sm,r,?_⟩;unfold sRz at h;cases ht:t S G with
  |err x G1=>rw[ht]at h;exact h
  |bad=>rw[ht]at h;exact h
  | ok ds G1=>
   rw[ht]at h;dsimp only at h;split at h
   ·rename_i i;split at h
    ·rename_i hi;intro b vs x s1 q;obtain⟨v1,r1,rfl,q1,q2⟩:=q;obtain rfl:v1=.int i:=q1;obtain rfl:r1=[]:=q2;refine⟨i,rfl,?_,λdx o nd=>?_⟩
     ·have:=ZEj i.toNat (by lia);rwa[show((i.toNat:Nat):Int)=i by lia]at this
     ·refine h.2 (b.put dx (.frz o (.xd [(f,.int i)]))) C (jS dx) (x.trans (Ext.put nd)) (s1.put nd) ?_ (.inr ⟨dx,o,[(f,.int i)],rfl,?_,rfl,?_⟩)
      ·show PySem.W.nsIn b.K _ _=_;rw[x.k,hk];exact hn
      ·show upd b.H dx _ dx=_;unfold upd;rw[if_pos rfl]
      ·exact⟨.int i,[],rfl,rfl,rfl⟩
    ·exact h.elim
   ·exact h.elim
end
noncomputable def unnm(i:Nat):SR->SR
 |.nx S G=>.nx (S.set i jT) G
 |.bk S G=>.bk (S.set i jT) G
 |.ct S G=>.ct (S.set i jT) G
 |.rt d G=>.rt d G
 |_=>.bad
def G8(ws:List Str)(i:Nat)(F:List D->DH->R D)(t:DA)(hb:DS):DS:=λS G=>match t S G with
 |.ok ds G1=>(match F ds G1 with
  |.ok _ G2=>.nx S G2
  |.err x G2=>if x.cls∈ws then unnm i (hb (S.set i (jS (.ref G2.length))) (G2++[.exc x.cls x.fs]))else .bad
  |.bad=>.bad)
 |_=>.bad
theorem RepS.unset{a:Wd}{S:DSt}{σ:St}(r:RepS a S σ)(i:Nat):RepS a (S.set i jT) (σ.set i jT):=by
 refine⟨by simpa using r.len,λj e he=>?_⟩;rw[zS]at he⊢;by_cases hij:i=j
 ·subst hij;rw[if_pos rfl]at he
  split at he<;>cases he
 ·rw[if_neg hij]at he⊢;exact r.get j e he
section
variable{X:Cx}{E:XK}{f W:qM}{fn x n:Str}{fp cp ep np hp pos:Pos}{a:qO}{es:List qO}{t:DA}{F:List D->DH->R D}{k i:Nat}{fd:qP}{ps:List Str}{b₀:jQ}{suite:List jQ}{hb:DS}{ws:List Str}
theorem ZDW(hcalm:X.calm=jU)(hs:X.stack=X.env::X.outer)(hfr:X.env.frame=jS X.env.locals)(FF:FnOk X.prog X.w X.K X.mg X.base (CXx X.prog X.w) k f fd ps (lFx X.K F))(hr:Room k X.A)(hbd:Binds X.K fd ps [])(hg:Gl X fn)(hm:X.mg fn=jS (.ref f))
  (hk:PySem.W.keepIn X.K (.ref f)=jU) (ha:QA X.nox E0 (a::es) t) (hgx:Gl X x) (hmx:X.mg x=jS (.ref W)) (hN:X.N.Nodup) (hi:X.N[i]?=jS n) (hl:X.env.kindOf n=jS .local)
  (hws:∀c∈ws,∀C,PySem.W.nsIn X.K j4 c=jS (jS (.ref C))->takes X.K C W=jU) (hh:∀ea,QSs (Hi X ea) E0 (b₀::suite) hb)
  (hdb:(fn==("__debug__":Str))=xQ:=by decide) (hdx:(x==("__debug__":Str))=xQ:=by decide) (he:j8 (a::es) X.env=(xQ,eval a X.env)::j8 es X.env:=by rfl) (hpl:(jW cp (j8 es X.env)).any (·.1)=xQ:=by rfl)
  (hsw:swapsWith (.Call (.Name fn fp) (a::es) [] cp) jT ep.line X.env=pure xQ:=by rfl):
  QS X E (.Try [.Expr (.Call (.Name fn fp) (a::es) [] cp) ep] [.ExceptHandler (jS (.Name x np)) (jS n) (b₀::suite) hp] [] [] pos) (G8 ws i F t hb):=
 (ZE0 (th:=lS X.K E0 hb) hcalm hs hfr FF hr hbd hg hm hk ha hgx hmx hN hi hl (λea=>hh ea) hdb hdx he hpl hsw).mono λD σ H h=>by
  obtain⟨w,S,G,hk,rfl,sm,r,h⟩:=h;refine⟨w,S,G,hk,rfl,sm,r,?_⟩;unfold G8 at h;cases ht:t S G with
  |err x G1=>rw[ht]at h;exact h.elim
  |bad=>rw[ht]at h;exact h
  | ok ds G1=>
   rw[ht]at h;dsimp only at h;intro b vs y s1 q;refine⟨b,G1,ds,y.k.trans hk,rfl,s1,q,?_⟩;cases hF:F ds G1 with
   |bad=>rw[hF]at h;exact h
   |ok d G2=>
    rw[hF]at h;exact λb2 v y2 s2 _=>h b2 σ (y.trans y2) s2 (r.mono (y.trans y2))
   | err xn G2=>
    rw[hF]at h;dsimp only at h;split at h
    ·rename_i hw;refine⟨λz=>?_,λb2 C od y2 s2 hn hx=>.inr ⟨C,rfl,hws _ hw C (by rw[<-hk,<-y.k,<-y2.k];exact hn),λea oe vs fe hc hd hda=>?_⟩⟩
     ·have:=congrFun (congrFun (congrFun z Value.none) jT) w.H;exact cast this (.inl rfl)
     ·subst hd;have yp:=Ext.push (a:=b2) (p:=ea) (ho:=.frz oe (.own 0)) fe;refine⟨b2.push ea (.frz oe (.own 0)),S.set i (jS (.ref G2.length)),G2++[.exc xn.cls xn.fs],?_,rfl,?_,?_,?_⟩
      ·show b2.K=_;rw[y2.k,y.k,hk]
      ·exact s2.push fe ⟨C,oe,.own 0,vs,hn,rfl,hc,hda,hx.mono yp⟩
      ·refine(r.mono (y.trans (y2.trans yp))).set i ⟨?_,?_⟩
       ·show G2.length<b2.n+1;rw[s2.len];exact zN _
       ·show V.ref ea=V.ref (if G2.length=b2.n then ea else b2.m G2.length);rw[if_pos s2.len]
      ·have yw:=y.trans (y2.trans yp)
       revert h
       cases hb (S.set i (jS (.ref G2.length))) (G2++[.exc xn.cls xn.fs])with
       |nx S3 G3=>exact λh c σ3 y3 s3 r3=>h c _ (yw.trans y3) s3 (r3.unset i)
       |bk S3 G3=>exact λh c σ3 y3 s3 r3=>h c _ (yw.trans y3) s3 (r3.unset i)
       |ct S3 G3=>exact λh c σ3 y3 s3 r3=>h c _ (yw.trans y3) s3 (r3.unset i)
       |rt d3 G3=>exact λh c v3 y3 s3 r3=>h c v3 (yw.trans y3) s3 r3
       |err x3 G3=>exact λh=>h.elim
       |bad=>exact λh=>h.elim
    ·exact h.elim
end
theorem ZDQ{K:PySem.W.Frag}{b:DS}(F:Fun K x qual st f fd)(S:FnScope N ps (Ao st))
  (hbody:∀(cdv:jZ)(A:qN)(outer:List Env)(s:qU)(H:Hp)(E:XK),Room k (A.deeper (envOfC qual (Ao st) s.heap.objs.size f cdv))->QSs (Dr (CXx P w) P w K mg base N qual (Ao st) f cdv A outer s H E) E (Dk st) b):
  FnOk P w K mg base (CXx P w) (k+1) f fd ps (lFx K (Bm ps.length (N.length-ps.length) b)):=by
 have hlen:∀vs H Q E,lFx K (Bm ps.length (N.length-ps.length) b) vs H Q E->vs.length=ps.length:=λvs H Q E h=>by
  obtain⟨a,G,ds,hk,rfl,sm,r,h⟩:=h;unfold Bm at h;split at h
  ·rename_i hl;rw[<-r.length];exact hl
  ·exact h.elim
 obtain⟨oc,od,kV,doc,pm,an,cdv,ct,osl,rfl,lk,hcd⟩:=F.ex;refine V4 lk hcd S hlen λA outer s H vs Q E hr h=>⟨lS K E b,hbody cdv A outer s H E hr,?_⟩
 have hl:=hlen vs H Q E h;obtain⟨a,G,ds,hk,rfl,sm,r,h⟩:=h;unfold Bm at h;split at h
 ·have h2:=Nj sm h;refine⟨a,ds.map jS++zQ (N.length-ps.length) jT,G,hk,rfl,sm,Sg r _ _ (by rw[hl]),?_⟩
  revert h2
  cases b (ds.map jS++zQ (N.length-ps.length) jT) G with
  |nx S1 G1=>exact λh2 c σ x s1 _=>h2 c .non x s1 rfl
  |rt d G1=>exact λh2=>h2
  |err e G1=>exact λh2=>h2
  |bk S1 G1=>exact λh2=>h2.elim
  |ct S1 G1=>exact λh2=>h2.elim
  |bad=>exact λh2=>h2
 ·exact h.elim
theorem ownX{K:PySem.W.Frag}{scope:qT}{cd:jZ}{outer:List Env}{E:XK}:
  PassesOwn (j5 P w) (Dr (CXx P w) P w K mg base N qual scope f cd A outer s H E).A (Dr (CXx P w) P w K mg base N qual scope f cd A outer s H E).env (Dr (CXx P w) P w K mg base N qual scope f cd A outer s H E).xe:=PassesOwn.leaving
section
variable{X:Cx}{E:XK}{x:Str}{p pos:Pos}{e:qO}{es:List qO}{tr:DA}
theorem ZEW(FF:FnOk X.prog X.w X.K X.mg X.base (CXx X.prog X.w) k f fd ps (lFx X.K F))(hr:Room k X.A)(hg:Gl X x)(hm:X.mg x=jS (.ref f))(hk:PySem.W.keepIn X.K (.ref f)=jU)(hb:Binds X.K fd ps [])
  (hx:Passes (CXx X.prog X.w) X E) (ha:QA X E (e::es) tr) (hdb:(x==("__debug__":Str))=xQ:=by decide) (he:notStar e=jU:=by rfl) (hpl:es.all notStar=jU:=by rfl):QE X E (.Call (.Name x p) (e::es) [] pos) (dFn F tr):=
 (Ym FF hr hg hm hk hb .nil hx ha hdb (Du e es X.env he) (H8 pos X.env es hpl)).mono λσ H Q h=>by obtain⟨a,S,G,hk,rfl,s,r,h⟩:=Kh h;refine⟨a,S,G,hk,rfl,s,r,h.imp ?_⟩;rintro vs _ ⟨b,G1,ds,hk,rfl,s1,q,h1⟩;exact⟨b,G1,ds,hk,rfl,s1,by rw[zF];exact q,h1⟩
end
structure RoomH (k:Nat) (A:qN):Prop where
 dp:A.depth+3*k+5<recursionLimit
 un:A.units+16*k+200<cLine
theorem RoomH.of(r:Room k A):RoomH k A:=⟨r.dp,r.un⟩
theorem RoomH.held{v:Option jZ}(r:RoomH k A):RoomH k (A.mark v):=⟨r.dp,r.un⟩
structure FnOkH (P:qS) (w:jJ) (K:PySem.W.Frag) (mg:Str->Option jZ) (base:Heap) (k:Nat) (f:qM) (fd:qP) (ps:List Str) (sp:Sp):Prop where
 len:∀vs H Q E,sp vs H Q E->vs.length=ps.length
 run:∀(A:qN)(outer:List Env)(s:qU)(H:Hp)(args:Args)(us:List jZ)(vs:List V)(Q:VK)(E:XK),RoomH k A->Env0 P w K mg base A outer s H->BindsTo s fd args (ps.zip us)->Vals vs us->sp vs H Q E->
  codeAny (j5 P w) A (.call (.ref f) args) (CR CX0 outer P w H s Q E) s
noncomputable def cxH(X:Cx):Cx:={X with calm:=xQ}
theorem ZAh{K:PySem.W.Frag}{b:DS}(F:Fun K x qual st f fd)(S:FnScope N ps (Ao st))
  (hbody:∀(cdv:jZ)(A:qN)(outer:List Env)(s:qU)(H:Hp)(E:XK),RoomH k (A.deeper (envOfC qual (Ao st) s.heap.objs.size f cdv))->QSs (cxH (Dr CX0 P w K mg base N qual (Ao st) f cdv A outer s H E).nox) E0 (Dk st) b):
  FnOkH P w K mg base (k+1) f fd ps (lF K (Bm ps.length (N.length-ps.length) b)):=by
 have hlen:∀vs H Q E,lF K (Bm ps.length (N.length-ps.length) b) vs H Q E->vs.length=ps.length:=λvs H Q E h=>by
  obtain⟨a,G,ds,hk,rfl,sm,r,h⟩:=h;unfold Bm at h;split at h
  ·rename_i hl;rw[<-r.length];exact hl
  ·exact h.elim
 obtain⟨oc,od,kV,doc,pm,an,cdv,ct,osl,rfl,lk,hcd⟩:=F.ex;refine⟨hlen,λA outer s H args us vs Q E rm ev bn rv pr=>?_⟩;have nl:=hlen _ _ _ _ pr;have old:=λb o e=>(ev.bs b o e).1
 have kin:=ev.mod.kin.keeps old;have scp:∀y∈ps.zip us,(Ao st).names.lookup y.1=jS .local∨((Ao st).names.lookup y.1=jS .cell/\((cellsFrom (s.heap.objs.size+1) (Ao st).names []).lookup y.1).isSome=jU):=λy hy=>
  (S.par y.1 (qG (a:=y.1) (b:=y.2) hy).1).imp id λq=>⟨q,PySem.W.cellsFrom_some _ _ _ (.inl q)⟩
 refine codeAny_call_function (show A.depth<_ by have:=rm.dp;lia) (kin _ _ lk) rfl S.co S.gen rfl (PySem.W.codeRec_of kin hcd) (bn _ _ _ _ (wpAny_newFunctionEnv_cells S.kind scp λenv he s1 x=>?_));subst he;refine⟨(ev.mod.nolimit.keeps old).keeps x.toInCall.keep,codeAny_func ?_⟩;have J:Inv (Dr CX0 P w K mg base N qual (Ao st) f cdv ({A with handled:=jT}:qN) outer s H E) [] (start N vs) H s1:=Zu S rfl ⟨ev.frames,ev.mod,ev.bs,ev.bsz,ev.funs,ev.frf,ev.hok,ev.bare⟩ nl rv x
 have I:Inv (cxH (Dr CX0 P w K mg base N qual (Ao st) f cdv A outer s H E).nox) [] (start N vs) H s1:=by obtain⟨⟨a1,a2,a3,a4,a5,a6,a7,a8,_,a10,a11,a12,a13,a14,a15,a16,a17,a18⟩,b2,b3,b4,b5,b6,b7,b8,b9,b10,b11⟩:=J;exact⟨⟨a1,a2,a3,a4,a5,a6,a7,a8,λz=>absurd z (by simp[cxH]),a10,a11,a12,a13,a14,a15,a16,a17,a18⟩,b2,b3,b4,b5,b6,b7,b8,b9,b10,b11⟩
 have rm':RoomH k (A.deeper (envOfC qual (Ao st) s.heap.objs.size f cdv)):=by
  obtain⟨r1,r2⟩:=rm;constructor
  ·show A.depth+1+3*k+5<_;lia
  ·show A.units+3+16*k+200<_;lia
 have run:lS K E0 b {nx:=λ_ H'=>Q .non H',rt:=Q} (start N vs) H:=by
  obtain⟨a,G,ds,hk,rfl,sm,r,h⟩:=pr;unfold Bm at h;split at h
  ·have h2:=Nj sm h;refine⟨a,ds.map jS++zQ (N.length-ps.length) jT,G,hk,rfl,sm,Sg r _ _ (by rw[nl]),?_⟩
   revert h2
   cases b (ds.map jS++zQ (N.length-ps.length) jT) G with
   |nx S1 G1=>exact λh2 c σ x s1 _=>h2 c .non x s1 rfl
   |rt d G1=>exact λh2=>h2
   |err e G1=>exact λh2=>h2
   |bk S1 G1=>exact λh2=>h2.elim
   |ct S1 G1=>exact λh2=>h2.elim
   |bad=>exact λh2=>h2
  ·exact h.elim
 refine jG (hbody cdv A outer s H E rm' [] s1 (start N vs) H _ I run) (λfl s' hs=>?_) λ_ _ hs=>hs.elim
 rcases fl with _|_|_|u
 ·obtain⟨_,H',Z,q⟩:=hs;exact⟨.non,H',Z.os,Z.bare,Z.base,Z.hok,rfl,q⟩
 ·obtain⟨_,_,_,q⟩:=hs;exact q.elim
 ·obtain⟨_,_,_,q⟩:=hs;exact q.elim
 ·obtain⟨v,_,H',Z,ru,q⟩:=hs;exact⟨v,H',Z.os,Z.bare,Z.base,Z.hok,ru,q⟩
section
variable{X:Cx}{E:XK}{x:Str}{p pos:Pos}{e:qO}{es:List qO}{tr:DA}
theorem ZBv(FF:FnOkH X.prog X.w X.K X.mg X.base k f fd ps (lF X.K F))(hr:RoomH k X.A)(hg:Gl X x)(hm:X.mg x=jS (.ref f))(hk:PySem.W.keepIn X.K (.ref f)=jU)(hb:Binds X.K fd ps [])
  (ha:QA X E0 (e::es) tr) (hdb:(x==("__debug__":Str))=xQ:=by decide) (he:notStar e=jU:=by rfl) (hpl:es.all notStar=jU:=by rfl):QE X E0 (.Call (.Name x p) (e::es) [] pos) (dFn F tr):=by
 have PP:PE X (.Call (.Name x p) (e::es) [] pos) (Xq (lF X.K F) [] E0 (lA X.K E0 tr)):=λjR s σ H Q I h=>by
  refine jB (Ip I hg hm ?_ hdb);refine PySem.W.callWith_K (h₀:=X.base) I.ok.mod.kin hk (thn (ha pos jR s σ H _ I h) λus s1 ⟨vs,H1,I1,r,q⟩=>⟨I1.kIn,?_⟩) (Du e es X.env he) (H8 pos X.env es hpl);dsimp only at q;rw[zF]at q;have hl:(us++[]).length=ps.length:=by rw[zF,<-r.length];exact FF.len _ _ _ _ q
  refine wpAny_call (jj (FF.run X.A X.stack s1 H1 ⟨us,[]⟩ us vs Q E0 hr I1.env0 (by have:=hb s1 us I1.kIn hl;rwa[zF]at this) r q) λr s' hq=>?_);cases r with
  |error e=>exact hq.elim
  |ok fl=>
   cases fl with
   |ret u=>exact I1.after hq
   |next=>exact False.elim hq
   |brk=>exact False.elim hq
   |cont=>exact False.elim hq
 exact PE.mono PP λσ H Q h=>by obtain⟨a,S,G,hk,rfl,s,r,h⟩:=Kh h;refine⟨a,S,G,hk,rfl,s,r,h.imp ?_⟩;rintro vs _ ⟨b,G1,ds,hk,rfl,s1,q,h1⟩;exact⟨b,G1,ds,hk,rfl,s1,by rw[zF];exact q,h1⟩
end
structure XGet (K:PySem.W.Frag) (C:qM):Prop where
 ga:PySem.W.findIn K (.ref C) "__getattribute__"=jS (jS (.builtin "BaseException.__getattribute__"))
 gn:PySem.W.findIn K (.ref C) "__getattr__"=jS jT
 sb:PySem.W.subIn K (.ref C) (.type "BaseException")=jS jU
 hd:PySem.W.hasDictIn K C=jU
 cl:PySem.W.findIn K (.ref C) "__class__"=jS (jS (.builtin "object.__class__"))
 cg:PySem.W.specialIn K (.builtin "object.__class__") "__get__"=jS (jS (.builtin "getset_descriptor.__get__"))
 ct:PySem.W.takesIn K (.builtin "object.__class__")=jS jU
 mo:PySem.W.mroIn K C (.type "object")=jS jU
 kc:PySem.W.kitCls K (.ref C) (.ref C)=jS jU
 ec:Gr K C=jU
section
variable{prog:qS}{w:jJ}{A:qN}{E:jZ->qU->Prop}{s:qU}{K:PySem.W.Frag}{x C:qM}{ox:Obj}{od:Option Obj}{name:Str}{tk:Tok}
theorem ZBe{M:Model}{nameV:jZ}{Q:Unit->qU->Prop}(X:K.In s.heap)(I:PySem.W.InstAt s.heap x ox C od)(hs:PySem.W.subIn K (.ref C) (.type "BaseException")=jS jU)(hq:Q () s):
  jA M A (checkBuiltinCall "BaseException.__getattribute__" ⟨[.ref x,nameV],[]⟩) Q E s:=by
 have hk:builtinKind "BaseException.__getattribute__"=jS .slot:=by decide +kernel
 have hsplit:splitId "BaseException.__getattribute__"=jS ("BaseException","__getattribute__"):=by decide +kernel
 have ha:=F.args_bexc_ga (.ref x) nameV;have LI:PySem.W.Looks M s.heap (isInstance (.ref x) (.type "BaseException")) jU:=(I.type (M:=M)).andThen (PySem.W.looks_subIn X hs);obtain⟨h,g,d,t,os⟩:=s;simp only[checkBuiltinCall,hk,hsplit];refine jC (LI.at ?_)
 repeat (first|wp_step)
 exact hq
theorem Wx{Q:jZ->qU->Prop}(X:K.In s.heap)(I:PySem.W.InstAt s.heap x ox C od)(G:XGet K C)
  (h:∀A',jA (j5 prog w) A' (Builtin.«object.__getattribute__» ⟨[.ref x,.str name tk],[]⟩) (λfin s'=>match fin with | .done (.ret v)=>PySem.W.handedIn v=jU/\Q v s'|_=>False) (λ_ _=>False) s):
  jA (j5 prog w) A (getAttrBy (.ref x) (.str name tk) fill expr) Q E s:=by
 have L0:=I.type (M:=j5 prog w);have L1:=PySem.W.looks_findIn (M:=j5 prog w) X G.ga;have L2:=PySem.W.looks_findIn (M:=j5 prog w) X G.gn;have f3:=F.excAttr_ValueError.ga.bind (.ref x)
 have hx0:(expr&&onTheHeap (Value.builtin "BaseException.__getattribute__"))=xQ:=by cases expr<;>rfl
 obtain⟨hh,g,d,t,os⟩:=s;unfold getAttrBy;refine wpAny_holding (jC (L0.at (jC (L1.at ?_))));dsimp only;rw[show(onTheHeap (Value.ref C)&&Value.builtin "BaseException.__getattribute__"==Value.builtin "object.__getattribute__")=xQ by rw[show(Value.builtin "BaseException.__getattribute__"==Value.builtin "object.__getattribute__")=xQ by decide +kernel];rfl];simp only[Bool.false_eq_true,if_false]
 unfold getAttrByItsOwn;show jA _ _ (typeLookup (.ref C) "__getattr__" >>=_) _ _ _;refine jC (L2.at ?_);refine jC (wpAny_attempt (wpAny_holding ?_));unfold callGetattribute;rw[hx0];simp only[Bool.false_eq_true,if_false];unfold boundAndCalled;rw[f3];refine jC (jL ?_);refine wpAny_call (codeAny_call_builtin F.excAttr_ValueError.ga.plain F.entry_bexc_ga (ZBe X I G.sb (jG (h _) (λfin s' z=>?_) λ_ _ z=>z.elim)))
 rcases fin with(_|_|_|_)|_<;>first|exact z.elim|exact PySem.W.handed_on z.1 z.2
theorem ZBT{v:jZ}{Q:jZ->qU->Prop}(X:K.In s.heap)(I:PySem.W.InstAt s.heap x ox C od)(G:XGet K C)(hf:PySem.W.findObj K C od name=jS (.value v))(hv:PySem.W.handedIn v=jU)(h:Q v s):
  jA (j5 prog w) A (getAttrBy (.ref x) (.str name tk) fill expr) Q E s:=by
 refine Wx X I G λA'=>?_
 have L0:=I.type (M:=j5 prog w);have L1:=PySem.W.looks_find (M:=j5 prog w) X I hf;obtain⟨hh,g,d,t,os⟩:=s;refine jC (jL (jC (jL (jC (L0.at (jC (L1.at ?_)))))));exact jL ⟨hv,h⟩
theorem ZEs{od:Obj}{Q:jZ->qU->Prop}(X:K.In s.heap)(I:PySem.W.InstAt s.heap x ox C (jS od))(G:XGet K C)(h:Q (.ref C) s):
  jA (j5 prog w) A (getAttrBy (.ref x) (.str "__class__" tk) fill expr) Q E s:=by
 refine Wx X I G λA'=>?_
 have hf:PySem.W.findObj K C (jS od) "__class__"=jS (.bind (.builtin "getset_descriptor.__get__") (.builtin "object.__class__")):=PySem.W.findObj_data (by obtain⟨cd,hc,_⟩:=PySem.W.any_some G.hd;rw[hc];rfl) G.cl G.cg G.ct;have L0:=I.type (M:=j5 prog w);have L1:=PySem.W.looks_find (M:=j5 prog w) X I hf;have cg:=λ(A:qN)(R:Result->qU->Prop)(z:R (.ok (.ret (.ref C))) s)=>PySem.W.class_get (prog:=prog) (w:=w) (A:=A) (R:=R) (tp:=.ref C) X I G.mo z
 obtain⟨hh,g,d,t,os⟩:=s;refine jC (jL (jC (jL (jC (L0.at (jC (L1.at ?_)))))));show jA _ _ (holding _ (call (.builtin "getset_descriptor.__get__") [.builtin "object.__class__",.ref x,.ref C]) >>=ret) _ _ _;exact jC (wpAny_holding (wpAny_call (cg _ _ (jL ⟨rfl,h⟩))))
theorem Xl{od:Obj}(G:XGet K C):PySem.W.KitX K (.ref x) (.ref C) (λh=>PySem.W.InstAt h x ox C (jS od)):=by
 refine⟨λ_ _ _ I=>I.type,λ_ _ X _=>(PySem.W.kit_cls X G.kc).2.1,λh tp dd its n sl X htp=>?_,λ{_ _ _ _ _ s}X I k=>?_⟩
 ·cases q:(Value.ref C == .ref tp)with
  |false=>rfl
  |true=>
   have z:C=tp:=Value.ref.inj (beq_iff_eq.mp q);obtain⟨_,_,_,_,_,_,_,_,_,_,_,_,_,_,_,hcl,_⟩:=Js X G.ec;rw[z,htp]at hcl;have:=congrArg Obj.cls (Option.some.inj hcl);have z2:Value.type "tuple"=Value.type "type":=this;exact absurd (Value.type.inj z2) (by decide)
 ·obtain⟨hh,g,d,t,os⟩:=s;unfold getAttr? getAttrBy?;refine jC (wpAny_mkText (jC (wpAny_attempt ?_)));exact ZEs (s:=⟨hh,g,d,t+1,os⟩) X I G (jL k)
end
noncomputable def isx(tb:List (Str×Bool))(x:D)(G:DH):R D:=match x with
 | .ref i=>(match G[i]? with
  |some (.exc c (_::_))=>(match tb.lookup c with
   |some b=>.ok (.bl b) G
   |none=>.bad)
  |_=>.bad)
 |_=>.bad
def gtx(cs:List Str)(f:Str)(x:D)(G:DH):R D:=match x with
 | .ref i=>(match G[i]? with
  |some (.exc c (p::r))=>if c∈cs then(match(p::r).lookup f with
   |some d=>.ok d G
   |none=>.bad)else .bad
  |_=>.bad)
 |_=>.bad
def HeldAt(H:Hp)(x:V)(C:qM)(us:List (Str×V)):Prop:=∃a oe u vs dx o,x=.ref a/\H a=jS (.frz oe u)/\oe.cls=.ref C/\oe.data=.fields vs/\oe.dict=jS dx/\H dx=jS (.frz o (.xd us))
theorem Sim.exc{b:Wd}{G:DH}{i:Nat}{c:Str}{p:Str×D}{fs:List (Str×D)}{v:V}(s:Sim b G)(r:Rep b (.ref i) v)(h:G[i]?=jS (.exc c (p::fs))):∃C us,PySem.W.nsIn b.K j4 c=jS (jS (.ref C))/\HeldAt b.H v C us/\RepF b (p::fs) us:=by
 obtain⟨_,ev⟩:=r;obtain⟨C,oe,u,vs,n,e,k1,k2,z⟩:=s.obj i _ h;rcases z with⟨z,_⟩|⟨dx,o,us,z1,z2,z3⟩
 ·cases z
 ·exact⟨C,us,n,⟨_,oe,u,vs,dx,o,ev,e,k1,k2,z1,z2⟩,z3⟩
section
variable{X:Cx}{E:XK}{jR:List (qM×Obj)}{σ:St}{H:Hp}{s:qU}
theorem Rh{x:V}{us:List (Str×V)}(I:Inv X jR σ H s)(h:HeldAt H x C us):∃(a:qM)(oe od:Obj)(mA:Str->Option jZ),x=.ref a/\PySem.W.InstAt s.heap a oe C (jS od)/\(∀name,PySem.W.lookIn name od=jS (mA name))/\∀f,RelO (us.lookup f) (mA f):=by
 obtain⟨a,oe,u,vs,dx,o,rfl,ea,k1,k2,k3,ed⟩:=h
 obtain⟨ha,_⟩:=(show ObjOk X.prog X.w H s.heap a (.frz oe u)from I.hok a _ ea)
 obtain⟨hd,mA,hn,hr⟩:=(show ObjOk X.prog X.w H s.heap dx (.frz o (.xd us))from I.hok dx _ ed)
 obtain⟨od,ho,hl⟩:=ZEx hn;refine⟨a,oe,od,mA,rfl,⟨ha,k1,?_,?_⟩,hl,hr⟩
 ·unfold PySem.W.notCls;rw[k2]
 ·rw[k3];exact ho
def rIs1(K:PySem.W.Frag)(cv:V)(cu:jZ):List V->Hp->VK->Prop:=λvs H Q=>∃x C us b,vs=[x,cv]/\HeldAt H x C us/\XGet K C/\PySem.W.kitOne K (.ref C) cu=jS b/\Q (.bl b) H
theorem ZA9{cv:V}{cu:jZ}(hcu:∀u,RelV cv u->u=cu):CallR X (.builtin "isinstance") (rIs1 X.K cv cu):=by
 intro jR s σ H xs us Q I rs h;obtain⟨x,C,fs,b,rfl,hx,G,hk,q⟩:=h;obtain⟨u,u',rfl,ru,ru'⟩:∃u u',us=[u,u']/\RelV x u/\RelV cv u':=by
  cases rs with
  |cons p q=>cases q with
   |cons p' q'=>cases q';exact⟨_,_,rfl,p,p'⟩
 cases hcu _ ru';obtain⟨a,oe,od,mA,rfl,J,_,_⟩:=Rh I hx
 cases(show u=Value.ref a from ru)
 exact PySem.W.kia_one (Xl G) I.kIn J hk (λz=>nomatch z) λtk=>⟨.bl b,H,I.tok _,rfl,q⟩
def rIsT(K:PySem.W.Frag)(cvs:List V)(cus:List jZ):List V->Hp->VK->Prop:=λvs H Q=>∃x C us b p,vs=[x,.ref p]/\H p=jS (.tup cvs)/\HeldAt H x C us/\XGet K C/\PySem.W.kitAny K (.ref C) cus=jS b/\Q (.bl b) H
theorem ZFN{cvs:List V}{cus:List jZ}(hcu:∀us,Vals cvs us->us=cus):CallR X (.builtin "isinstance") (rIsT X.K cvs cus):=by
 intro jR s σ H xs us Q I rs h;obtain⟨x,C,fs,b,p,rfl,hp,hx,G,hk,q⟩:=h;obtain⟨u,u',rfl,ru,ru'⟩:∃u u',us=[u,u']/\RelV x u/\RelV (.ref p) u':=by
  cases rs with
  |cons p q=>cases q with
   |cons p' q'=>cases q';exact⟨_,_,rfl,p,p'⟩
 cases(show u'=Value.ref p from ru')
 obtain⟨a,oe,od,mA,rfl,J,_,_⟩:=Rh I hx
 cases(show u=Value.ref a from ru)
 obtain⟨_,its,hv,ot,h1,h2,n,h3⟩:=(show ObjOk X.prog X.w H s.heap p (.tup cvs)from I.hok p _ hp)
 cases hcu _ hv;obtain⟨oc,od',odt,osl⟩:=ot;cases h2;cases h3
 exact PySem.W.kia_tup (Xl G) I.kIn J h1 hk (λz=>nomatch z) λtk=>⟨.bl b,H,I.tok _,rfl,q⟩
variable{e ce:qO}{ces:List qO}{t:DE}{tb:List (Str×Bool)}{cv:V}{cu:jZ}{cvs:List V}{cus:List jZ}{p pos tp:Pos}
theorem Ve(hg:Gl X "isinstance")(hm:X.mg "isinstance"=jT)(ha:QE X E e t)(hc:PE X ce (tC cv))(hcu:∀u,RelV cv u->u=cu)
  (htb:∀c b,tb.lookup c=jS b->∀C,PySem.W.nsIn X.K j4 c=jS (jS (.ref C))->XGet X.K C/\PySem.W.kitOne X.K (.ref C) cu=jS b) (he:notStar e=jU:=by rfl) (hs:notStar ce=jU:=by rfl):
  QE X E (.Call (.Name "isinstance" p) [e,ce] [] pos) (dUn (isx tb) t):=
 (Sy (ZA9 hcu) hg hm Iu (Gw ha (Gw hc Lf (Du ce [] X.env hs)) (Du e [ce] X.env he)) (by decide) (by decide) (Du e [ce] X.env he) (H8 pos X.env [ce] (by simp[hs]))).mono λσ H Q h=>by
  obtain⟨a,S,G,hk,rfl,s,r,h⟩:=h;refine⟨a,S,G,hk,rfl,s,r,(Ea h).imp ?_⟩;rintro v _ ⟨b,d,G1,rfl,x,s1,q,-,h1⟩;unfold isx at h1;split at h1
  ·rename_i i;split at h1
   ·rename_i c pf fs hi;split at h1
    ·rename_i bb hb;obtain⟨C,us,n,hx,_⟩:=s1.exc q hi;obtain⟨g1,g2⟩:=htb c bb hb C (by rw[<-hk,<-x.k];exact n);exact⟨v,C,us,bb,rfl,hx,g1,g2,h1 b _ (Ext.refl b) s1 rfl⟩
    ·exact h1.elim
   ·exact h1.elim
  ·exact h1.elim
theorem ZCs(hg:Gl X "isinstance")(hm:X.mg "isinstance"=jT)(ha:QE X E e t)(hc:PA X ces (λ_ H Q=>Q cvs H))(hl:cvs.length<=1000)(hcu:∀us,Vals cvs us->us=cus)
  (htb:∀c b,tb.lookup c=jS b->∀C,PySem.W.nsIn X.K j4 c=jS (jS (.ref C))->XGet X.K C/\PySem.W.kitAny X.K (.ref C) cus=jS b) {x1:Nat} (he:notStar e=jU:=by rfl):
  QE X E (.Call (.Name "isinstance" p) [e,.Tuple ces x1 tp] [] pos) (dUn (isx tb) t):=
 (Sy (ZFN hcu) hg hm Iu (Gw ha (Gw (V1 hc) Lf (Du _ [] X.env rfl)) (Du e _ X.env he)) (by decide) (by decide) (Du e _ X.env he) (H8 pos X.env _ rfl)).mono λσ H Q h=>by
  obtain⟨a,S,G,hk,rfl,s,r,h⟩:=h;refine⟨a,S,G,hk,rfl,s,r,(Ea h).imp ?_⟩;rintro v _ ⟨b,d,G1,rfl,x,s1,q,-,h1⟩;unfold isx at h1;split at h1
  ·rename_i i;split at h1
   ·rename_i c pf fs hi;split at h1
    ·rename_i bb hb;refine⟨by rw[j7];lia,λp hp=>?_⟩;obtain⟨C,us,n,hx,_⟩:=(s1.put (ho:=.tup cvs) hp).exc (q.mono (Ext.put hp)) hi;obtain⟨g1,g2⟩:=htb c bb hb C (by rw[<-hk,<-x.k];exact n);exact⟨v,C,us,bb,p,rfl,Eh,hx,g1,g2,h1 _ _ (Ext.put hp) (s1.put hp) rfl⟩
    ·exact h1.elim
   ·exact h1.elim
  ·exact h1.elim
variable{f:Str}{cs:List Str}
noncomputable def tXf(K:PySem.W.Frag)(ta:TE)(f:Str):TE:=λσ H Q=>ta σ H λx H1=>∃C us v,HeldAt H1 x C us/\XGet K C/\NoAttr K C f/\us.lookup f=jS v/\Q v H1
theorem ZBk{ta:TE}(he:PE X e ta)(hb:jV e f X.env (eval e X.env)=eval e X.env):PE X (.Attribute e f pos) (tXf X.K ta f):=by
 intro jR s σ H Q I h;refine ZCw hb (thn (he jR s σ H _ I h) λu s1 ⟨x,H1,I1,rx,C,us,v,hx,G,n,l,q⟩=>?_);obtain⟨a,oe,od,mA,rfl,J,hl,hr⟩:=Rh I1 hx
 cases(show u=Value.ref a from rx)
 obtain⟨u',hu,ru⟩:=RelO.some_of (v:=v) (o:=mA f) (by rw[<-l];exact hr f);obtain⟨hh,g,d,t,os⟩:=s1;unfold getAttr;refine jC (wpAny_mkText ?_);exact ZBT (s:=⟨hh,g,d,t+1,os⟩) I1.kIn J G (PySem.W.findObj_own G.hd n rfl (by rw[hl,hu])) (ZDB ru) ⟨v,H1,I1.tok _,ru,q⟩
theorem ZEZ(ha:QE X E e t)(hcs:∀c∈cs,∀C,PySem.W.nsIn X.K j4 c=jS (jS (.ref C))->XGet X.K C/\NoAttr X.K C f)(hb:jV e f X.env (eval e X.env)=eval e X.env:=by rfl):
  QE X E (.Attribute e f pos) (dUn (gtx cs f) t):=
 (ZBk ha hb).mono λσ H Q h=>by
  obtain⟨a,S,G,hk,rfl,s,r,h⟩:=h;refine⟨a,S,G,hk,rfl,s,r,(Ea h).imp ?_⟩;rintro v _ ⟨b,d,G1,rfl,x,s1,q,-,h1⟩;unfold gtx at h1;split at h1
  ·rename_i i;split at h1
   ·rename_i c pf fs hi;split at h1
    ·rename_i hc;split at h1
     ·rename_i d' hd;obtain⟨C,us,n,hx,rf⟩:=s1.exc q hi;obtain⟨g1,g2⟩:=hcs c hc C (by rw[<-hk,<-x.k];exact n);obtain⟨u,eu,ru⟩:=rf.look hd;exact⟨C,us,u,hx,g1,g2,eu,h1 b u (Ext.refl b) s1 ru⟩
     ·exact h1.elim
    ·exact h1.elim
   ·exact h1.elim
  ·exact h1.elim
end
end DL
namespace DL
open PySem PySem.Spec PySem.W L2
open PyProof.Rows hiding St
variable{K:jO}{h:Heap}{mg:Str->Option jZ}{x:Str}{X:Cx}
noncomputable def isB(r:Option (Option jZ))(n:String):Bool:=match r with
 |some (jS (.builtin m))=>m==n
 |_=>xQ
theorem Oa{r:Option (Option jZ)}{n:String}(h:isB r n=jU):r=jS (jS (.builtin n)):=by
 unfold isB at h;split at h
 ·rw[beq_iff_eq.mp h]
 ·cases h
noncomputable def Dh(r:Option Bool)(b:Bool):Bool:=match r with
 |some c=>c==b
 |_=>xQ
theorem I8{r:Option Bool}{b:Bool}(h:Dh r b=jU):r=jS b:=by
 unfold Dh at h;split at h
 ·rw[beq_iff_eq.mp h]
 ·cases h
noncomputable def M7{α:Type}(r:Option (Option α)):Bool:=match r with
 |some jT=>jU
 |_=>xQ
theorem W3{α:Type}{r:Option (Option α)}(h:M7 r=jU):r=jS jT:=by
 unfold M7 at h;split at h
 ·rfl
 ·cases h
structure ET (K:jO) (mg:Str->Option jZ) (c f:Str):Prop where
 N:nsIn K j4 c=jS (jS (.ref (Af K c)))
 g:mg c=jS (.ref (Af K c))
 k:keepIn K (.ref (Af K c))=jU
 X:XSet K (Af K c) f
 i:Hw K (Af K c) (Cj K (Af K c) "__init__")=jU
 o:∃o,K.lookup (Cj K (Af K c) "__init__")=jS o/\o.cls=.type "function"
 G:XGet K (Af K c)
 no:NoAttr K (Af K c) f
noncomputable def Qt(K:jO)(a:qM):Bool:=match K.lookup a with
 |some ⟨.type t,_,_,_⟩=>t == "function"
 |_=>xQ
theorem ZDl{a:qM}(h:Qt K a=jU):∃o,K.lookup a=jS o/\o.cls=.type "function":=by
 unfold Qt at h;split at h
 ·rename_i t _ _ _ e;exact⟨_,e,by rw[beq_iff_eq.mp h]⟩
 ·cases h
def Uq(c f:Str)(K:jO):Bool:=gOk K c&&keepIn K (.ref (Af K c))&&(Gr K (Af K c)&&Mr K (Af K c)&&Nr K (Af K c)&&M7 (takerIn K (Af K c) f)&&hasDictIn K (Af K c))&&Hw K (Af K c) (Cj K (Af K c) "__init__")&&Qt K (Cj K (Af K c) "__init__") &&
 (isB (findIn K (.ref (Af K c)) "__getattribute__") "BaseException.__getattribute__"&&M7 (findIn K (.ref (Af K c)) "__getattr__")&&Dh (subIn K (.ref (Af K c)) (.type "BaseException")) jU&&isB (findIn K (.ref (Af K c)) "__class__") "object.__class__" &&
  isB (specialIn K (.builtin "object.__class__") "__get__") "getset_descriptor.__get__"&&Dh (takesIn K (.builtin "object.__class__")) jU&&Dh (mroIn K (Af K c) (.type "object")) jU&&Dh (kitCls K (.ref (Af K c)) (.ref (Af K c))) jU)&&noF K (Af K c) f
theorem ZCF{c f:Str}(X:K.In h)(G:h.Ns j4 mg)(s:Uq c f K=jU):ET K mg c f:=by simp only[Uq,zz]at s;obtain⟨⟨⟨⟨⟨⟨h1,h2⟩,⟨⟨⟨h3,h4⟩,h5⟩,h6⟩,h7⟩,h8⟩,h9⟩,⟨⟨⟨⟨⟨⟨g1,g2⟩,g3⟩,g4⟩,g5⟩,g6⟩,g7⟩,g8⟩,h10⟩:=s;exact⟨Ji h1,mg_of X G (Ji h1),h2,⟨h3,Wj h4,h5,W3 h6,h7⟩,h8,ZDl h9,⟨Oa g1,W3 g2,I8 g3,h7,Oa g4,Oa g5,I8 g6,I8 g7,I8 g8,h3⟩,Z1 h10⟩
noncomputable def Ui(r:Option CFound)(n:String):Bool:=match r with
 |some (.val (.builtin m))=>m==n
 |_=>xQ
theorem ZCb{r:Option CFound}{n:String}(h:Ui r n=jU):r=jS (.val (.builtin n)):=by
 unfold Ui at h;split at h
 ·rw[beq_iff_eq.mp h]
 ·cases h
def Sh(x:Str)(K:jO):Bool:=gOk K x&&isB (specialIn K (.ref (Af K x)) "__getattribute__") "type.__getattribute__"&&readsIn K (Af K x) (.type "type")&&Ui (findCls K (.ref (Af K x)) (.type "type") "__init__") "ValueError.__init__"
theorem ZAu(X:K.In h)(G:h.Ns j4 mg)(s:Sh x K=jU):XBase K mg x (Af K x):=by simp only[Sh,zz]at s;obtain⟨⟨⟨h1,h2⟩,h3⟩,h4⟩:=s;exact⟨mg_of X G (Ji h1),Oa h2,h3,ZCb h4⟩
theorem Dy(X:K.In h)(G:h.Ns j4 mg)(s:gOk K x=jU):mg x=jS (.ref (Af K x)):=mg_of X G (Ji s)
abbrev FnX(P:qS)(w:jJ)(K:jO)(mg:Str->Option jZ)(base:Heap)(k:Nat)(n:Str)(ps:List Str)(F:List D->DH->R D):Prop:=FnOk P w K mg base (CXx P w) k (Af K n) (Bl K (Af K n)) ps (lFx K F)
abbrev FnH(P:qS)(w:jJ)(K:jO)(mg:Str->Option jZ)(base:Heap)(k:Nat)(n:Str)(ps:List Str)(F:List D->DH->R D):Prop:=FnOkH P w K mg base k (Af K n) (Bl K (Af K n)) ps (lF K F)
theorem ZB0:Passes (CXx X.prog X.w) X E0:=λjR σ H s e s' I h=>by obtain⟨_,_,_,_,_,_,_,_,_,_,_,_,_,z,_⟩:=h;exact z.elim
theorem RoomH.mono{j k:Nat}{A:qN}(r:RoomH k A)(h:j<=k):RoomH j A:=⟨by have:=r.dp;lia,by have:=r.un;lia⟩
section
variable{X:Cx}{E:XK}{c x n f v:Str}{e a:qO}{es:List qO}{t:DE}{tr:DA}{p q pos cpos np:Pos}{b:Bool}{F:List D->DH->R D}{k j:Nat}{ps:List Str}{st:jQ}
theorem ZB6(FF:FnX X.prog X.w X.K X.mg X.base k n ps F)(T:FT X.K X.mg n st ps)(hr:Room j X.A)(ha:QA X E0 (e::es) tr)(hj:Nat.ble k j=jU:=by rfl)(hg:Gl X n:=by rfl)(hdb:(n==("__debug__":Str))=xQ:=by decide)(he:notStar e=jU:=by rfl)(hpl:es.all notStar=jU:=by rfl):
  QE X E0 (.Call (.Name n p) (e::es) [] pos) (dFn F tr):=ZEW FF (hr.mono (zM hj)) hg T.m T.k T.b ZB0 ha hdb he hpl
theorem ZDh(FF:FnH X.prog X.w X.K X.mg X.base k n ps F)(T:FT X.K X.mg n st ps)(hr:RoomH j X.A)(ha:QA X E0 (e::es) tr)(hj:Nat.ble k j=jU:=by rfl)(hg:Gl X n:=by rfl)(hdb:(n==("__debug__":Str))=xQ:=by decide)(he:notStar e=jU:=by rfl)(hpl:es.all notStar=jU:=by rfl):
  QE X E0 (.Call (.Name n p) (e::es) [] pos) (dFn F tr):=ZBv FF (hr.mono (zM hj)) hg T.m T.k T.b ha hdb he hpl
theorem U4{P:qM->Bool->Prop}(hn:nsIn K j4 c=jS (jS (.ref (Af K c))))(h:P (Af K c) b):∀c' b',[(c,b)].lookup c'=jS b'->∀C,nsIn K j4 c'=jS (jS (.ref C))->P C b':=by
 intro c' b' hl C hC;by_cases z:c'=c
 ·subst z;rw[hn]at hC;cases hC;simp only[qC,beq_self_eq_true]at hl;cases hl;exact h
 ·have:(c'==c)=xQ:=by simpa using z
  simp only[qC,this]at hl;cases hl
theorem ZEv{w:Str}(N:nsIn X.K j4 c=jS (jS (.ref (Af X.K c))))(G:XGet X.K (Af X.K c))(hm:X.mg "isinstance"=jT)(mw:X.mg w=jS (.ref (Af X.K w)))(k:Dh (kitOne X.K (.ref (Af X.K c)) (.ref (Af X.K w))) b=jU)(ha:QE X E e t)(hg:Gl X "isinstance":=by rfl)(gw:Gl X w:=by rfl)(hd:(w==("__debug__":Str))=xQ:=by decide)(he:notStar e=jU:=by rfl):
  QE X E (.Call (.Name "isinstance" p) [e,.Name w q] [] pos) (dUn (isx [(c,b)]) t):=
 Ve (cv:=.ref (Af X.K w)) (cu:=.ref (Af X.K w)) hg hm ha (S8 gw mw rfl hd) (λu h=>h) (U4 N ⟨G,I8 k⟩) he rfl
theorem ZES{w:Str}{T:String}(N:nsIn X.K j4 c=jS (jS (.ref (Af X.K c))))(G:XGet X.K (Af X.K c))(hm:X.mg "isinstance"=jT)(mw:X.mg w=jT)(hv:jq w=jS (.type T))(k:Dh (kitOne X.K (.ref (Af X.K c)) (.type T)) b=jU)(ha:QE X E e t)(hg:Gl X "isinstance":=by rfl)(gw:Gl X w:=by rfl)(hn:w≠"__name__":=by decide)(hd:(w==("__debug__":Str))=xQ:=by decide)(he:notStar e=jU:=by rfl):
  QE X E (.Call (.Name "isinstance" p) [e,.Name w q] [] pos) (dUn (isx [(c,b)]) t):=
 Ve (cv:=.ty T) (cu:=.type T) hg hm ha (Yn gw mw hv rfl hn hd) (λu h=>h) (U4 N ⟨G,I8 k⟩) he rfl
def PC(X:Cx)(es:List qO)(ws:List Str):Prop:=PA X es (λ_ H Q=>Q (ws.map λw=>V.ref (Af X.K w)) H)
theorem ZAC:PC X [] []:=Lf
theorem Ep{w:Str}{ws:List Str}(mw:X.mg w=jS (.ref (Af X.K w)))(r:PC X es ws)(gw:Gl X w:=by rfl)(hd:(w==("__debug__":Str))=xQ:=by decide):PC X (.Name w q::es) (w::ws):=
 Gw (S8 gw mw (v:=.ref (Af X.K w)) rfl hd) r (Du _ es X.env rfl)
theorem Zv:∀{ws:List Str}{us:List jZ},Vals (ws.map λw=>V.ref (Af K w)) us->us=ws.map λw=>Value.ref (Af K w)
 |[],_,h=>by cases h;rfl
 | w::ws,_,h=>by
  cases h with
  |cons a b=>
   rw[Zv b]
   exact congrArg (·::_) a
theorem W9{ws:List Str}{x1:Nat}{tp:Pos}{ces:List qO}(N:nsIn X.K j4 c=jS (jS (.ref (Af X.K c))))(G:XGet X.K (Af X.K c))(hm:X.mg "isinstance"=jT)(hc:PC X ces ws)(k:Dh (kitAny X.K (.ref (Af X.K c)) (ws.map λw=>Value.ref (Af X.K w))) b=jU)(ha:QE X E e t)(hl:Nat.ble ws.length 1000=jU:=by rfl)(hg:Gl X "isinstance":=by rfl)(he:notStar e=jU:=by rfl):
  QE X E (.Call (.Name "isinstance" p) [e,.Tuple ces x1 tp] [] pos) (dUn (isx [(c,b)]) t):=
 ZCs hg hm ha hc (by rw[qY];exact zM hl) (λus h=>Zv h) (U4 N ⟨G,I8 k⟩) he
theorem ZC9(T:ET X.K X.mg c f)(ha:QE X E e t)(hb:jV e f X.env (eval e X.env)=eval e X.env:=by rfl):QE X E (.Attribute e f pos) (dUn (gtx [c] f) t):=
 ZEZ ha (λc' hc C hC=>by cases List.mem_singleton.mp hc;rw[T.N]at hC;cases hC;exact⟨T.G,T.no⟩) hb
theorem ZDU(T:ET X.K X.mg c f)(FI:FnOk X.prog X.w X.K X.mg X.base CX0 k (Cj X.K (Af X.K c) "__init__") (Bl X.K (Cj X.K (Af X.K c) "__init__")) ["self",v] (spI (Af X.K c) f))(hb:Binds X.K (Bl X.K (Cj X.K (Af X.K c) "__init__")) ["self",v] [])(hr:Room j X.A)(ha:QA X E [a] tr)
  (hxe:∀e s,Ke X E e s->X.xe e s:=by exact λ_ _ h=>h) (hj:Nat.ble (k+1) j=jU:=by rfl) (hcalm:X.calm=jU:=by rfl) (hs:X.stack=X.env::X.outer:=by rfl) (hex:X.ex=[]:=by rfl) (hfr:X.env.frame=jS X.env.locals:=by rfl) (hg:Gl X c:=by rfl) (hdb:(c==("__debug__":Str))=xQ:=by decide) (hst:notStar a=jU:=by rfl):
  QS X E (.Raise (jS (.Call (.Name c np) [a] [] cpos)) jT pos) (sRz c f tr):=
 ZCZ T.N hcalm hs hex hfr hxe T.X T.i T.o FI (hr.mono (zM hj)) hb hg T.g T.k ha hdb hst
theorem Y8{i:Nat}{fp cp ep hp:Pos}{b₀:jQ}{suite:List jQ}{hb:DS}{w:Str}(N:nsIn X.K j4 c=jS (jS (.ref (Af X.K c))))(hw:takes X.K (Af X.K c) (Af X.K w)=jU)(mw:X.mg w=jS (.ref (Af X.K w)))(FF:FnX X.prog X.w X.K X.mg X.base k n ps F)(T:FT X.K X.mg n st ps)(hr:Room j X.A)
  (ha:QA X.nox E0 (a::es) tr) (hN:X.N.Nodup) (hh:∀ea,RoomH j (Hi X ea).A->QSs (Hi X ea) E0 (b₀::suite) hb) (hj:Nat.ble k j=jU:=by rfl) (hcalm:X.calm=jU:=by rfl) (hs:X.stack=X.env::X.outer:=by rfl) (hfr:X.env.frame=jS X.env.locals:=by rfl) (hg:Gl X n:=by rfl) (hgw:Gl X w:=by rfl) (hi:X.N[i]?=jS x:=by rfl) (hl:X.env.kindOf x=jS .local:=by rfl)
  (hdb:(n==("__debug__":Str))=xQ:=by decide) (hdx:(w==("__debug__":Str))=xQ:=by decide) (he:j8 (a::es) X.env=(xQ,eval a X.env)::j8 es X.env:=by rfl) (hpl:(jW cp (j8 es X.env)).any (·.1)=xQ:=by rfl)
  (hsw:swapsWith (.Call (.Name n fp) (a::es) [] cp) jT ep.line X.env=pure xQ:=by rfl):
  QS X E (.Try [.Expr (.Call (.Name n fp) (a::es) [] cp) ep] [.ExceptHandler (jS (.Name w np)) (jS x) (b₀::suite) hp] [] [] pos) (G8 [c] i F tr hb):=
 ZDW hcalm hs hfr FF (hr.mono (zM hj)) T.b hg T.m T.k ha hgw mw hN hi hl (λc' hc C hC=>by cases List.mem_singleton.mp hc;rw[N]at hC;cases hC;exact hw) (λea=>hh ea (RoomH.held (.of hr))) hdb hdx he hpl hsw
end
def TupI(K:jO)(mg:Str->Option jZ)(n:Str)(ss:List Int):Prop:=∃(p:qM)(o:Obj)(its:Array jZ)(k:Nat),mg n=jS (.ref p)/\K.lookup p=jS o/\o.cls=.type "tuple"/\o.data=.seq its k/\its.size<=sizeLine/\Vals (ss.map V.int) its.toList
theorem ZDE{E:XK}{ss:List Int}{pos:Pos}(hg:Gl X x)(h:TupI X.K X.mg x ss)(hd:(x==("__debug__":Str))=xQ:=by decide):QE X E (.Name x pos) (dC (.tup (ss.map D.int))):=by obtain⟨p,o,its,k,h1,h2,h3,h4,h5,h6⟩:=h;exact M8 (v:=.ref p) hg h1 rfl (λa ha=>⟨p,ss.map V.int,rfl,.inr ⟨o,its,k,by rw[ha];exact h2,h3,h4,h5,h6⟩,Reps.ints ss⟩) hd
noncomputable def intsOf:List jZ->Option (List Int)
 |[]=>jS []
 |.int s _::r=>(intsOf r).map (s::·)
 |_::_=>jT
theorem X3:∀{l:List jZ}{ss:List Int},intsOf l=jS ss->Vals (ss.map V.int) l
 |[],ss,h=>by cases h;exact .nil
 |v::r,ss,h=>by
  unfold intsOf at h;split at h
  ·rename_i q;cases q
  ·rename_i s t r' q;cases q;obtain⟨ss',h1,rfl⟩:=zk.mp h;exact .cons ⟨_,rfl⟩ (X3 h1)
  ·cases h
def Rv(n:Str)(vs:List Int)(K:jO):Bool:=match nsIn K j4 n with
 | some (jS (.ref p))=>(match K.lookup p with
   |some ⟨.type t,_,.seq its _,_⟩=>t == "tuple"&&decide (intsOf its.toList=jS vs)&&Nat.ble its.toList.length 1000
   |_=>xQ)
 |_=>xQ
theorem ZD9{n:Str}{vs:List Int}(X:K.In h)(G:h.Ns j4 mg)(s:Rv n vs K=jU):TupI K mg n vs:=by
 unfold Rv at s;split at s
 ·rename_i p e;split at s
  ·rename_i t od its k sl e2;simp only[zz,beq_iff_eq,decide_eq_true_eq]at s;obtain⟨⟨rfl,h2⟩,h3⟩:=s;exact⟨p,_,its,k,mg_of X G e,e2,rfl,rfl,by rw[j7];have:=zM h3;simp only[qQ]at this;lia,X3 h2⟩
  ·cases s
 ·cases s
noncomputable def dNr(t:DE):DE:=λS G=>match t S G with
 |.ok d G1=>.ok d G1
 |_=>.bad
@[simp]theorem ev_Nr{t:DE}{S:DSt}{G:DH}:dNr t S G=(match t S G with
 |.ok d G1=>.ok d G1
 |_=>.bad):=id rfl
theorem ZEc{E:XK}{e:qO}{t:DE}(h:QE X E0 e t):QE X E e (dNr t):=PE.mono h λσ H Q h=>by
 obtain⟨a,S,G,hk,rfl,sm,r,h⟩:=h;refine⟨a,S,G,hk,rfl,sm,r,?_⟩;unfold dNr at h
 revert h
 cases t S G with
 |ok d G1=>exact λh=>h
 |err x G1=>exact λh=>h.elim
 |bad=>exact λh=>h
end DL
namespace Law
open PySem L2 DL
noncomputable def top(i:Nat):jQ:=PySem.Challenge.pw_sluiceway_k31_the_start.main.body.getD i (.Pass ⟨0,0,0,0⟩)
noncomputable def inC(s:jQ)(j:Nat):jQ:=match s with
 |.ClassDef _ _ _ body _ _ _ _ _ _ _=>body.getD j (.Pass ⟨0,0,0,0⟩)
 |_=>.Pass ⟨0,0,0,0⟩
noncomputable abbrev Tc:jQ:=inC (top 9) 0
theorem ZBn:FnScope ["self","place"] ["self","place"] (Ao Tc):=⟨rfl,rfl,rfl,by decide +kernel,rfl,by decide +kernel,by decide +kernel⟩
noncomputable abbrev T3:jQ:=top 27
noncomputable abbrev Xi:List Str:=["_law_cell","_law_unit_here"]
noncomputable abbrev Qa:List Str:=Xi.take 2
theorem ZE7:FnScope Xi Qa (Ao T3):=⟨rfl,rfl,rfl,by decide +kernel,rfl,by decide +kernel,by decide +kernel⟩
noncomputable abbrev R8:jQ:=top 23
noncomputable abbrev Y5:List Str:=["_law_number","_law_k","_law_digit"]
noncomputable abbrev Pj:List Str:=Y5.take 2
theorem Lk:FnScope Y5 Pj (Ao R8):=⟨rfl,rfl,rfl,by decide +kernel,rfl,by decide +kernel,by decide +kernel⟩
noncomputable abbrev Pu:jQ:=top 22
noncomputable abbrev W4:List Str:=["_law_script"]
noncomputable abbrev U8:List Str:=W4.take 1
theorem ZEa:FnScope W4 U8 (Ao Pu):=⟨rfl,rfl,rfl,by decide +kernel,rfl,by decide +kernel,by decide +kernel⟩
noncomputable abbrev T9:jQ:=top 24
noncomputable abbrev Vv:List Str:=["_law_script","_law_k","_law_number"]
noncomputable abbrev Py:List Str:=Vv.take 2
theorem Lq:FnScope Vv Py (Ao T9):=⟨rfl,rfl,rfl,by decide +kernel,rfl,by decide +kernel,by decide +kernel⟩
noncomputable abbrev Rj:jQ:=top 31
noncomputable abbrev Vm:List Str:=["_law_steps_here","_law_total","_law_low","_law_many","_law_way"]
noncomputable abbrev Tn:List Str:=Vm.take 1
theorem Jj:FnScope Vm Tn (Ao Rj):=⟨rfl,rfl,rfl,by decide +kernel,rfl,by decide +kernel,by decide +kernel⟩
noncomputable abbrev Uh:jQ:=top 29
noncomputable abbrev Wo:List Str:=["_law_cells","_law_unit_here","_law_pumps","_law_steps_here","_law_low","_law_k","_law_many","_law_way"]
noncomputable abbrev Qe:List Str:=Wo.take 3
theorem G9:FnScope Wo Qe (Ao Uh):=⟨rfl,rfl,rfl,by decide +kernel,rfl,by decide +kernel,by decide +kernel⟩
noncomputable abbrev U3:jQ:=top 28
noncomputable abbrev Zo:List Str:=["_law_script","_law_cell"]
noncomputable abbrev S6:List Str:=Zo.take 1
theorem Xa:FnScope Zo S6 (Ao U3):=⟨rfl,rfl,rfl,by decide +kernel,rfl,by decide +kernel,by decide +kernel⟩
noncomputable abbrev Kz:jQ:=top 30
noncomputable abbrev Mq:List Str:=["_law_script","_law_b","_law_unit_here","_law_pumps","_law_year_here","_law_rule_here","_law_begin","_law_j","_law_later","_law_cells"]
noncomputable abbrev Qd:List Str:=Mq.take 4
theorem Fo:FnScope Mq Qd (Ao Kz):=⟨rfl,rfl,rfl,by decide +kernel,rfl,by decide +kernel,by decide +kernel⟩
noncomputable abbrev Uz:jQ:=top 26
noncomputable abbrev Zf:List Str:=["_law_script"]
noncomputable abbrev R4:List Str:=Zf.take 1
theorem ZEp:FnScope Zf R4 (Ao Uz):=⟨rfl,rfl,rfl,by decide +kernel,rfl,by decide +kernel,by decide +kernel⟩
noncomputable abbrev Oz:jQ:=top 32
noncomputable abbrev Ti:List Str:=["_law_script","_law_b","_law_k","_law_names","_law_river","_law_unit_here","_law_cell","_law_pumps","_law_rule_here","_law_pump","_law_most","_law_to","_law_brim"]
noncomputable abbrev Tu:List Str:=Ti.take 5
theorem Fq:FnScope Ti Tu (Ao Oz):=⟨rfl,rfl,rfl,by decide +kernel,rfl,by decide +kernel,by decide +kernel⟩
noncomputable abbrev Uy:jQ:=top 25
noncomputable abbrev Vx:List Str:=["_law_cell","_law_k","_law_many","_law_other_here","_law_telling"]
noncomputable abbrev Ri:List Str:=Vx.take 3
theorem Td:FnScope Vx Ri (Ao Uy):=⟨rfl,rfl,rfl,by decide +kernel,rfl,by decide +kernel,by decide +kernel⟩
noncomputable abbrev Pb:jQ:=top 33
noncomputable abbrev T5:List Str:=["_law_script","_law_first","_law_many","_law_names","_law_k","_law_places","_law_b","_law_step","_law_delay","_law_river","_law_kind","_law_amount_here","_law_rank"]
noncomputable abbrev Th:List Str:=T5.take 1
theorem Do:FnScope T5 Th (Ao Pb):=⟨rfl,rfl,rfl,by decide +kernel,rfl,by decide +kernel,by decide +kernel⟩
noncomputable abbrev Rg:jQ:=top 34
noncomputable abbrev Yk:List Str:=["_law_script","_law_house_here","_law_unit_here","_law_levels_here","_law_bad","_law_k","_law_cell","_law_most","_law_level"]
noncomputable abbrev R9:List Str:=Yk.take 2
theorem Em:FnScope Yk R9 (Ao Rg):=⟨rfl,rfl,rfl,by decide +kernel,rfl,by decide +kernel,by decide +kernel⟩
noncomputable abbrev Qs:jQ:=top 35
noncomputable abbrev Xb:List Str:=["_law_e"]
noncomputable abbrev Q8:List Str:=Xb.take 1
theorem ZB5:FnScope Xb Q8 (Ao Qs):=⟨rfl,rfl,rfl,by decide +kernel,rfl,by decide +kernel,by decide +kernel⟩
noncomputable abbrev Ow:jQ:=top 20
noncomputable abbrev Tr:List Str:=["house","levels","number","place","highest"]
noncomputable abbrev Rp:List Str:=Tr.take 2
theorem Nf:FnScope Tr Rp (Ao Ow):=⟨rfl,rfl,rfl,by decide +kernel,rfl,by decide +kernel,by decide +kernel⟩
noncomputable abbrev Um:jQ:=top 36
noncomputable abbrev Yh:List Str:=["_law_house_here","_law_levels_here","_law_place","_law_lone","_law_e"]
noncomputable abbrev Rt:List Str:=Yh.take 2
theorem Ik:FnScope Yh Rt (Ao Um):=⟨rfl,rfl,rfl,by decide +kernel,rfl,by decide +kernel,by decide +kernel⟩
noncomputable abbrev Ec:jQ:=top 37
noncomputable abbrev Qn:List Str:=["_law_script","_law_house_here","_law_levels_here","_law_bad","_law_lone","_law_place","_law_found","_law_due","_law_row","_law_number"]
noncomputable abbrev Tv:List Str:=Qn.take 1
theorem Fg:FnScope Qn Tv (Ao Ec):=⟨rfl,rfl,rfl,by decide +kernel,rfl,by decide +kernel,by decide +kernel⟩
def Zy:DS:=(sRt (dOp Al (dOp Ba (dV 1) (dOp Av (dV 0) (dC (.int 7)))) (dOp Av (dOp Bj (dV 0) (dC (.int 7))) (dV 1))))
def Hq:List D->DH->R D:=Bm 2 0 Zy
def Ko:DS:=(sAs (dOp Bj (dV 0) (dOp Fw (dC (.int 10)) (dC (.int 8)))) (gV 0))
def Rf:DS:=(Ai (sIf (Bb (Kr Lr Fj (dC (.int 0)) (dV 0) (dOp Fw (dC (.int 10)) (dC (.int 18))))) (Ai (sAs (dOp Av (dOp Al (dOp Al (dV 0) (dOp Ba (dC (.int 1009)) (dV 1))) (dC (.int 7))) (dC (.int 999999937))) (gV 0)) (Ai (sAs (dOp Av (dOp Ba (dV 0) (dV 0)) (dC (.int 999999929))) (gV 0)) (sRt (dOp Av (dOp Ba (dV 0) (dOp Al (dV 0) (dV 1))) (dC (.int 99999989)))))) sNx) (Ai (Ek (Ew rng1 (Ac (dV 1) Ag)) (gV 2) Ko) (sRt (dOp Av (dV 0) (dOp Fw (dC (.int 10)) (dC (.int 8)))))))
def Kg:List D->DH->R D:=Bm 2 1 Rf
def Px:DS:=(sRt (Ey (dOp Fv (dFn Cp (Ac (dV 0) Ag)) (dC (.int 0))) (Tq (dOp Fj (dOp An (dV 0) (dC (.int 0))) (dC (.int 0))) (dOp T8 (dOp An (dV 0) (dC (.int 0))) (dOp Fw (dC (.int 10)) (dC (.int 18)))))))
def Ho:List D->DH->R D:=Bm 1 0 Px
def Jy:DS:=(Ai (sIf (Bb (dFn Ho (Ac (dV 0) Ag))) (Ai (sAs (dC (.int 0)) (gV 2)) (Ai (sIf (Bb (dOp Fj (dOp Al (dC (.int 1)) (dOp Bj (dV 1) (dC (.int 14)))) (dFn Cp (Ac (dV 0) Ag)))) (sAs (dOp An (dV 0) (dOp Al (dC (.int 1)) (dOp Bj (dV 1) (dC (.int 14))))) (gV 2)) sNx) (sRt (dFn Kg (Ac (dV 2) (Ac (dOp Av (dV 1) (dC (.int 14))) Ag)))))) sNx) (Ai (sIf (Bb (dOp Fj (dV 1) (dFn Cp (Ac (dV 0) Ag)))) (sRt (dOp An (dV 0) (dV 1))) sNx) (Ai (sAs (dOp Av (dOp Ba (dC (.int 48271)) (dOp Al (dOp Ba (dV 1) (dV 1)) (dOp Ba (dC (.int 7)) (dFn Cp (Ac (dV 0) Ag))))) (dC (.int 2147483647))) (gV 2)) (Ai (sIf (Bb (dOp Fv (dFn Cp (Ac (dV 0) Ag)) (dC (.int 0)))) (sAs (dOp Al (dV 2) (dOp Av (dOp Ba (dOp An (dV 0) (dOp Av (dV 1) (dFn Cp (Ac (dV 0) Ag)))) (dC (.int 69621))) (dC (.int 2147483629)))) (gV 2)) sNx) (sRt (dV 2))))))
def Az:List D->DH->R D:=Bm 2 1 Jy
def Ol:DS:=(sIf (Bb (dOp Cg (dV 4) (dC (.str "pump")))) (sAs (dOp Al (dV 1) (dV 3)) (gV 1)) sNx)
def Va:DS:=(Ai (sAs (dC (.int 0)) (gV 1)) (Ai (Ek (Gy (dV 0)) (Fi 3 (Cw (gV 2) (Cw (gV 3) (Cw (gV 4) G7)))) Ol) (sRt (dV 1))))
def Mu:List D->DH->R D:=Bm 1 4 Va
def Le:DS:=(Ai (sAs (dOp Al (dV 4) (dOp Ba (dV 1) (dOp Av (dOp An (dV 0) (dOp Al (dC (.int 1)) (dV 5))) (dC (.int 4))))) (gV 4)) (Ai (sAs (dOp Al (dC (.int 1)) (dOp Ba (dV 1) (dOp Av (dOp Bj (dOp An (dV 0) (dOp Al (dC (.int 1)) (dV 5))) (dC (.int 4))) (dC (.int 4))))) (gV 6)) (Ai (sAs (dC (.str "river")) (gV 7)) (Ai (sIf (Ih (Bb (dV 2)) (Bb (dOp Cg (dOp Av (dOp Bj (dOp An (dV 0) (dOp Al (dC (.int 1)) (dV 5))) (dC (.int 16))) (dC (.int 2))) (dC (.int 1))))) (sAs (dC (.str "pump")) (gV 7)) sNx) (Ai (sEx (Hd Gj (dV 3) (Ac (dFn Bg (Ac (dV 4) (Ac (dV 6) (Ac (dV 7) Ag)))) Ag))) (sAs (dOp Al (dV 4) (dV 6)) (gV 4)))))))
def Vb:DS:=(Ai (sAs (Jt (dFn Ay Ag)) (gV 3)) (Ai (sAs (dC (.int 0)) (gV 4)) (Ai (Ek (Ew rng1 (Ac (dOp Av (dOp An (dV 0) (dC (.int 0))) (dC (.int 4))) Ag)) (gV 5) Le) (sRt (dFn Ej (Ac (dV 3) Ag))))))
def Mx:List D->DH->R D:=Bm 3 5 Vb
def Ux:DS:=(Ai (sAs (dFn Az (Ac (dV 0) (Ac (dC (.int 1)) Ag))) (gV 1)) (Ai (sIf (Bb (dOp Cg (dOp Av (dOp Bj (dV 1) (dC (.int 4))) (dC (.int 4))) (dC (.int 1)))) (sRt (dOp Al (dC (.int 1)) (dOp Av (dOp Bj (dV 1) (dC (.int 16))) (dC (.int 24))))) sNx) (sRt (dOp Al (dC (.int 1)) (dOp Av (dV 1) (dC (.int 4)))))))
def Fl:List D->DH->R D:=Bm 1 1 Ux
def Q5:DE:=(dOp Bj (dFn Az (Ac (dV 1) (Ac (dOp Al (dOp Al (dV 2) (dC (.int 5))) (dOp Av (dOp Al (dOp Ba (dC (.int 3)) (dV 3)) (dV 0)) (dC (.int 6)))) Ag))) (dOp Al (dC (.int 1)) (dOp Ba (dC (.int 7)) (dOp Bj (dV 3) (dC (.int 2))))))
def Rm:DE:=(dOp Bj (dFn Az (Ac (dV 1) (Ac (dOp Al (dOp Al (dV 2) (dC (.int 5))) (dV 0)) Ag))) (dOp An (Cz (dFn Ay (Ac (dC (.int 1)) (Ac (dC (.int 64)) (Ac (dC (.int 4096)) (Ac (dC (.int 262144)) Ag)))))) (dV 3)))
def Ly:DS:=(sIf (dOr (Bb (dOp Cg (dV 7) (dC (.int 0)))) (Ih (Bb (dOp Cg (dOp Av (dV 8) (dC (.int 2))) (dC (.int 1)))) (Bb (dOp Fj (dOp Al (dV 6) (dC (.int 1))) (dV 4))))) (Ai (sIf (Bb (dOp Fv (dV 7) (dC (.int 0)))) (sAs (dOp Al (dOp Al (dV 6) (dC (.int 1))) (dOp Av (dOp Bj (dV 8) (dC (.int 2))) (dOp Ff (dOp Ff (dV 4) (dV 6)) (dC (.int 1))))) (gV 6)) sNx) (sEx (Hd Gj (dV 5) (Ac (dFn Bg (Ac (dV 6) (Ac (dFn Mx (Ac (dV 9) (Ac (dV 2) (Ac (dV 3) Ag)))) Ag))) Ag)))) sNx)
def Z2:DS:=(Ai (sIf (Bb (dFn Ho (Ac (dV 0) Ag))) (Ai (sAs (dOp Bj (dFn Az (Ac (dV 0) (Ac (dOp Al (dV 1) (dC (.int 4))) Ag))) (dOp An (Cz (dFn Ay (Ac (dC (.int 1)) (Ac (dC (.int 48)) (Ac (dC (.int 2304)) (Ac (dC (.int 110592)) Ag)))))) (dV 7))) (gV 8)) (sAs (Cz (Gi (Ew rng1 (Ac (dC (.int 4)) Ag)) 1 [0,1,7] (gV 0) Dc Rm)) (gV 9))) sNx) Ly)
def Xo:DS:=(Ai (sAs (Cz (Gi (Ew rng1 (Ac (dC (.int 4)) Ag)) 1 [0,1,7] (gV 0) Dc Q5)) (gV 9)) Z2)
def Gp:DS:=(Ai (sAs (dOp Av (dOp Ba (dOp Ba (dFn Az (Ac (dV 0) (Ac (dOp Al (dV 1) (dC (.int 4))) Ag))) (dC (.int 48271))) (dOp Al (dOp Ba (dV 7) (dV 7)) (dC (.int 1)))) (dC (.int 10007))) (gV 8)) Xo)
def Wf:DS:=(Ai (sAs (dFn Fl (Ac (dV 0) Ag)) (gV 4)) (Ai (sAs (Jt (dFn Ay Ag)) (gV 5)) (Ai (sAs (dC (.int 0)) (gV 6)) (Ai (Ek (Ew rng1 (Ac (dC (.int 4)) Ag)) (gV 7) Gp) (sRt (dFn Ej (Ac (dV 5) Ag)))))))
def Ob:List D->DH->R D:=Bm 4 6 Wf
def O4:DS:=(sRt (dOp An (Cz (dFn Ay (Ac (dC (.int 1)) (Ac (dC (.int 1)) (Ac (dOp Fw (dC (.int 10)) (dC (.int 30))) Ag))))) (dOp Av (dOp Bj (dFn Az (Ac (dV 0) (Ac (dC (.int 0)) Ag))) (dC (.int 840))) (dC (.int 3)))))
def Et:List D->DH->R D:=Bm 1 0 O4
def Pn:DE:=(dFn Mu (Ac (dOp An (dV 0) (dC (.int 1))) Ag))
def Yp:DS:=(sRt (dFn Bg (Ac (dC (.str "basin")) (Ac (dOp An (dV 3) (dV 2)) (Ac (dOp An (dV 4) (dC (.int 0))) (Ac (dOp An (dV 4) (dC (.int 1))) (Ac (dV 12) (Ac (dV 8) (Ac (dV 9) Ag)))))))))
def Io:DS:=(Ai (sAs (dFn Hq (Ac (dFn Az (Ac (dV 0) (Ac (dOp Al (dV 1) (dC (.int 3))) Ag))) (Ac (dV 5) Ag))) (gV 12)) Yp)
def Rq:DS:=(Ai (sIf (Bb (dV 7)) (Ai (sAs (dOp Al (dFn Jv (Ac (Cz (Gi (Gy (dV 8)) 1 [] (gV 0) Dc Pn)) Ag)) (dOp Ba (dV 5) (dOp Av (dOp Bj (dV 6) (dC (.int 130))) (dC (.int 2))))) (gV 10)) (Ai (sAs (dOp An (dV 3) (dOp Av (dOp Al (dOp Al (dV 2) (dC (.int 1))) (dOp Av (dOp Bj (dV 6) (dC (.int 2))) (dOp Ff (dFn Cp (Ac (dV 3) Ag)) (dC (.int 1))))) (dFn Cp (Ac (dV 3) Ag)))) (gV 11)) (sAs (dFn Bg (Ac (dV 11) (Ac (dOp Al (dC (.int 1)) (dOp Av (dOp Bj (dV 6) (dC (.int 26))) (dC (.int 5)))) (Ac (dV 10) Ag)))) (gV 9)))) sNx) Io)
def Qm:DS:=(Ai (sAs (dC .non) (gV 9)) Rq)
def Ib:DS:=(Ai (sAs (dFn Ob (Ac (dV 0) (Ac (dV 1) (Ac (dV 5) (Ac (dV 7) Ag))))) (gV 8)) Qm)
def Zx:DS:=(Ai (sAs (Ey (dOp Fv (dFn Cp (Ac (dV 3) Ag)) (dC (.int 1))) (dOp Cg (dOp Av (dV 6) (dC (.int 2))) (dC (.int 1)))) (gV 7)) Ib)
def Xu:DS:=(Ai (sAs (dFn Az (Ac (dV 0) (Ac (dOp Al (dV 1) (dC (.int 11))) Ag))) (gV 6)) Zx)
def Uu:DS:=(Ai (sAs (Cz (dFn Et (Ac (dV 0) Ag))) (gV 5)) Xu)
def Lp:List D->DH->R D:=Bm 5 8 Uu
def Wt:DS:=(Ai (sAs (dOp An (dC (.str "abcdefghijklmnopqrstuvwxyz")) (dOp Av (dOp Bj (dV 0) (dC (.int 21))) (dC (.int 26)))) (gV 3)) (Ai (sIf (Ih (Bb (dOp Cg (dOp Av (dV 0) (dC (.int 3))) (dC (.int 1)))) (Bb (dOp Fj (dV 2) (dC (.int 9))))) (sRt (dOp Ba (dV 3) (dOp Al (dV 1) (dC (.int 1))))) sNx) (Ai (sAs (dOp An (dC (.str "abcdefghijkl")) (dOp Av (dOp Al (dOp Ba (dC (.int 5)) (dV 1)) (dOp Bj (dV 0) (dC (.int 546)))) (dC (.int 12)))) (gV 4)) (Ai (sIf (Bb (dOp Cg (dOp Av (dV 0) (dC (.int 3))) (dC (.int 2)))) (sRt (dOp Al (dV 4) (dOp Ba (dV 3) (dOp Av (dOp Bj (dV 0) (dC (.int 3))) (dC (.int 7)))))) sNx) (sRt (dOp Al (dOp Al (dOp Ba (dV 3) (dOp Av (dOp Bj (dV 0) (dC (.int 3))) (dC (.int 7)))) (dV 4)) (dOp Ba (dV 3) (dOp Ff (dC (.int 6)) (dOp Av (dOp Bj (dV 0) (dC (.int 3))) (dC (.int 7)))))))))))
def Lz:List D->DH->R D:=Bm 3 2 Wt
def Rz:DE:=(dFn Lz (Ac (dFn Az (Ac (dV 1) (Ac (dC (.int 5)) Ag))) (Ac (dV 0) (Ac (dV 2) Ag))))
def Ja:DS:=(sIf (Bb (dOp Fj (dV 10) (dC (.int 2)))) (sEx (Hd Gj (dV 5) (Ac (Cz (dFn Lp (Ac (dV 0) (Ac (dV 6) (Ac (dV 4) (Ac (dV 3) (Ac (dV 9) Ag))))))) Ag))) (sIf (Bb (dOp Fj (dV 10) (dC (.int 4)))) (sEx (Hd Gj (dV 5) (Ac (dFn Bg (Ac (dC (.str "town")) (Ac (dOp An (dV 3) (dV 4)) (Ac (dOp An (dV 9) (dC (.int 0))) (Ac (dOp An (dV 9) (dC (.int 1))) (Ac (dV 11) (Ac (dV 12) Ag))))))) Ag))) (sEx (Hd Gj (dV 5) (Ac (dFn Bg (Ac (dC (.str "mill")) (Ac (dOp An (dV 3) (dV 4)) (Ac (dOp An (dV 9) (dC (.int 0))) (Ac (dOp An (dV 9) (dC (.int 1))) (Ac (dV 11) Ag)))))) Ag)))))
def Te:DS:=(Ai (sAs (dOp Av (dFn Az (Ac (dV 0) (Ac (dOp Al (dV 6) (dC (.int 4))) Ag))) (dOp An (Cz (dFn Ay (Ac (dC (.int 4)) (Ac (dOp Fw (dC (.int 10)) (dC (.int 40))) Ag)))) (dOp Av (dOp Bj (dV 1) (dC (.int 840))) (dC (.int 2))))) (gV 12)) Ja)
def T4:DS:=(Ai (sAs (dFn Hq (Ac (dFn Az (Ac (dV 0) (Ac (dOp Al (dV 6) (dC (.int 3))) Ag))) (Ac (Cz (dFn Et (Ac (dV 0) Ag))) Ag))) (gV 11)) Te)
def K6:DS:=(Ai (sAs (dOp Av (dFn Az (Ac (dV 0) (Ac (dV 6) Ag))) (dC (.int 5))) (gV 10)) T4)
def Qv:DS:=(Ai (sIf (Bb (dOp Fv (dV 7) (dC (.int 0)))) (sAs (dFn Bg (Ac (dOp An (dV 3) (dOp Al (dV 4) (dV 7))) (Ac (dOp An (dV 9) (dC (.int 1))) Ag))) (gV 9)) sNx) K6)
def Ug:DS:=(Ai (sAs (dFn Bg (Ac (dC (.str "sea")) (Ac (dOp Ba (dOp Av (dV 8) (dC (.int 2))) (dOp Av (dOp Bj (dV 8) (dC (.int 2))) (dC (.int 6)))) Ag))) (gV 9)) Qv)
def K5:DS:=(Ai (sAs (dFn Az (Ac (dV 0) (Ac (dOp Al (dV 6) (dC (.int 2))) Ag))) (gV 8)) Ug)
def Qz:DS:=(Ai (sIf (Bb (dOp Cg (dOp Av (dOp Bj (dV 1) (dC (.int 280))) (dC (.int 3))) (dC (.int 1)))) (sAs (dFn M3 (Ac (dC (.int 1)) (Ac (dOp Ff (dOp Ff (dV 2) (dC (.int 1))) (dV 4)) Ag))) (gV 7)) sNx) K5)
def Nv:DS:=(Ai (sAs (dOp Av (dFn Az (Ac (dV 0) (Ac (dOp Al (dV 6) (dC (.int 1))) Ag))) (dOp Ff (dV 2) (dV 4))) (gV 7)) Qz)
def Gs:DS:=(Ai (sAs (dOp Al (dC (.int 6)) (dOp Ba (dC (.int 12)) (dV 4))) (gV 6)) Nv)
def Vs:DS:=(Ai (sAs (dFn Az (Ac (dV 0) (Ac (dC (.int 0)) Ag))) (gV 1)) (Ai (sAs (dOp Al (dC (.int 1)) (dOp Av (dV 1) (dC (.int 5)))) (gV 2)) (Ai (sIf (Bb (dOp Cg (dOp Av (dOp Bj (dV 1) (dC (.int 5))) (dC (.int 8))) (dC (.int 1)))) (sAs (dOp Al (dC (.int 6)) (dOp Av (dOp Bj (dV 1) (dC (.int 40))) (dC (.int 7)))) (gV 2)) sNx) (Ai (sAs (Cz (Gi (Ew rng1 (Ac (dV 2) Ag)) 1 [0,2] (gV 0) Dc Rz)) (gV 3)) (Ai (sAs (Jt (dFn Ay Ag)) (gV 5)) (Ai (Ek (Ew rng1 (Ac (dV 2) Ag)) (gV 4) Gs) (sRt (dFn Bg (Ac (dFn Fl (Ac (dV 0) Ag)) (Ac (dFn Ej (Ac (dV 5) Ag)) Ag))))))))))
def Mw:List D->DH->R D:=Bm 1 12 Vs
def Mv:DS:=(sEx (Hd Gj (dV 3) (Ac (dV 8) Ag)))
def Nu:DS:=(Ai (sIf (Ih (Bb (dOp Fv (dOp Av (dV 6) (dC (.int 6))) (dC (.int 3)))) (Bb (dOp Om (dV 4) (dC .non)))) (sAs (dV 5) (gV 4)) sNx) Mv)
def Zb:DS:=(Ai (sIf (Bb (dOp Cg (dOp Av (dV 6) (dC (.int 6))) (dC (.int 5)))) (sAs (dOp Al (dOp Al (dV 7) (dC (.int 1))) (dFn Hq (Ac (dOp Bj (dV 6) (dC (.int 6))) (Ac (dV 2) Ag)))) (gV 8)) sNx) Nu)
def Xh:DS:=(Ai (sIf (Bb (dOp Cg (dOp Av (dV 6) (dC (.int 6))) (dC (.int 4)))) (sAs (dOp Ff (dOp Ff (dC (.int 0)) (dC (.int 1))) (dV 8)) (gV 8)) sNx) Zb)
def O8:DS:=(Ai (sAs (dOp Av (dFn Hq (Ac (dOp Bj (dV 6) (dC (.int 6))) (Ac (dV 2) Ag))) (dOp Al (dV 7) (dC (.int 1)))) (gV 8)) Xh)
def Ze:DS:=(Ai (sIf (Bb (dOp Cg (dOp An (dOp An (dOp An (dV 1) (dC (.int 1))) (dV 5)) (dC (.int 0))) (dC (.str "basin")))) (sAs (dOp An (dOp An (dOp An (dV 1) (dC (.int 1))) (dV 5)) (dC (.int 4))) (gV 7)) sNx) O8)
def Vo:DS:=(Ai (sAs (dC (.int 0)) (gV 7)) Ze)
def Lg:DS:=(Ai (sAs (dFn Az (Ac (dV 0) (Ac (dOp Al (dOp Al (dC (.int 6)) (dOp Ba (dC (.int 12)) (dFn Cp (Ac (dOp An (dV 1) (dC (.int 1))) Ag)))) (dV 5)) Ag))) (gV 6)) Vo)
def Xk:DS:=(Ai (sAs (Cz (dFn Et (Ac (dV 0) Ag))) (gV 2)) (Ai (sAs (Jt (dFn Ay Ag)) (gV 3)) (Ai (sAs (dC .non) (gV 4)) (Ai (Ek (Ew rng1 (Ac (dFn Cp (Ac (dOp An (dV 1) (dC (.int 1))) Ag)) Ag)) (gV 5) Lg) (sRt (dFn Bg (Ac (dFn Ej (Ac (dV 3) Ag)) (Ac (dV 4) Ag))))))))
def P0:List D->DH->R D:=Bm 2 7 Xk
def Zm:DS:=(Ai (sIf (Bb (dUn (isx [("NoLevel",xQ)]) (dV 0))) (sRt (dC (.bl jU))) sNx) (sRt (dUn (isx [("NoLevel",xQ)]) (dV 0))))
def N6:List D->DH->R D:=Bm 1 0 Zm
def Kp:DS:=(Ai (sAs (dIf (Bb (dOp Cg (dOp An (dV 3) (dC (.int 0))) (dC (.str "basin")))) (dOp An (dV 3) (dC (.int 4))) (dC (.int 0))) (gV 4)) (sIf (Ku (Bb (Kr Lr Lr (dC (.int 0)) (dOp An (dV 1) (dV 2)) (dV 4)))) (sRz "NoLevel" "place" (Ac (dV 2) Ag)) sNx))
def Ru:DE:=(dC (.tup [.int 0,.int 0,.int 0,.int 0,.int 0]))
def Uo:DS:=(Ai (Ek (Ew Kl (Ac (dOp An (dV 0) (dC (.int 1))) Ag)) (Fi 2 (Cw (gV 2) (Cw (gV 3) G7))) Kp) (sRt (dFn Bg (Ac (dFn Ej (Ac (dV 1) Ag)) (Ac (dFn Ej (Ac (Cz (dNr (Gi (Gy (dV 1)) 1 [] (gV 0) Dc Ru))) Ag)) Ag)))))
def Fd:List D->DH->R D:=Bm 2 3 Uo
def Oq:DS:=(sAs (Ey (dUn (isx [("NoLevel",jU)]) (dV 4)) (Ey (dUn (isx [("NoLevel",jU)]) (dV 4)) (Ma (dFn N6 (Ac (dV 4) Ag))))) (gV 3))
def Ml:DS:=(sAs (dUn (gtx ["NoLevel"] "place") (dV 4)) (gV 2))
def Wb:DS:=(Ai (sAs (dC .non) (gV 2)) (Ai (sAs (dC (.bl xQ)) (gV 3)) (Ai (G8 ["NoLevel"] 4 Fd (Ac (dV 0) (Ac (dV 1) Ag)) Oq) (Ai (G8 ["NoLevel"] 4 Fd (Ac (dV 0) (Ac (dV 1) Ag)) Ml) (sRt (dFn Bg (Ac (dV 3) (Ac (dV 2) Ag))))))))
def O6:List D->DH->R D:=Bm 2 3 Wb
def Ng:DE:=(dFn Bg (Ac (dC (.int 0)) (Ac (dC (.int 0)) (Ac (dC (.int 0)) (Ac (dC (.int 0)) (Ac (dC (.int 0)) Ag))))))
def Mf:DS:=(sIf (dOr (Ku (Bb (dFn Fb (Ac (dV 9) (Ac (dC (.ty "int")) Ag))))) (Bb (dFn Fb (Ac (dV 9) (Ac (dC (.ty "bool")) Ag))))) (sRt (dC (.bl xQ))) sNx)
def Ny:DS:=(Ek (Gy (dV 8)) (gV 9) Mf)
def Xm:DS:=(sRt (dC (.bl jU)))
def Zk:DS:=(Ai (Ek (Gy (dOp Al (dFn Bg (Ac (dOp An (dV 6) (dC (.int 0))) Ag)) (dOp An (dV 6) (dC (.int 1))))) (gV 8) Ny) Xm)
def V0:DS:=(Ai (sIf (dOr (Ku (Bb (dFn Fb (Ac (dV 6) (Ac (dC (.ty "tuple")) Ag))))) (dOr (Bb (dOp Hg (dFn Cp (Ac (dV 6) Ag)) (dC (.int 2)))) (Bb (dOp Hg (dV 6) (dV 7))))) (sRt (dC (.bl xQ))) sNx) Zk)
def Vk:DS:=(Ai (sAs (dFn Bg (Ac (dV 2) (Ac (dFn Ej (Ac (Cz (Gi (Gy (dOp An (dV 1) (dC (.int 1)))) 1 [] (gV 0) Dc Ng)) Ag)) Ag))) (gV 7)) V0)
def Vp:DS:=(Ai (sAs (dFn Fd (Ac (dV 1) (Ac (dV 2) Ag))) (gV 6)) Vk)
def R6:DS:=(Ai (sIf (Bb (dOp Nk (dV 3) (dC .non))) (Ai (sAs (dFn O6 (Ac (dV 1) (Ac (dV 2) Ag))) (Fi 2 (Cw (gV 4) (Cw (gV 5) G7)))) (sRt (Ey (dV 4) (Ey (dFn Fb (Ac (dV 5) (Ac (dC (.ty "int")) Ag))) (Ey (Ma (dFn Fb (Ac (dV 5) (Ac (dC (.ty "bool")) Ag)))) (dOp Cg (dV 5) (dV 3))))))) sNx) Vp)
def Ut:DS:=(Ai (sAs (dFn P0 (Ac (dV 0) (Ac (dV 1) Ag))) (Fi 2 (Cw (gV 2) (Cw (gV 3) G7)))) R6)
def Pz:DS:=(Ai (sAs (dFn Mw (Ac (dV 0) Ag)) (gV 1)) Ut)
def Gu:List D->DH->R D:=Bm 1 9 Pz
def Holds:Prop:=∀ns:List Int,ns.length<=63->∃G,Gu [.fl (ns.map D.int)] []=.ok (.bl jU) G
end Law
namespace Law
open PySem L2 DL
variable{ns:List Int}{k m i b j:Nat}{F f xs L:Nat->Int}{G:DH}{c u yr:Int}{p:Bool}{S:DSt}{l:List Nat}{nm:Nat->Str}
theorem ZAB:∃b,∀G,Ho [.fl (ns.map D.int)] G=.ok (.bl b) G:=by
 cases ns with
 |nil=>exact⟨xQ,λG=>by unfold Ho Px;rw[Bq];simp[Bs]⟩
 |cons n r=>
  refine⟨decide (n<0)||decide (1000000000000000000<=n),λG=>?_⟩;unfold Ho Px;rw[Bq];have a0:atI ((n::r).map D.int) 0=jS (.int n):=Di (k:=0) rfl rfl;by_cases h:n<0
  ·simp[a0,h,Bs]
  ·simp[a0,h,Bs]
noncomputable def offV:Nat->Int->Int
 |0,v=>v
 |n+1,v=>offV n (v/100000000)
theorem Xp{k:D}{G:DH}:∀(n:Nat)(j:Nat)(v:Int)(x:Option D),∃x',Bp (gV 2) Ko (By j n) [jS (.int v),jS k,x] G=.nx [jS (.int (offV n v)),jS k,x'] G
 |0,j,v,x=>⟨x,by rw[Ld,Ga];rfl⟩
 |n+1,j,v,x=>by
  obtain⟨x',ih⟩:=Xp (k:=k) (G:=G) n (j+1) (v/100000000) (jS (.int j));refine⟨x',?_⟩;have hb:Ko [jS (.int v),jS k,jS (.int j)] G=.nx [jS (.int (v/100000000)),jS k,jS (.int j)] G:=by unfold Ko;simp
  rw[Ju,Ed];simp only[Jm,R.J7,List.set,hb,Jp];have e1:((j:Int)+1)=((j+1:Nat):Int):=by lia
  rw[e1,ih]
  rfl
theorem Xg{v:Int}(hk:k<=1000):∃r:Int,(0<=r/\r<100000000)/\∀G,Kg [.int v,.int k] G=.ok (.int r) G:=by
 by_cases h:0<=v/\v<1000000000000000000
 ·let a:=(v+1009*(k:Int)+7)%999999937;let b:=a*a%999999929;refine⟨b*(b+k)%99999989,by lia,λG=>?_⟩;have ha:0<=a/\a<999999937:=by lia
  have hb:0<=b/\b<999999929:=by lia
  unfold Kg Rf;rw[Bq];have m1:Ba (.int a) (.int a)=λG=>R.ok (.int (a*a)) G:=by funext G;exact Iv (by lia) (by lia)
  have m2:Ba (.int b) (.int (b+k))=λG=>R.ok (.int (b*(b+k))) G:=by funext G;exact Iv (by lia) (by lia)
  simp[h.1,h.2]
  rw[show(v+1009*(k:Int)+7)%999999937=a from rfl,m1]
  simp
  rw[show a*a%999999929=b from rfl,m2]
  simp[Bs]
 ·refine⟨offV k v%100000000,by lia,λG=>?_⟩;obtain⟨x',hx⟩:=Xp (k:=.int k) (G:=G) k 0 v jT;have hx':Bp (gV 2) Ko (By 0 k) [jS (.int v),jS (.int k),jT] G=.nx [jS (.int (offV k v)),jS (.int k),x'] G:=hx;unfold Kg Rf;rw[Bq];have hr:inR (k:Int):=Jk (by lia) (by lia);by_cases h0:0<=v
  ·have h1:¬v<1000000000000000000:=λz=>h ⟨h0,z⟩
   simp[h0,h1,hr,hx',Bs]
  ·simp[h0,hr,hx',Bs]
theorem Vj(hl:ns.length<=63)(hk:k<=1000):∃v:Int,∀G,Az [.fl (ns.map D.int),.int k] G=.ok (.int v) G:=by
 obtain⟨b,ht⟩:=ZAB (ns:=ns);have hd:((k:Int)/14)=((k/14:Nat):Int):=by lia
 have hm:((k:Int)%14)=((k%14:Nat):Int):=by lia
 cases b with
 | true=>
  by_cases h:1+k/14<ns.length
  ·obtain⟨r,hr,ho⟩:=Xg (v:=ns[1+k/14]) (k:=k%14) (by lia);refine⟨r,λG=>?_⟩;unfold Az Jy;rw[Bq];have a1:atI (ns.map D.int) (1+(k:Int)/14)=jS (.int ns[1+k/14]):=Di (k:=1+k/14) (by lia) (by rw[z5,zK h];rfl);have hc:(1+(k:Int)/14)<ns.length:=by lia
   simp[ht,hc,a1];rw[hm,ho];simp[Bs]
  ·obtain⟨r,hr,ho⟩:=Xg (v:=0) (k:=k%14) (by lia);refine⟨r,λG=>?_⟩;unfold Az Jy;rw[Bq];have hc:¬(1+(k:Int)/14)<ns.length:=by lia
   simp[ht,hc];rw[hm,ho];simp[Bs]
 | false=>
  by_cases h:k<ns.length
  ·refine⟨ns[k],λG=>?_⟩;unfold Az Jy;rw[Bq];have a1:atI (ns.map D.int) (k:Int)=jS (.int ns[k]):=Di (k:=k) rfl (by rw[z5,zK h];rfl);simp[ht,h,a1,Bs]
  ·have m0:∀G,Ba (.int k) (.int k) G=R.ok (.int ((k:Int)*k)) G:=λG=>Iv (by lia) (by lia)
   by_cases h0:0<ns.length
   ·have hi:k%ns.length<ns.length:=Nat.mod_lt _ h0;refine⟨48271*((k:Int)*k+7*ns.length)%2147483647+ns[k%ns.length]*69621%2147483629,λG=>?_⟩;unfold Az Jy;rw[Bq];have a1:atI (ns.map D.int) ((k:Int)%ns.length)=jS (.int ns[k%ns.length]):=Di (k:=k%ns.length) (by simp) (by rw[z5,zK hi];rfl);simp[ht,h,m0,h0,a1,Bs]
   ·have e:ns=[]:=zT (by lia);subst e;refine⟨48271*((k:Int)*k+7*0)%2147483647,λG=>?_⟩;unfold Az Jy;rw[Bq];have ht':∀G,Ho [.fl []] G=.ok (.bl xQ) G:=ht;have hk0:¬(k:Int)<0:=by lia
    simp[ht',hk0,m0,Bs]
theorem cells(hl:ns.length<=63):∃f:Nat->Int,∀k:Nat,k<=1000->∀G,Az [.fl (ns.map D.int),.int k] G=.ok (.int (f k)) G:=by refine⟨λk=>if h:k<=1000 then(Vj hl h).choose else 0,λk hk=>?_⟩;simp only[dif_pos hk];exact(Vj hl hk).choose_spec
noncomputable def tab(n:Nat)(F:Nat->Int):List D:=(zG n).map λi=>D.int (F i)
@[simp]theorem ZBo{n:Nat}:(tab n F).length=n:=by simp[tab]
@[simp]theorem W6{n:Nat}:bels m (tab n F)=jU:=J0 λ_ _=>rfl
theorem Qu{n:Nat}(h:i<n):(tab n F)[i]?=jS (.int (F i)):=by unfold tab;rw[z5,List.getElem?_range h];rfl
theorem ZBq{n:Nat}(h:i<n):atI (tab n F) (i:Int)=jS (.int (F i)):=Di rfl (Qu h)
theorem Vr{A:DO}{ds:List D}{L:DH}(h:bels (G.length+1) ds=jU):freeze (G++[A]) (.ok (.ref (G.length+1)) (G++A:: .lst ds::L))=.ok (.fl ds) (G++[A]):=by have:=Gq (G:=G++[A]) (ds:=ds) (L:=L) (by simpa using h);simpa using this
theorem pr:¬(("river":Str)="pump"):=by decide
structure Stp where
 h:Int
 m:Int
 r:Bool
def wy(r:Bool):Str:=if r then "river" else "pump"
def Stp.enc(s:Stp):D:=.tup [.int s.h,.int s.m,.str (wy s.r)]
@[simp]theorem ZFy{n:Nat}{st:List Stp}:bels n (st.map Stp.enc)=jU:=J0 λs _=>by simp[Stp.enc]
@[simp]theorem ZFm{r:Bool}:(wy r="pump")=(r=xQ):=by
 cases r
 ·exact propext ⟨λh=>rfl,λ_=>rfl⟩
 ·exact propext ⟨λh=>absurd h pr,λh=>by cases h⟩
noncomputable abbrev Ssn:=Int×List Stp
def Be(s:Ssn):D:=.tup [.int s.1,.tup (s.2.map Stp.enc)]
@[simp]theorem ZFu{n:Nat}{ss:List Ssn}:bels n (ss.map Be)=jU:=J0 λs _=>by simp[Be]
inductive Kd where
 |basin (brim:Int) (rule:List Ssn) (pump:Option (Nat×Nat×Int))
 |town (need rank:Int)
 |mill (most:Int)
structure Pl where
 nm:Str
 dn:Option Nat
 dl:Nat
 kd:Kd
noncomputable def noPl:Pl:=⟨"",jT,0,.mill 0⟩
structure Hs where
 yr:Int
 ps:List Pl
variable{h:Hs}
noncomputable def Kd.txt:Kd->Str
 |.basin ..=>"basin"
 |.town ..=>"town"
 |.mill ..=>"mill"
noncomputable def Kd.isB:Kd->Bool
 |.basin ..=>jU
 |_=>xQ
def Hs.pl(h:Hs)(k:Nat):Pl:=h.ps.getD k noPl
noncomputable def Hs.n(h:Hs):Nat:=h.ps.length
def Hs.dnT(h:Hs):Option Nat->Str
 |none=>"sea"
 |some d=>(h.pl d).nm
def Hs.Pa(h:Hs):Option (Nat×Nat×Int)->D
 |none=>.non
 |some (to,dl,m)=>.tup [.str (h.pl to).nm,.int dl,.int m]
def Hs.encP(h:Hs)(p:Pl):D:=match p.kd with
 |.basin b r q=>.tup [.str "basin",.str p.nm,.str (h.dnT p.dn),.int p.dl,.int b,.tup (r.map Be),h.Pa q]
 |.town a b=>.tup [.str "town",.str p.nm,.str (h.dnT p.dn),.int p.dl,.int a,.int b]
 |.mill a=>.tup [.str "mill",.str p.nm,.str (h.dnT p.dn),.int p.dl,.int a]
def Hs.Cv(h:Hs):List D:=h.ps.map h.encP
def Hs.enc(h:Hs):D:=.tup [.int h.yr,.tup h.Cv]
def Good:Int->List Stp->Prop
 |_,[]=>True
 |t,s::r=>t<=s.h/\1<=s.m/\Good (s.h+s.m) r
structure GoodH (h:Hs):Prop where
 yr:0<h.yr
 len:h.n<=12
 inj:∀i j,i<h.n->j<h.n->(h.pl i).nm=(h.pl j).nm->i=j
 sea:∀i,i<h.n->(h.pl i).nm≠"sea"
 dn:∀k d,k<h.n->(h.pl k).dn=jS d->k<d/\d<h.n
 dl:∀k,k<h.n->(h.pl k).dl<=5
 pump:∀k b r to dl m,k<h.n->(h.pl k).kd=.basin b r (jS (to,dl,m))->to<h.n/\1<=dl/\dl<=5
 brim:∀k b r q,k<h.n->(h.pl k).kd=.basin b r q->0<=b/\∀s∈r,Good 0 s.2
 town:∀k a b,k<h.n->(h.pl k).kd=.town a b->0<=a/\0<=b
theorem Hs.Gx:h.Cv.length=h.n:=by simp[Hs.Cv,Hs.n]
theorem Hs.Yv(hk:k<h.n):h.Cv[k]?=jS (h.encP (h.pl k)):=by unfold Hs.Cv Hs.pl;rw[z5,zK hk];simp[qk,zK hk]
theorem Hs.ZBS(hk:k<h.n):atI h.Cv (k:Int)=jS (h.encP (h.pl k)):=Di rfl (Hs.Yv hk)
theorem Hs.ZBN{n:Nat}{q:Option (Nat×Nat×Int)}:bel n (h.Pa q)=jU:=by
 cases q with
 |none=>rfl
 |some x=>obtain⟨a,b,c⟩:=x;simp[Hs.Pa]
@[simp]theorem Hs.ZBE{n:Nat}{p:Pl}:bel n (h.encP p)=jU:=by
 unfold Hs.encP
 cases p.kd<;>simp[Hs.ZBN]
@[simp]theorem Hs.ZFh{n:Nat}:bels n h.Cv=jU:=J0 λ_ _=>Hs.ZBE
section
variable{h:Hs}{p:Pl}{G:DH}
@[simp]theorem encP0:An (h.encP p) (.int 0) G=.ok (.str p.kd.txt) G:=by
 unfold Hs.encP
 cases p.kd<;>simp[Kd.txt]
theorem Ii:An h.enc (.int 1) G=.ok (.tup h.Cv) G:=by unfold Hs.enc;simp
theorem Jh{k:Kd}:(k.txt="basin")=(k.isB=jU):=by cases k<;>simp[Kd.txt,Kd.isB]<;>decide
end
theorem ZEQ(hf:∀k:Nat,k<=1000->∀G,Az [.fl (ns.map D.int),.int k] G=.ok (.int (f k)) G):∃u:Int,(u=1∨u=1000000000000000000000000000000)/\∀G,Et [.fl (ns.map D.int)] G=.ok (.int u) G:=by
 have h0:∀G,Az [.fl (ns.map D.int),.int 0] G=.ok (.int (f 0)) G:=hf 0 (by lia);have fz:∀G:DH,freeze G (.ok (.ref G.length) (G++[.lst [.int 1,.int 1,.int 1000000000000000000000000000000]]))=.ok (.fl [.int 1,.int 1,.int 1000000000000000000000000000000]) G:=λG=>Gq rfl
 rcases(by lia:f 0/840%3=0∨f 0/840%3=1∨f 0/840%3=2)with h|h|h
 ·refine⟨1,.inl rfl,λG=>?_⟩;unfold Et O4;rw[Bq];simp[h0,h,Ay,fz,Bs]
 ·refine⟨1,.inl rfl,λG=>?_⟩;unfold Et O4;rw[Bq];simp[h0,h,Ay,fz,Bs]
 ·refine⟨1000000000000000000000000000000,.inr rfl,λG=>?_⟩;unfold Et O4;rw[Bq];simp[h0,h,Ay,fz,Bs]
noncomputable def amt(c u:Int):Int:=u*(c%7)+c/7%u
theorem Mg(hu:0<u):0<=amt c u:=by unfold amt;have h1:0<=u*(c%7):=qL (by lia) (by lia);have h2:0<=c/7%u:=qq _ (by lia);lia
theorem Jw(hu:0<u)(G:DH):Hq [.int c,.int u] G=.ok (.int (amt c u)) G:=by
 have m1:∀G,Ba (.int u) (.int (c%7)) G=.ok (.int (u*(c%7))) G:=λG=>Hn (by lia) (by lia)
 unfold Hq Zy;rw[Bq];simp[m1,hu,Bs,amt]
theorem ZCx(hf:∀k:Nat,k<=1000->∀G,Az [.fl (ns.map D.int),.int k] G=.ok (.int (f k)) G):∃y:Int,(1<=y/\y<=24)/\∀G,Fl [.fl (ns.map D.int)] G=.ok (.int y) G:=by
 have h1:∀G,Az [.fl (ns.map D.int),.int 1] G=.ok (.int (f 1)) G:=hf 1 (by lia);by_cases h:f 1/4%4=1
 ·refine⟨1+f 1/16%24,by lia,λG=>?_⟩;unfold Fl Ux;rw[Bq];simp[h1,h,Bs]
 ·refine⟨1+f 1%4,by lia,λG=>?_⟩;unfold Fl Ux;rw[Bq];simp[h1,h,Bs]
def Ig(xs:Nat->Int)(u:Int)(p:Bool):Nat->Nat->Int->List Stp
 |0,_,_=>[]
 |n+1,j,low=>⟨low+u*(xs (1+j)%4),1+u*(xs (1+j)/4%4), !(p&&decide (xs (1+j)/16%2=1))⟩::Ig xs u p n (j+1) (low+u*(xs (1+j)%4)+(1+u*(xs (1+j)/4%4)))
theorem Wm(hu:0<u):∀(n j:Nat)(low:Int),Good low (Ig xs u p n j low)
 |0,_,_=>trivial
 |n+1,j,low=>by have h1:0<=u*(xs (1+j)%4):=qL (by lia) (by lia);have h2:0<=u*(xs (1+j)/4%4):=qL (by lia) (by lia);exact⟨by show low<=low+_;lia,by show 1<=1+_;lia,Wm hu n (j+1) _⟩
theorem V9:∀(n j:Nat)(low:Int),∀s∈Ig xs u xQ n j low,s.r=jU
 |0,_,_,s,h=>by cases h
 |n+1,j,low,s,h=>by
  rcases zw.mp h with rfl|h
  ·simp
  ·exact V9 n (j+1) _ s h
theorem Xe{xs:Nat->Int}{u:Int}{p:Bool}{G:DH}:∀(n j:Nat)(low:Int)(acc:List Stp)(x y z:Option D),j+n<=3->acc.length+n<=10->∃x' y' z' l',
  Bp (gV 5) Le (By j n) [jS (.fl (tab 4 xs)),jS (.int u),jS (.bl p),jS (.ref G.length),jS (.int low),x,y,z] (G++[.lst (acc.map Stp.enc)])=
   .nx [jS (.fl (tab 4 xs)),jS (.int u),jS (.bl p),jS (.ref G.length),l',x',y',z'] (G++[.lst ((acc++Ig xs u p n j low).map Stp.enc)])
 |0,j,low,acc,x,y,z,h,ha=>⟨x,y,z,jS (.int low),by rw[Ld,Ga];simp[Ig]⟩
 | n+1,j,low,acc,x,y,z,h,ha=>by
  have hj:1+j<4:=by lia
  have a1:atI (tab 4 xs) (1+(j:Int))=jS (.int (xs (1+j))):=Di (k:=1+j) (by lia) (Qu hj);let s:Stp:=⟨low+u*(xs (1+j)%4),1+u*(xs (1+j)/4%4), !(p&&decide (xs (1+j)/16%2=1))⟩;obtain⟨x',y',z',l',ih⟩:=Xe (xs:=xs) (u:=u) (p:=p) (G:=G) n (j+1) (s.h+s.m) (acc++[s]) (jS (.int j)) (jS (.int s.m)) (jS (.str (wy s.r))) (by lia) (by simp;lia);refine⟨x',y',z',l',?_⟩
  have m1:∀G,Ba (.int u) (.int (xs (1+j)%4)) G=.ok (.int (u*(xs (1+j)%4))) G:=λG=>Hn (by lia) (by lia)
  have m2:∀G,Ba (.int u) (.int (xs (1+j)/4%4)) G=.ok (.int (u*(xs (1+j)/4%4))) G:=λG=>Hn (by lia) (by lia)
  have hal:acc.length<1000000:=by lia
  have hb:Le [jS (.fl (tab 4 xs)),jS (.int u),jS (.bl p),jS (.ref G.length),jS (.int low),jS (.int j),y,z] (G++[.lst (acc.map Stp.enc)])=
    .nx [jS (.fl (tab 4 xs)),jS (.int u),jS (.bl p),jS (.ref G.length),jS (.int (s.h+s.m)),jS (.int j),jS (.int s.m),jS (.str (wy s.r))] (G++[.lst ((acc++[s]).map Stp.enc)]):=by
   unfold Le;cases p with
   |false=>simp[a1,m1,m2,Eb,Gk,hal,Bg,s,Stp.enc,wy]
   |true=>
    by_cases h16:xs (1+j)/16%2=1
    ·simp[a1,m1,m2,h16,Eb,Gk,hal,Bg,s,Stp.enc,wy]
    ·simp[a1,m1,m2,h16,Eb,Gk,hal,Bg,s,Stp.enc,wy]
  rw[Ju,Ed];simp only[Jm,R.J7,List.set,hb,Jp];have e1:((j:Int)+1)=((j+1:Nat):Int):=by lia
  rw[e1,ih];simp[Ig,s]
def stps(xs:Nat->Int)(u:Int)(p:Bool):List Stp:=Ig xs u p (xs 0%4).toNat 0 0
theorem Wi(G:DH):Mx [.fl (tab 4 xs),.int u,.bl p] G=.ok (.tup ((stps xs u p).map Stp.enc)) G:=by
 have hn:(xs 0%4).toNat<=3:=by lia
 obtain⟨x',y',z',l',hL⟩:=Xe (xs:=xs) (u:=u) (p:=p) (G:=G) (xs 0%4).toNat 0 0 [] jT jT jT (by lia) (by simp;lia);have hL':Bp (gV 5) Le (By 0 (xs 0%4).toNat) [jS (.fl (tab 4 xs)),jS (.int u),jS (.bl p),jS (.ref G.length),jS (.int 0),jT,jT,jT] (G++[.lst []])=.nx [jS (.fl (tab 4 xs)),jS (.int u),jS (.bl p),jS (.ref G.length),l',x',y',z'] (G++[.lst ((stps xs u p).map Stp.enc)]):=hL
 have a0:atI (tab 4 xs) 0=jS (.int (xs 0)):=Di (k:=0) rfl (Qu (by lia));have hr:inR (xs 0%4):=Jk (by lia) (by lia);unfold Mx Vb;rw[Bq];simp[Ay,Km,a0,hr,hL',Eb,Jq]
def Bx(st:List Stp):Int:=match st with
 |[]=>0
 |s::r=>(if s.r then 0 else s.m)+Bx r
theorem Z6{c:D}{G:DH}:∀(st:List Stp)(v:Int)(x y z:Option D),∃x' y' z',Bp (Fi 3 (Cw (gV 2) (Cw (gV 3) (Cw (gV 4) G7)))) Ol (st.map Stp.enc) [jS c,jS (.int v),x,y,z] G=.nx [jS c,jS (.int (v+Bx st)),x',y',z'] G
 |[],v,x,y,z=>⟨x,y,z,by simp[Bx,Ga]⟩
 | s::st,v,x,y,z=>by
  let v1:Int:=v+if s.r then 0 else s.m
  obtain⟨x',y',z',ih⟩:=Z6 (c:=c) (G:=G) st v1 (jS (.int s.h)) (jS (.int s.m)) (jS (.str (wy s.r)));refine⟨x',y',z',?_⟩;have hb:Ol [jS c,jS (.int v),jS (.int s.h),jS (.int s.m),jS (.str (wy s.r))] G=.nx [jS c,jS (.int v1),jS (.int s.h),jS (.int s.m),jS (.str (wy s.r))] G:=by
   unfold Ol
   cases e:s.r<;>simp[v1,e]
  rw[zI,Ed];simp[Stp.enc,hb];rw[ih];simp[Bx,v1,Int.add_assoc]
theorem ZBD{st:List Stp}(G:DH):Mu [.tup (st.map Stp.enc)] G=.ok (.int (Bx st)) G:=by obtain⟨x',y',z',hL⟩:=Z6 (c:=.tup (st.map Stp.enc)) (G:=G) st 0 jT jT jT;unfold Mu Va;rw[Bq];simp at hL;simp[hL,Bs]
def Cm(lat:Nat->Int)(cel:Nat->Nat->Int)(u:Int)(p:Bool)(yr:Int):Nat->Nat->Int->List Ssn
 |0,_,_=>[]
 |m+1,j,bg=>if j=0∨(lat j%2=1/\bg+1<yr)then(if 0<j then bg+1+lat j/2%(yr-bg-1)else bg,stps (cel j) u p)::Cm lat cel u p yr m (j+1) (if 0<j then bg+1+lat j/2%(yr-bg-1)else bg)
  else Cm lat cel u p yr m (j+1) bg
theorem Qx{lat:Nat->Int}{cel:Nat->Nat->Int}(hu:0<u):∀(m j:Nat)(bg:Int),∀s∈Cm lat cel u p yr m j bg,Good 0 s.2/\(p=xQ->∀t∈s.2,t.r=jU)
 |0,_,_,s,h=>by cases h
 | m+1,j,bg,s,h=>by
  unfold Cm at h;split at h
  ·rcases zw.mp h with rfl|h
   ·refine⟨Wm hu _ _ _,λhp=>?_⟩;subst hp;exact V9 _ _ _
   ·exact Qx hu m (j+1) _ s h
  ·exact Qx hu m (j+1) _ s h
theorem M4{lat:Nat->Int}{cel:Nat->Nat->Int}{u:Int}{p:Bool}{yr:Int}:∀(m j:Nat)(bg:Int),0<j->bg<yr->(∀s∈Cm lat cel u p yr m j bg,bg<s.1/\s.1<yr)/\(Cm lat cel u p yr m j bg).Pairwise (λa b:Ssn=>a.1<b.1)
 |0,_,_,_,_=>⟨λs h=>(nomatch h),List.Pairwise.nil⟩
 | m+1,j,bg,hj,hb=>by
  unfold Cm;split
  ·rename_i hc;have hc2:bg+1<yr:=by
    rcases hc with z|z
    ·lia
    ·exact z.2
   have h1:0<=lat j/2%(yr-bg-1):=qq _ (by lia);have h2:lat j/2%(yr-bg-1)<yr-bg-1:=qK _ (by lia);obtain⟨i1,i2⟩:=M4 (lat:=lat) (cel:=cel) (u:=u) (p:=p) (yr:=yr) m (j+1) (bg+1+lat j/2%(yr-bg-1)) (by lia) (by lia);refine⟨λs hs=>?_,List.pairwise_cons.mpr ⟨λs hs=>(i1 s hs).1,i2⟩⟩;rcases zw.mp hs with rfl|hs
   ·exact⟨by show bg<bg+1+_;lia,by show bg+1+_<yr;lia⟩
   ·have:=i1 s hs;lia
  ·exact M4 m (j+1) bg (by lia) hb
theorem Qk{te:DE}{n:Nat}{F:Nat->D}(h:∀k:Nat,k<n->te (S.set 0 (jS (.int k))) G=.ok (F k) G):Ck (gV 0) Dc te S (By 0 n) G=.ok ((zG n).map F) G:=by
 have e:By 0 n=(zG n).map λ(i:Nat)=>D.int (i:Int):=by
  refine List.ext_getElem? λi=>?_
  simp[By]
 rw[Zd (F:=λd=>match d with | .int i=>jS (F i.toNat)|_=>jT) (λq hq=>?_)]
 ·congr 1
  rw[e,List.filterMap_map];show(zG n).filterMap (λ(i:Nat)=>jS (F ((i:Int).toNat)))=_;rw[List.filterMap_eq_map'];simp
 ·rw[e]at hq;obtain⟨i,hi,rfl⟩:=List.mem_map.mp hq;exact⟨S.set 0 (jS (.int i)),by simp,.inr ⟨rfl,F i,h i (qI.mp hi),by simp⟩⟩
noncomputable def Jg:Nat->Int
 |0=>1
 |1=>48
 |2=>2304
 |_=>110592
noncomputable def K7:Nat->Int
 |0=>1
 |1=>64
 |2=>4096
 |_=>262144
theorem Y6(hf:∀k:Nat,k<=1000->∀G,Az [.fl (ns.map D.int),.int k] G=.ok (.int (f k)) G)(hb:b<=900)(hj:j<4)(G:DH):
  Ck (gV 0) Dc Q5 [jT,jS (.fl (ns.map D.int)),jS (.int b),jS (.int j)] (By 0 4) G=.ok (tab 4 λk=>f (b+5+(3*j+k)%6)/(1+7*((j:Int)/2))) G:=
 Qk (n:=4) (F:=λk=>.int (f (b+5+(3*j+k)%6)/(1+7*((j:Int)/2)))) λk hk=>by
  have h1:=hf (b+5+(3*j+k)%6) (by lia) G;have e1:((b+5+(3*j+k)%6:Nat):Int)=(b:Int)+5+(3*(j:Int)+k)%6:=by lia
  rw[e1]at h1;unfold Q5
  rcases(by lia:j=0∨j=1∨j=2∨j=3)with rfl|rfl|rfl|rfl<;>simp at h1⊢<;> simp[h1]
theorem ZDC(hf:∀k:Nat,k<=1000->∀G,Az [.fl (ns.map D.int),.int k] G=.ok (.int (f k)) G)(hb:b<=900)(hj:j<4)(G:DH):
  Ck (gV 0) Dc Rm [jT,jS (.fl (ns.map D.int)),jS (.int b),jS (.int j)] (By 0 4) G=.ok (tab 4 λk=>f (b+5+k)/K7 j) G:=
 Qk (n:=4) (F:=λk=>.int (f (b+5+k)/K7 j)) λk hk=>by
  have h1:=hf (b+5+k) (by lia) G;have e1:((b+5+k:Nat):Int)=(b:Int)+5+k:=by lia
  rw[e1]at h1;have fz:freeze G (.ok (.ref G.length) (G++[.lst [.int 1,.int 64,.int 4096,.int 262144]]))=.ok (.fl [.int 1,.int 64,.int 4096,.int 262144]) G:=Gq rfl;unfold Rm
  rcases(by lia:j=0∨j=1∨j=2∨j=3)with rfl|rfl|rfl|rfl<;>simp[h1,Ay,fz,K7]
theorem ZA4(hf:∀k:Nat,k<=1000->∀G,Az [.fl (ns.map D.int),.int k] G=.ok (.int (f k)) G)(hb:b<=900)(hj:j<4):∃(lat:Int)(xs:Nat->Int),∀(G:DH)(bg:Int)(acc:List Ssn)(x y:Option D),acc.length<=10->bg<yr->∃bg' acc',
   Gp [jS (.fl (ns.map D.int)),jS (.int b),jS (.int u),jS (.bl p),jS (.int yr),jS (.ref G.length),jS (.int bg),jS (.int j),x,y] (G++[.lst (acc.map Be)])=
    .nx [jS (.fl (ns.map D.int)),jS (.int b),jS (.int u),jS (.bl p),jS (.int yr),jS (.ref G.length),jS (.int bg'),jS (.int j),jS (.int lat),jS (.fl (tab 4 xs))] (G++[.lst (acc'.map Be)])/\
   ((j=0∨(lat%2=1/\bg+1<yr))->bg'=(if 0<j then bg+1+lat/2%(yr-bg-1)else bg)/\acc'=acc++[(bg',stps xs u p)])/\
   (¬(j=0∨(lat%2=1/\bg+1<yr))->bg'=bg/\acc'=acc):=by
 obtain⟨tp,ht⟩:=ZAB (ns:=ns);have h4:=hf (b+4) (by lia);have e4:((b+4:Nat):Int)=(b:Int)+4:=by lia
 rw[e4]at h4;let lat:Int:=if tp then f (b+4)/Jg j else f (b+4)*48271*((j:Int)*j+1)%10007
 let xs:Nat->Int:=if tp then λk=>f (b+5+k)/K7 j else λk=>f (b+5+(3*j+k)%6)/(1+7*((j:Int)/2))
 refine⟨lat,xs,λG bg acc x y ha hbg=>?_⟩;have hr:inR 4:=Jk (by lia) (by lia);have hal:acc.length<1000000:=by lia
 have fz:∀ds:List D,(∀m,bels m ds=jU)->freeze (G++[.lst (acc.map Be)]) (.ok (.ref (G.length+1)) (G++[.lst (acc.map Be),.lst ds]))=.ok (.fl ds) (G++[.lst (acc.map Be)]):=λds h=>Vr (h _)
 have cs1:∀a b c d e f' g h i j':Option D,Bh 1 [0,1,7] [a,b,c,d,e,f',g,h,i,j']=[jT,a,b,h]:=λ_ _ _ _ _ _ _ _ _ _=>rfl
 have mj:∀G,Ba (.int (j:Int)) (.int (j:Int)) G=.ok (.int ((j:Int)*j)) G:=λG=>Iv (by lia) (by lia)
 have mj2:∀G,Ba (.int (f (b+4)*48271)) (.int ((j:Int)*j+1)) G=.ok (.int (f (b+4)*48271*((j:Int)*j+1))) G:=λG=>Hn (by
   have:=qL (show(0:Int)<=j by lia) (show(0:Int)<=j by lia);lia) (by
   rcases(by lia:j=0∨j=1∨j=2∨j=3)with rfl|rfl|rfl|rfl<;>decide)
 have head:Gp [jS (.fl (ns.map D.int)),jS (.int b),jS (.int u),jS (.bl p),jS (.int yr),jS (.ref G.length),jS (.int bg),jS (.int j),x,y] (G++[.lst (acc.map Be)])=
   Ly [jS (.fl (ns.map D.int)),jS (.int b),jS (.int u),jS (.bl p),jS (.int yr),jS (.ref G.length),jS (.int bg),jS (.int j),jS (.int lat),jS (.fl (tab 4 xs))] (G++[.lst (acc.map Be)]):=by
  unfold Gp Xo Z2;cases htp:tp with
  |false=>
   have e1:lat=f (b+4)*48271*((j:Int)*j+1)%10007:=by simp[lat,htp]
   have e2:xs=λk=>f (b+5+(3*j+k)%6)/(1+7*((j:Int)/2)):=by simp[xs,htp]
   rw[e1,e2];rw[htp]at ht;simp[h4,mj,mj2,hr,cs1,Y6 hf hb hj,Ay,fz,ht]
  |true=>
   have e1:lat=f (b+4)/Jg j:=by simp[lat,htp]
   have e2:xs=λk=>f (b+5+k)/K7 j:=by simp[xs,htp]
   rw[e1,e2];rw[htp]at ht;have dv:atI [D.int 1,D.int 48,D.int 2304,D.int 110592] (j:Int)=jS (.int (Jg j)):=by rcases(by lia:j=0∨j=1∨j=2∨j=3)with rfl|rfl|rfl|rfl<;>rfl
   have dd:∀G',Bj (.int (f (b+4))) (.int (Jg j)) G'=.ok (.int (f (b+4)/Jg j)) G':=λG'=>by rcases(by lia:j=0∨j=1∨j=2∨j=3)with rfl|rfl|rfl|rfl<;>simp[Jg]
   have fz4:freeze (G++[.lst (acc.map Be)]) (.ok (.ref (G.length+1)) (G++[.lst (acc.map Be),.lst [D.int 1,D.int 48,D.int 2304,D.int 110592]]))=.ok (.fl [D.int 1,D.int 48,D.int 2304,D.int 110592]) (G++[.lst (acc.map Be)]):=Vr rfl;simp[h4,mj,mj2,hr,cs1,Y6 hf hb hj,Ay,fz,ht,fz4,dv,dd,ZDC hf hb hj]
 rw[head]
 clear_value lat xs
 by_cases hc:j=0∨(lat%2=1/\bg+1<yr)
 ·refine⟨_,_,?_,λ_=>⟨rfl,rfl⟩,λz=>absurd hc z⟩;unfold Ly;by_cases h0:j=0
  ·subst h0;simp[Wi,Bg,Eb,Gk,hal,Be]
  ·have hc2:lat%2=1/\bg+1<yr:=by
    rcases hc with z|z
    ·exact absurd z h0
    ·exact z
   have hj0:0<j:=by lia
   have hp:0<yr-bg-1:=by lia
   have hp3:1<yr-bg:=by lia
   simp[h0,hc2.1,hc2.2,hj0,hp3,Wi,Bg,Eb,Gk,hal,Be]
 ·refine⟨bg,acc,?_,λz=>absurd z hc,λ_=>⟨rfl,rfl⟩⟩;have h0:¬j=0:=λz=>hc (.inl z)
  unfold Ly;by_cases h1:lat%2=1
  ·have h2:¬bg+1<yr:=λz=>hc (.inr ⟨h1,z⟩)
   simp[h0,h1,h2]
  ·simp[h0,h1]
theorem Qi{lat:Nat->Int}{cel:Nat->Nat->Int}
  (hd:∀j:Nat,j<4->∀(G:DH)(bg:Int)(acc:List Ssn)(x y:Option D),acc.length<=10->bg<yr->∃bg' acc',
   Gp [jS (.fl (ns.map D.int)),jS (.int b),jS (.int u),jS (.bl p),jS (.int yr),jS (.ref G.length),jS (.int bg),jS (.int j),x,y] (G++[.lst (acc.map Be)])=
    .nx [jS (.fl (ns.map D.int)),jS (.int b),jS (.int u),jS (.bl p),jS (.int yr),jS (.ref G.length),jS (.int bg'),jS (.int j),jS (.int (lat j)),jS (.fl (tab 4 (cel j)))] (G++[.lst (acc'.map Be)])/\
   ((j=0∨(lat j%2=1/\bg+1<yr))->bg'=(if 0<j then bg+1+lat j/2%(yr-bg-1)else bg)/\acc'=acc++[(bg',stps (cel j) u p)])/\
   (¬(j=0∨(lat j%2=1/\bg+1<yr))->bg'=bg/\acc'=acc)) {G:DH}:∀(m j:Nat)(bg:Int)(acc:List Ssn)(x y z:Option D),j+m=4->acc.length<=j->bg<yr->∃x' y' z' w',
   Bp (gV 7) Gp (By j m) [jS (.fl (ns.map D.int)),jS (.int b),jS (.int u),jS (.bl p),jS (.int yr),jS (.ref G.length),jS (.int bg),x,y,z] (G++[.lst (acc.map Be)])=
    .nx [jS (.fl (ns.map D.int)),jS (.int b),jS (.int u),jS (.bl p),jS (.int yr),jS (.ref G.length),x',y',z',w'] (G++[.lst ((acc++Cm lat cel u p yr m j bg).map Be)])
 |0,j,bg,acc,x,y,z,e,ha,hb=>⟨jS (.int bg),x,y,z,by rw[Ld,Ga];simp[Cm]⟩
 | m + 1,j,bg,acc,x,y,z,e,ha,hb=>by
  obtain⟨bg',acc',h1,h2,h3⟩:=hd j (by lia) G bg acc y z (by lia) hb;have e1:((j:Int)+1)=((j+1:Nat):Int):=by lia
  by_cases hc:j=0∨(lat j%2=1/\bg+1<yr)
  ·obtain⟨r1,r2⟩:=h2 hc;have hbg:bg'<yr:=by
    rw[r1];split
    ·have h4:bg+1<yr:=by
      rcases hc with z|z
      ·lia
      ·exact z.2
     have h5:lat j/2%(yr-bg-1)<yr-bg-1:=qK _ (by lia);lia
    ·exact hb
   obtain⟨x',y',z',w',ih⟩:=Qi hd (G:=G) m (j+1) bg' acc' (jS (.int j)) (jS (.int (lat j))) (jS (.fl (tab 4 (cel j)))) (by lia) (by rw[r2];simp;lia) hbg;refine⟨x',y',z',w',?_⟩;rw[Ju,Ed];simp only[Jm,R.J7,List.set,h1,Jp];have er:Cm lat cel u p yr (m+1) j bg=(bg',stps (cel j) u p)::Cm lat cel u p yr m (j+1) bg':=by rw[r1];exact if_pos hc
   rw[e1,ih,r2,er];simp
  ·obtain⟨r1,r2⟩:=h3 hc;obtain⟨x',y',z',w',ih⟩:=Qi hd (G:=G) m (j+1) bg' acc' (jS (.int j)) (jS (.int (lat j))) (jS (.fl (tab 4 (cel j)))) (by lia) (by rw[r2];lia) (by rw[r1];exact hb);refine⟨x',y',z',w',?_⟩;rw[Ju,Ed];simp only[Jm,R.J7,List.set,h1,Jp];rw[e1,ih,r2,r1]
   conv=>rhs;unfold Cm
   rw[if_neg hc]
structure RuleOk (yr:Int) (p:Bool) (r:List Ssn):Prop where
 good:∀s∈r,Good 0 s.2/\(p=xQ->∀t∈s.2,t.r=jU)
 cons:∃st rest,r=(0,st)::rest
 asc:r.Pairwise (λa b:Ssn=>a.1<b.1)
 yr:∀s∈r,0<=s.1/\s.1<yr
 len:r.length<=4
theorem Qh{lat:Nat->Int}{cel:Nat->Nat->Int}{u:Int}{p:Bool}{yr:Int}:∀(m j:Nat)(bg:Int),(Cm lat cel u p yr m j bg).length<=m
 |0,_,_=>zW _
 |m+1,j,bg=>by
  unfold Cm;split
  ·have:=Qh (lat:=lat) (cel:=cel) (u:=u) (p:=p) (yr:=yr) m (j+1) (if 0<j then bg+1+lat j/2%(yr-bg-1)else bg);simp only[List.length_cons];lia
  ·have:=Qh (lat:=lat) (cel:=cel) (u:=u) (p:=p) (yr:=yr) m (j+1) bg;lia
theorem Yw(hf:∀k:Nat,k<=1000->∀G,Az [.fl (ns.map D.int),.int k] G=.ok (.int (f k)) G)(hyr:1<=yr/\yr<=24)(cy:∀G,Fl [.fl (ns.map D.int)] G=.ok (.int yr) G)(hb:b<=900)(hu:0<u):
  ∃r:List Ssn,RuleOk yr p r/\∀G,Ob [.fl (ns.map D.int),.int b,.int u,.bl p] G=.ok (.tup (r.map Be)) G:=by
 have ex:∀j:Nat,∃q:Int×(Nat->Int),j<4->∀(G:DH)(bg:Int)(acc:List Ssn)(x y:Option D),acc.length<=10->bg<yr->∃bg' acc',
   Gp [jS (.fl (ns.map D.int)),jS (.int b),jS (.int u),jS (.bl p),jS (.int yr),jS (.ref G.length),jS (.int bg),jS (.int j),x,y] (G++[.lst (acc.map Be)])=
    .nx [jS (.fl (ns.map D.int)),jS (.int b),jS (.int u),jS (.bl p),jS (.int yr),jS (.ref G.length),jS (.int bg'),jS (.int j),jS (.int q.1),jS (.fl (tab 4 q.2))] (G++[.lst (acc'.map Be)])/\
   ((j=0∨(q.1%2=1/\bg+1<yr))->bg'=(if 0<j then bg+1+q.1/2%(yr-bg-1)else bg)/\acc'=acc++[(bg',stps q.2 u p)])/\
   (¬(j=0∨(q.1%2=1/\bg+1<yr))->bg'=bg/\acc'=acc):=λj=>by
  by_cases hj:j<4
  ·obtain⟨lat,xs,h⟩:=ZA4 (u:=u) (yr:=yr) (p:=p) hf hb hj;exact⟨(lat,xs),λ_=>h⟩
  ·exact⟨(0,λ_=>0),λz=>absurd z hj⟩
 let lat:Nat->Int:=λj=>(ex j).choose.1
 let cel:Nat->Nat->Int:=λj=>(ex j).choose.2
 have hd:=λ(j:Nat)(hj:j<4)=>(ex j).choose_spec hj
 refine⟨Cm lat cel u p yr 4 0 0,⟨Qx hu 4 0 0,?_,?_,?_,Qh 4 0 0⟩,λG=>?_⟩
 ·unfold Cm;rw[if_pos (.inl rfl)];exact⟨_,_,rfl⟩
 ·unfold Cm;rw[if_pos (.inl rfl)];obtain⟨i1,i2⟩:=M4 (lat:=lat) (cel:=cel) (u:=u) (p:=p) (yr:=yr) 3 1 0 (by lia) (by lia);exact List.pairwise_cons.mpr ⟨λs hs=>(i1 s hs).1,i2⟩
 ·unfold Cm;rw[if_pos (.inl rfl)];obtain⟨i1,i2⟩:=M4 (lat:=lat) (cel:=cel) (u:=u) (p:=p) (yr:=yr) 3 1 0 (by lia) (by lia);intro s hs;rcases zw.mp hs with rfl|hs
  ·exact⟨Int.le_refl _,by show(0:Int)<yr;lia⟩
  ·have:=i1 s hs;lia
 ·obtain⟨x',y',z',w',hL⟩:=Qi (lat:=lat) (cel:=cel) hd (G:=G) 4 0 0 [] jT jT jT (by lia) (by simp) (by lia);have hL':Bp (gV 7) Gp (By 0 4) [jS (.fl (ns.map D.int)),jS (.int b),jS (.int u),jS (.bl p),jS (.int yr),jS (.ref G.length),jS (.int 0),jT,jT,jT] (G++[.lst []])=.nx [jS (.fl (ns.map D.int)),jS (.int b),jS (.int u),jS (.bl p),jS (.int yr),jS (.ref G.length),x',y',z',w'] (G++[.lst ((Cm lat cel u p yr 4 0 0).map Be)]):=hL
  have hr:inR 4:=Jk (by lia) (by lia);generalize Cm lat cel u p yr 4 0 0=rl at hL';unfold Ob Wf;rw[Bq];simp[cy,Ay,Km,hr,hL',Eb,Jq]
noncomputable def Q4:List Nat:=("abcdefghijklmnopqrstuvwxyz":Str).cps.toList
noncomputable def Rc:List Nat:=("abcdefghijkl":Str).cps.toList
theorem ZA3:∀i,i<26->Q4[i]?=jS (97+i):=by decide +kernel
theorem ZDd:∀i,i<12->Rc[i]?=jS (97+i):=by decide +kernel
noncomputable def Bw(l:List Nat):Str:=⟨l.toArray⟩
theorem Z0{l':List Nat}(h:Bw l=Bw l'):l=l':=by have h1:=congrArg (λs:Str=>s.cps.toList) h;simpa[Bw]using h1
theorem ZA8{l':List Nat}:Bw l++Bw l'=Bw (l++l'):=by show Str.append _ _=_;unfold Str.append Bw;simp
theorem Yi{s:Str}(h:s.cps.toList=l):s=Bw l:=by obtain⟨a⟩:=s;unfold Bw;simp only at h;rw[<-h]
theorem ZBb{o:Nat}{n:Int}:Il ⟨#[o]⟩ n=Bw (zQ n.toNat o):=by
 refine Yi ?_;rw[ZFG];show(zQ n.toNat [o]).flatten=_;generalize n.toNat=m
 induction m with
 |zero=>rfl
 |succ m ih=>rw[qW,List.flatten_cons,ih,qW];rfl
noncomputable def ocF(c:Int):Nat:=97+(c/21%26).toNat
noncomputable def tcF(c:Int)(k:Nat):Nat:=97+((5*(k:Int)+c/546)%12).toNat
def Df(c:Int)(n k:Nat):List Nat:=if c%3=1/\n<9 then zQ (k+1) (ocF c)else if c%3=2 then tcF c k::zQ (c/3%7).toNat (ocF c)else zQ (c/3%7).toNat (ocF c)++tcF c k::zQ (6-(c/3%7)).toNat (ocF c)
theorem ZA2{n:Nat}(hn:n<=12)(hk:k<n)(G:DH):Lz [.int c,.int k,.int n] G=.ok (.str (Bw (Df c n k))) G:=by
 have a1:atI Q4 (c/21%26)=jS (ocF c):=Di (k:=(c/21%26).toNat) (by lia) (ZA3 _ (by lia));have a2:atI Rc ((5*(k:Int)+c/546)%12)=jS (tcF c k):=Di (k:=((5*(k:Int)+c/546)%12).toNat) (by lia) (ZDd _ (by lia));have l1:("abcdefghijklmnopqrstuvwxyz":Str).length<=1000000:=by decide +kernel
 have l2:("abcdefghijkl":Str).length<=1000000:=by decide +kernel
 have ho:∀m:Int,-1000<=m->m<=1000->∀G,Ba (.str ⟨#[ocF c]⟩) (.int m) G=.ok (.str (Bw (zQ m.toNat (ocF c)))) G:=λm h1 h2 G=>by rw[ZDL ⟨h1,h2,by show(#[ocF c]).size<=1000;simp⟩,ZBb]
 have e1:∀G,An (.str ("abcdefghijklmnopqrstuvwxyz":Str)) (.int (c/21%26)) G=R.ok (.str ⟨#[ocF c]⟩) G:=λG=>by
  rw[J8,if_pos l1]
  show(match atI Q4 (c/21%26)with |some c=>R.ok (sgn c) G|none=>.bad)=_
  rw[a1]
  rfl
 have e2:∀G,An (.str ("abcdefghijkl":Str)) (.int ((5*(k:Int)+c/546)%12)) G=R.ok (.str (Bw [tcF c k])) G:=λG=>by
  rw[J8,if_pos l2]
  show(match atI Rc ((5*(k:Int)+c/546)%12)with |some c=>R.ok (sgn c) G|none=>.bad)=_
  rw[a2]
  rfl
 have hadd:∀(l l':List Nat)(G:DH),l.length+l'.length<=1000000->Al (.str (Bw l)) (.str (Bw l')) G=.ok (.str (Bw (l++l'))) G:=λl l' G h=>by
  have e:Al (.str (Bw l)) (.str (Bw l')) G=if(Bw l).length+(Bw l').length<=1000000 then .ok (.str (Bw l++Bw l')) G else .bad:=rfl
  rw[e,if_pos (by show l.toArray.size+l'.toArray.size<=1000000;simpa using h),ZA8]
 unfold Lz Wt;rw[Bq];by_cases h1:c%3=1
 ·by_cases h9:n<9
  ·have en:Df c n k=zQ (k+1) (ocF c):=if_pos ⟨h1,h9⟩;have hk2:=ho ((k:Int)+1) (by lia) (by lia);have ek:((k:Int)+1).toNat=k+1:=by lia
   rw[ek]at hk2;rw[en];have h9':(n:Int)<9:=by lia
   simp[-J8,e1,h1,h9',hk2,Bs]
  ·have en:Df c n k=zQ (c/3%7).toNat (ocF c)++tcF c k::zQ (6-(c/3%7)).toNat (ocF c):=by unfold Df;rw[if_neg (λz=>h9 z.2),if_neg (by lia)]
   have r1:=ho (c/3%7) (by lia) (by lia);have r2:=ho (6-(c/3%7)) (by lia) (by lia);have d1:=λG=>hadd (zQ (c/3%7).toNat (ocF c)) [tcF c k] G (by simp;lia)
   have d2:=λG=>hadd (zQ (c/3%7).toNat (ocF c)++[tcF c k]) (zQ (6-(c/3%7)).toNat (ocF c)) G (by simp;lia)
   have ea:zQ (c/3%7).toNat (ocF c)++[tcF c k]++zQ (6-(c/3%7)).toNat (ocF c)=Df c n k:=by rw[en];simp
   rw[ea]at d2;have h9':¬(n:Int)<9:=by lia
   simp[-J8,e1,e2,h1,h9',r1,r2,d1,d2,Bs]
 ·by_cases h2:c%3=2
  ·have en:Df c n k=tcF c k::zQ (c/3%7).toNat (ocF c):=by unfold Df;rw[if_neg (λz=>h1 z.1),if_pos h2]
   have r1:=ho (c/3%7) (by lia) (by lia);have d1:=λG=>hadd [tcF c k] (zQ (c/3%7).toNat (ocF c)) G (by simp;lia)
   have ea: [tcF c k]++zQ (c/3%7).toNat (ocF c)=Df c n k:=by rw[en];rfl
   rw[ea]at d1;simp[-J8,e1,e2,h2,r1,d1,Bs]
  ·have en:Df c n k=zQ (c/3%7).toNat (ocF c)++tcF c k::zQ (6-(c/3%7)).toNat (ocF c):=by unfold Df;rw[if_neg (λz=>h1 z.1),if_neg h2]
   have r1:=ho (c/3%7) (by lia) (by lia);have r2:=ho (6-(c/3%7)) (by lia) (by lia);have d1:=λG=>hadd (zQ (c/3%7).toNat (ocF c)) [tcF c k] G (by simp;lia)
   have d2:=λG=>hadd (zQ (c/3%7).toNat (ocF c)++[tcF c k]) (zQ (6-(c/3%7)).toNat (ocF c)) G (by simp;lia)
   have ea:zQ (c/3%7).toNat (ocF c)++[tcF c k]++zQ (6-(c/3%7)).toNat (ocF c)=Df c n k:=by rw[en];simp
   rw[ea]at d2;simp[-J8,e1,e2,h1,h2,r1,r2,d1,d2,Bs]
theorem Xw{k':Nat}(hk:k<12)(hk':k'<12)(h:tcF c k=tcF c k'):k=k':=by unfold tcF at h;omega +splitNatSub
theorem ZD2{n k':Nat}(hn:n<=12)(hk:k<n)(hk':k'<n)(h:Df c n k=Df c n k'):k=k':=by
 unfold Df at h;split at h
 ·have:=congrArg List.length h;simp at this;exact this
 ·split at h
  ·exact Xw (by lia) (by lia) (List.cons.inj h).1
  ·have:=List.append_cancel_left h;exact Xw (by lia) (by lia) (List.cons.inj this).1
theorem ZCj:("sea":Str)=Bw [115,101,97]:=by decide +kernel
theorem ZAa{n:Nat}:Bw (Df c n k)≠"sea":=λh=>by
 rw[ZCj]at h;have h:=Z0 h;unfold Df at h;split at h
 ·have h1:∀x∈[115,101,97],x=ocF c:=λx hx=>by rw[<-h]at hx;exact List.eq_of_mem_replicate hx
  have a:=h1 115 (by simp);have b:=h1 101 (by simp);lia
 ·split at h
  ·have:=(List.cons.inj h).1;unfold tcF at this;lia
  ·have:=congrArg List.length h;simp at this;lia
theorem Yj{α:Type}{te:DE}{S:DSt}{E:α->D}{F:α->D}{G:DH}:∀{l:List α},(∀a∈l,te (S.set 0 (jS (E a))) G=.ok (F a) G)->Ck (gV 0) Dc te S (l.map E) G=.ok (l.map F) G
 |[],_=>rfl
 |a::l,h=>by
  have h1:=h a (by simp);have ih:=Yj (te:=te) (S:=S) (E:=E) (F:=F) (G:=G) (l:=l) λb hb=>h b (zY _ hb)
  rw[zI,Ph];simp[h1,ih]
def Aw(nm:Nat->Str)(n:Nat):List D:=(zG n).map λk=>.str (nm k)
theorem Nz{n:Nat}(h:k<n):atI (Aw nm n) (k:Int)=jS (.str (nm k)):=Di rfl (by simp[Aw,h])
theorem Kc{n:Nat}:(Aw nm n).length=n:=by simp[Aw]
@[simp]theorem ZCk{n:Nat}:bels m (Aw nm n)=jU:=J0 λ_ _=>rfl
noncomputable def Dv(nm:Nat->Str):Option (Nat×Nat×Int)->D
 |none=>.non
 |some (to,dl,m)=>.tup [.str (nm to),.int dl,.int m]
@[simp]theorem ZFz{q:Option (Nat×Nat×Int)}:bel m (Dv nm q)=jU:=by
 cases q with
 |none=>rfl
 |some q=>obtain⟨a,b,c⟩:=q;simp[Dv]
theorem ZBA(hf:∀k:Nat,k<=1000->∀G,Az [.fl (ns.map D.int),.int k] G=.ok (.int (f k)) G)(hyr:1<=yr/\yr<=24)(cy:∀G,Fl [.fl (ns.map D.int)] G=.ok (.int yr) G)(hu:0<u)(cu:∀G,Et [.fl (ns.map D.int)] G=.ok (.int u) G){n:Nat}(hb:b<=900)(hk:k<n)(hn:n<=12){d:Str}{dl:Int}:
  ∃(r:List Ssn)(q:Option (Nat×Nat×Int)),RuleOk yr q.isSome r/\(∀to dl m,q=jS (to,dl,m)->to<n/\1<=dl/\dl<=5)/\
   ∀G,Lp [.fl (ns.map D.int),.int b,.int k,.fl (Aw nm n),.tup [.str d,.int dl]] G=.ok (.tup [.str "basin",.str (nm k),.str d,.int dl,.int (amt (f (b+3)) u),.tup (r.map Be),Dv nm q]) G:=by
 have h11:∀G,Az [.fl (ns.map D.int),.int ((b:Int)+11)] G=.ok (.int (f (b+11))) G:=λG=>by have:=hf (b+11) (by lia) G;rwa[show((b+11:Nat):Int)=(b:Int)+11 by lia]at this
 have h3:∀G,Az [.fl (ns.map D.int),.int ((b:Int)+3)] G=.ok (.int (f (b+3))) G:=λG=>by have:=hf (b+3) (by lia) G;rwa[show((b+3:Nat):Int)=(b:Int)+3 by lia]at this
 have ak:atI (Aw nm n) (k:Int)=jS (.str (nm k)):=Nz hk;have fu:∀G,freeze G (.ok (.int u) G)=.ok (.int u) G:=λG=>N8 rfl
 generalize f (b+11)=c at h11;have pre:∀G,Uu [jS (.fl (ns.map D.int)),jS (.int b),jS (.int k),jS (.fl (Aw nm n)),jS (.tup [.str d,.int dl]),jT,jT,jT,jT,jT,jT,jT,jT] G=
   Ib [jS (.fl (ns.map D.int)),jS (.int b),jS (.int k),jS (.fl (Aw nm n)),jS (.tup [.str d,.int dl]),jS (.int u),jS (.int c),jS (.bl (decide (1<n/\c%2=1))),jT,jT,jT,jT,jT] G:=λG=>by
  have t:∀S:DSt,S[3]?=jS (jS (.fl (Aw nm n)))->S[6]?=jS (jS (.int c))->Ey (dOp Fv (dFn Cp (Ac (dV 3) Ag)) (dC (.int 1))) (dOp Cg (dOp Av (dV 6) (dC (.int 2))) (dC (.int 1))) S G=.ok (.bl (decide (1<n/\c%2=1))) G:=λS h1 h2=>by
   by_cases hn1:1<n
   ·have hn1':(1:Int)<n:=by lia
    simp[dV,h1,h2,Kc,hn1,hn1']
   ·have hn1':¬(1:Int)<n:=by lia
    simp[dV,h1,h2,Kc,hn1,hn1']
  unfold Uu Xu Zx;generalize Ey (dOp Fv (dFn Cp (Ac (dV 3) Ag)) (dC (.int 1))) (dOp Cg (dOp Av (dV 6) (dC (.int 2))) (dC (.int 1)))=te at t;generalize Aw nm n=NM at t;simp[cu,fu,h11,t]
 have fin:∀(r:List Ssn)(q:Option (Nat×Nat×Int))(s6 s7 x10 x11:Option D)(G:DH),Io [jS (.fl (ns.map D.int)),jS (.int b),jS (.int k),jS (.fl (Aw nm n)),jS (.tup [.str d,.int dl]),jS (.int u),s6,s7,jS (.tup (r.map Be)),jS (Dv nm q),x10,x11,jT] G=.rt (.tup [.str "basin",.str (nm k),.str d,.int dl,.int (amt (f (b+3)) u),.tup (r.map Be),Dv nm q]) G:=λr q s6 s7 x10 x11 G=>by generalize r.map Be=RR;generalize Dv nm q=PQ;generalize Aw nm n=NM at ak;unfold Io Yp;simp[h3,Jw hu,ak,Bg]
 have cl:∀G,Lp [.fl (ns.map D.int),.int b,.int k,.fl (Aw nm n),.tup [.str d,.int dl]] G=tidy G ((Ib [jS (.fl (ns.map D.int)),jS (.int b),jS (.int k),jS (.fl (Aw nm n)),jS (.tup [.str d,.int dl]),jS (.int u),jS (.int c),jS (.bl (decide (1<n/\c%2=1))),jT,jT,jT,jT,jT] G).ret):=λG=>by
  rw[<-pre];unfold Lp;rw[Bq]
  rfl
 have td:∀(r:List Ssn)(q:Option (Nat×Nat×Int))(G:DH),tidy G ((SR.rt (.tup [.str "basin",.str (nm k),.str d,.int dl,.int (amt (f (b+3)) u),.tup (r.map Be),Dv nm q]) G).ret)=.ok (.tup [.str "basin",.str (nm k),.str d,.int dl,.int (amt (f (b+3)) u),.tup (r.map Be),Dv nm q]) G:=λr q G=>by simp[Bs]
 by_cases hp:1<n/\c%2=1
 ·obtain⟨r,hr,cr⟩:=Yw (ns:=ns) (f:=f) hf hyr cy hb hu (p:=jU);obtain⟨st,rest,er⟩:=hr.cons;have hx0:0<=c/2%((n:Int)-1):=qq _ (by lia);have ht0:0<=((k:Int)+1+c/2%((n:Int)-1))%n:=qq _ (by lia);have ht1:((k:Int)+1+c/2%((n:Int)-1))%n<n:=qK _ (by lia);generalize ht:((k:Int)+1+c/2%((n:Int)-1))%n=t at ht0 ht1;have at_:atI (Aw nm n) t=jS (.str (nm t.toNat)):=by have:=Nz (nm:=nm) (n:=n) (k:=t.toNat) (by lia);rwa[show((t.toNat:Nat):Int)=t by lia]at this
  have mx:∀G,Jv [.fl (r.map λs=>.int (Bx s.2))] G=.ok (.int ((rest.map λs=>Bx s.2).foldl max (Bx st))) G:=λG=>ZFD (by rw[er];simp[Ce])
  have m2:∀G,Ba (.int u) (.int (c/130%2)) G=.ok (.int (u*(c/130%2))) G:=λG=>Hn (by lia) (by lia)
  have cp:∀(G:DH),Ck (gV 0) Dc Pn [jT] (r.map Be) G=.ok (r.map λs=>.int (Bx s.2)) G:=λG=>Yj λs _=>by unfold Pn;simp[Be,ZBD]
  have fz:∀G:DH,freeze G (.ok (.ref G.length) (G++[.lst (r.map λs=>.int (Bx s.2))]))=.ok (.fl (r.map λs=>.int (Bx s.2))) G:=λG=>Gq (J0 λ_ _=>rfl)
  have hd:((1+c/26%5).toNat:Int)=1+c/26%5:=by lia
  refine⟨r,jS (t.toNat,(1+c/26%5).toNat,(rest.map λs=>Bx s.2).foldl max (Bx st)+u*(c/130%2)),hr,?_,λG=>?_⟩
  ·intro to dl m e;cases e;lia
  ·have h1':0<(n:Int)-1:=by lia
   have h1:(1:Int)<n:=by lia
   have hn0:0<(n:Int):=by lia
   have hn0':0<n:=by lia
   have hrl:(r.map Be).length<=1000000:=by have:=hr.len;simp;lia
   have lr:(r.map λs=>D.int (Bx s.2)).length<=1000000:=by have:=hr.len;simp;lia
   have mid:Ib [jS (.fl (ns.map D.int)),jS (.int b),jS (.int k),jS (.fl (Aw nm n)),jS (.tup [.str d,.int dl]),jS (.int u),jS (.int c),jS (.bl jU),jT,jT,jT,jT,jT] G=
     Io [jS (.fl (ns.map D.int)),jS (.int b),jS (.int k),jS (.fl (Aw nm n)),jS (.tup [.str d,.int dl]),jS (.int u),jS (.int c),jS (.bl jU),jS (.tup (r.map Be)),jS (Dv nm (jS (t.toNat,(1+c/26%5).toNat,(rest.map λs=>Bx s.2).foldl max (Bx st)+u*(c/130%2)))),jS (.int ((rest.map λs=>Bx s.2).foldl max (Bx st)+u*(c/130%2))),jS (.str (nm t.toNat)),jT] G:=by
    have ln:(Aw nm n).length=n:=Kc;show _=Io [jS (.fl (ns.map D.int)),jS (.int b),jS (.int k),jS (.fl (Aw nm n)),jS (.tup [.str d,.int dl]),jS (.int u),jS (.int c),jS (.bl jU),jS (.tup (r.map Be)),jS (.tup [.str (nm t.toNat),.int ((1+c/26%5).toNat:Nat),.int ((rest.map λs=>Bx s.2).foldl max (Bx st)+u*(c/130%2))]),jS (.int ((rest.map λs=>Bx s.2).foldl max (Bx st)+u*(c/130%2))),jS (.str (nm t.toNat)),jT] G
    rw[hd];generalize(rest.map λs=>Bx s.2).foldl max (Bx st)=MX at mx;generalize Aw nm n=NM at at_ ln;generalize r.map Be=RR at cr cp hrl;generalize(r.map λs=>D.int (Bx s.2))=RP at mx cp fz lr;unfold Ib Qm Rq;simp[hrl,cr,cp,Bh,fz,lr,mx,m2,ln,h1,h1',hn0,hn0',ht,at_,Bg]
   rw[cl,decide_eq_true hp,mid,fin,td]
 ·obtain⟨r,hr,cr⟩:=Yw (ns:=ns) (f:=f) hf hyr cy hb hu (p:=xQ)
  refine⟨r,jT,hr,(λto dl m e=>nomatch e),λG=>?_⟩
  have mid:Ib [jS (.fl (ns.map D.int)),jS (.int b),jS (.int k),jS (.fl (Aw nm n)),jS (.tup [.str d,.int dl]),jS (.int u),jS (.int c),jS (.bl xQ),jT,jT,jT,jT,jT] G=
    Io [jS (.fl (ns.map D.int)),jS (.int b),jS (.int k),jS (.fl (Aw nm n)),jS (.tup [.str d,.int dl]),jS (.int u),jS (.int c),jS (.bl xQ),jS (.tup (r.map Be)),jS (Dv nm jT),jT,jT,jT] G:=by
   show _=Io [jS (.fl (ns.map D.int)),jS (.int b),jS (.int k),jS (.fl (Aw nm n)),jS (.tup [.str d,.int dl]),jS (.int u),jS (.int c),jS (.bl xQ),jS (.tup (r.map Be)),jS .non,jT,jT,jT] G;generalize Aw nm n=NM;unfold Ib Qm Rq;simp[cr]
  rw[cl,decide_eq_false hp,mid,fin,td]
noncomputable def dnS(nm:Nat->Str):Option Nat->Str
 |none=>"sea"
 |some d=>nm d
def Ei(nm:Nat->Str)(p:Pl):D:=match p.kd with
 |.basin b r q=>.tup [.str "basin",.str p.nm,.str (dnS nm p.dn),.int p.dl,.int b,.tup (r.map Be),Dv nm q]
 |.town a b=>.tup [.str "town",.str p.nm,.str (dnS nm p.dn),.int p.dl,.int a,.int b]
 |.mill a=>.tup [.str "mill",.str p.nm,.str (dnS nm p.dn),.int p.dl,.int a]
structure PlOk (yr:Int) (nm:Nat->Str) (n k:Nat) (p:Pl):Prop where
 nm:p.nm=nm k
 dn:∀d,p.dn=jS d->k<d/\d<n
 dl:p.dl<=5
 basin:∀b r q,p.kd=.basin b r q->0<=b/\RuleOk yr q.isSome r/\∀to dl m,q=jS (to,dl,m)->to<n/\1<=dl/\dl<=5
 town:∀a b,p.kd=.town a b->0<=a/\0<=b
 mill:∀a,p.kd=.mill a->0<=a
theorem ZC3(hf:∀k:Nat,k<=1000->∀G,Az [.fl (ns.map D.int),.int k] G=.ok (.int (f k)) G)(hyr:1<=yr/\yr<=24)(cy:∀G,Fl [.fl (ns.map D.int)] G=.ok (.int yr) G)(hu:0<u)(cu:∀G,Et [.fl (ns.map D.int)] G=.ok (.int u) G){n:Nat}(hk:k<n)(hn:n<=12):
  ∃p:Pl,PlOk yr nm n k p/\∀(G:DH)(acc:List D)(x6 x7 x8 x9 x10 x11 x12:Option D),acc.length<=20->∃y6 y7 y8 y9 y10 y11 y12,
   Gs [jS (.fl (ns.map D.int)),jS (.int c),jS (.int n),jS (.fl (Aw nm n)),jS (.int k),jS (.ref G.length),x6,x7,x8,x9,x10,x11,x12] (G++[.lst acc])=
    .nx [jS (.fl (ns.map D.int)),jS (.int c),jS (.int n),jS (.fl (Aw nm n)),jS (.int k),jS (.ref G.length),y6,y7,y8,y9,y10,y11,y12] (G++[.lst (acc++[Ei nm p])]):=by
 have hc:∀j:Nat,j<=11->∀G,Az [.fl (ns.map D.int),.int (((6+12*k:Nat):Int)+j)] G=.ok (.int (f (6+12*k+j))) G:=λj hj G=>by have:=hf (6+12*k+j) (by lia) G;rwa[show((6+12*k+j:Nat):Int)=((6+12*k:Nat):Int)+j by lia]at this
 have hb:6+12*k<=900:=by lia
 have e6:(6+12*(k:Int))=((6+12*k:Nat):Int):=by lia
 have m12:∀G,Ba (.int 12) (.int (k:Int)) G=.ok (.int (12*(k:Int))) G:=λG=>Iv (by lia) (by lia)
 have h0:∀G,Az [.fl (ns.map D.int),.int ((6+12*k:Nat):Int)] G=.ok (.int (f (6+12*k))) G:=hf _ (by lia);have h1:∀G,Az [.fl (ns.map D.int),.int (((6+12*k:Nat):Int)+1)] G=.ok (.int (f (6+12*k+1))) G:=hc 1 (by lia);have h2:∀G,Az [.fl (ns.map D.int),.int (((6+12*k:Nat):Int)+2)] G=.ok (.int (f (6+12*k+2))) G:=hc 2 (by lia);have h3:∀G,Az [.fl (ns.map D.int),.int (((6+12*k:Nat):Int)+3)] G=.ok (.int (f (6+12*k+3))) G:=hc 3 (by lia)
 have h4:∀G,Az [.fl (ns.map D.int),.int (((6+12*k:Nat):Int)+4)] G=.ok (.int (f (6+12*k+4))) G:=hc 4 (by lia);have ak:atI (Aw nm n) (k:Int)=jS (.str (nm k)):=Nz hk;have fu:∀G,freeze G (.ok (.int u) G)=.ok (.int u) G:=λG=>N8 rfl
 have cb:=λd dl=>ZBA (nm:=nm) (d:=d) (dl:=dl) hf hyr cy hu cu hb hk hn
 generalize 6+12*k=b at hc hb e6 h0 h1 h2 h3 h4 cb;obtain⟨s,hs0,hs1,hs⟩:∃s:Int,0<=s/\s<(n:Int)-k/\∀(H:DH)(x5 x7 x8 x9 x10 x11 x12:Option D),Nv [jS (.fl (ns.map D.int)),jS (.int c),jS (.int n),jS (.fl (Aw nm n)),jS (.int k),x5,jS (.int b),x7,x8,x9,x10,x11,x12] H=
   K5 [jS (.fl (ns.map D.int)),jS (.int c),jS (.int n),jS (.fl (Aw nm n)),jS (.int k),x5,jS (.int b),jS (.int s),x8,x9,x10,x11,x12] H:=by
  have hm:0<(n:Int)-k:=by lia
  have hm':(k:Int)<n:=by lia
  by_cases hw:c/280%3=1
  ·refine⟨min 1 ((n:Int)-1-k),by lia,by lia,λH x5 x7 x8 x9 x10 x11 x12=>?_⟩;unfold Nv Qz;simp[h1,hm,hm',hk,hw]
  ·refine⟨f (b+1)%((n:Int)-k),qq _ (by lia),qK _ hm,λH x5 x7 x8 x9 x10 x11 x12=>?_⟩;unfold Nv Qz;simp[h1,hm,hm',hk,hw]
 obtain⟨dn,dl,hdn,hdl,hr⟩:∃(dn:Option Nat)(dl:Nat),(∀d,dn=jS d->k<d/\d<n)/\dl<=5/\∀(H:DH)(x5 x8 x9 x10 x11 x12:Option D),K5 [jS (.fl (ns.map D.int)),jS (.int c),jS (.int n),jS (.fl (Aw nm n)),jS (.int k),x5,jS (.int b),jS (.int s),x8,x9,x10,x11,x12] H=
   K6 [jS (.fl (ns.map D.int)),jS (.int c),jS (.int n),jS (.fl (Aw nm n)),jS (.int k),x5,jS (.int b),jS (.int s),jS (.int (f (b+2))),jS (.tup [.str (dnS nm dn),.int dl]),x10,x11,x12] H:=by
  have hd:((f (b+2)%2*(f (b+2)/2%6)).toNat:Int)=f (b+2)%2*(f (b+2)/2%6)/\(f (b+2)%2*(f (b+2)/2%6)).toNat<=5:=by rcases(by lia:f (b+2)%2=0∨f (b+2)%2=1)with z|z<;>rw[z]<;>lia
  have md:∀G,Ba (.int (f (b+2)%2)) (.int (f (b+2)/2%6)) G=.ok (.int (f (b+2)%2*(f (b+2)/2%6))) G:=λG=>Hn (by lia) (by lia)
  generalize f (b+2)%2*(f (b+2)/2%6)=w at hd md;by_cases hp:0<s
  ·have a2:atI (Aw nm n) ((k:Int)+s)=jS (.str (nm (k+s.toNat))):=by have:=Nz (nm:=nm) (n:=n) (k:=k+s.toNat) (by lia);rwa[show((k+s.toNat:Nat):Int)=(k:Int)+s by lia]at this
   refine⟨jS (k+s.toNat),w.toNat,λd e=>by cases e;lia,hd.2,λH x5 x8 x9 x10 x11 x12=>?_⟩;unfold K5 Ug Qv;simp[h2,md,hp,a2,Bg,dnS,hd.1]
  ·refine⟨jT,w.toNat,(λd e=>nomatch e),hd.2,λH x5 x8 x9 x10 x11 x12=>?_⟩
   unfold K5 Ug Qv;simp[h2,md,hp,Bg,dnS,hd.1]
 obtain⟨rk,hrk,hk2⟩:∃rk:Int,0<=rk/\∀(H:DH)(x5 x7 x8 x9 x10 x11 x12:Option D),K6 [jS (.fl (ns.map D.int)),jS (.int c),jS (.int n),jS (.fl (Aw nm n)),jS (.int k),x5,jS (.int b),x7,x8,x9,x10,x11,x12] H=
   Ja [jS (.fl (ns.map D.int)),jS (.int c),jS (.int n),jS (.fl (Aw nm n)),jS (.int k),x5,jS (.int b),x7,x8,x9,jS (.int (f b%5)),jS (.int (amt (f (b+3)) u)),jS (.int rk)] H:=by
  have fz:∀G:DH,freeze G (.ok (.ref G.length) (G++[.lst [.int 4,.int 10000000000000000000000000000000000000000]]))=.ok (.fl [.int 4,.int 10000000000000000000000000000000000000000]) G:=λG=>Gq rfl
  rcases(by lia:c/840%2=0∨c/840%2=1)with z|z
  ·refine⟨f (b+4)%4,by lia,λH x5 x7 x8 x9 x10 x11 x12=>?_⟩;unfold K6 T4 Te;simp[h0,h3,h4,cu,fu,Jw hu,z,Ay,fz]
  ·refine⟨f (b+4)%10000000000000000000000000000000000000000,by lia,λH x5 x7 x8 x9 x10 x11 x12=>?_⟩;unfold K6 T4 Te;simp[h0,h3,h4,cu,fu,Jw hu,z,Ay,fz]
 have hal:∀acc:List D,acc.length<=20->acc.length<1000000:=λacc h=>by lia
 have go:∀p:Pl,(∀(G:DH)(acc:List D),acc.length<=20->
   Ja [jS (.fl (ns.map D.int)),jS (.int c),jS (.int n),jS (.fl (Aw nm n)),jS (.int k),jS (.ref G.length),jS (.int b),jS (.int s),jS (.int (f (b+2))),jS (.tup [.str (dnS nm dn),.int dl]),jS (.int (f b%5)),jS (.int (amt (f (b+3)) u)),jS (.int rk)] (G++[.lst acc])=
    .nx [jS (.fl (ns.map D.int)),jS (.int c),jS (.int n),jS (.fl (Aw nm n)),jS (.int k),jS (.ref G.length),jS (.int b),jS (.int s),jS (.int (f (b+2))),jS (.tup [.str (dnS nm dn),.int dl]),jS (.int (f b%5)),jS (.int (amt (f (b+3)) u)),jS (.int rk)] (G++[.lst (acc++[Ei nm p])]))->
   ∀(G:DH)(acc:List D)(x6 x7 x8 x9 x10 x11 x12:Option D),acc.length<=20->∃y6 y7 y8 y9 y10 y11 y12,
   Gs [jS (.fl (ns.map D.int)),jS (.int c),jS (.int n),jS (.fl (Aw nm n)),jS (.int k),jS (.ref G.length),x6,x7,x8,x9,x10,x11,x12] (G++[.lst acc])=
    .nx [jS (.fl (ns.map D.int)),jS (.int c),jS (.int n),jS (.fl (Aw nm n)),jS (.int k),jS (.ref G.length),y6,y7,y8,y9,y10,y11,y12] (G++[.lst (acc++[Ei nm p])]):=λp h9 G acc x6 x7 x8 x9 x10 x11 x12 ha=>by
  refine⟨jS (.int b),jS (.int s),jS (.int (f (b+2))),jS (.tup [.str (dnS nm dn),.int dl]),jS (.int (f b%5)),jS (.int (amt (f (b+3)) u)),jS (.int rk),?_⟩
  ·unfold Gs;have e:(sAs (dOp Al (dC (.int 6)) (dOp Ba (dC (.int 12)) (dV 4))) (gV 6)) [jS (.fl (ns.map D.int)),jS (.int c),jS (.int n),jS (.fl (Aw nm n)),jS (.int k),jS (.ref G.length),x6,x7,x8,x9,x10,x11,x12] (G++[.lst acc])=.nx [jS (.fl (ns.map D.int)),jS (.int c),jS (.int n),jS (.fl (Aw nm n)),jS (.int k),jS (.ref G.length),jS (.int b),x7,x8,x9,x10,x11,x12] (G++[.lst acc]):=by simp[m12,e6]
   rw[Vc,e,Z4,hs,hr,hk2];exact h9 G acc ha
 by_cases hk1:f b%5<2
 ·obtain⟨r,q,hr1,hq,cr⟩:=cb (dnS nm dn) dl
  refine⟨⟨nm k,dn,dl,.basin (amt (f (b+3)) u) r q⟩,⟨rfl,hdn,hdl,λb' r' q' e=>?_,(λ_ _ e=>nomatch e),(λ_ e=>nomatch e)⟩,go _ λG acc ha=>?_⟩
  ·cases e;exact⟨Mg hu,hr1,hq⟩
  ·have fr:∀G:DH,freeze G (.ok (.tup [.str "basin",.str (nm k),.str (dnS nm dn),.int dl,.int (amt (f (b+3)) u),.tup (r.map Be),Dv nm q]) G)=.ok (.tup [.str "basin",.str (nm k),.str (dnS nm dn),.int dl,.int (amt (f (b+3)) u),.tup (r.map Be),Dv nm q]) G:=λG=>N8 (by simp)
   unfold Ja;simp[hk1,cr,fr,Eb,Gk,hal acc ha,Ei]
 ·by_cases hk3:f b%5<4
  ·refine⟨⟨nm k,dn,dl,.town (amt (f (b+3)) u) rk⟩,⟨rfl,hdn,hdl,(λ_ _ _ e=>nomatch e),λa b' e=>?_,(λ_ e=>nomatch e)⟩,go _ λG acc ha=>?_⟩
   ·cases e;exact⟨Mg hu,hrk⟩
   ·unfold Ja;simp[hk1,hk3,ak,Bg,Eb,Gk,hal acc ha,Ei]
  ·refine⟨⟨nm k,dn,dl,.mill (amt (f (b+3)) u)⟩,⟨rfl,hdn,hdl,(λ_ _ _ e=>nomatch e),(λ_ _ e=>nomatch e),λa e=>?_⟩,go _ λG acc ha=>?_⟩
   ·cases e;exact Mg hu
   ·unfold Ja;simp[hk1,hk3,ak,Bg,Eb,Gk,hal acc ha,Ei]
theorem V8{n:Nat}{P:Nat->Pl} 
  (hd:∀k,k<n->∀(acc:List D)(x6 x7 x8 x9 x10 x11 x12:Option D),acc.length<=20->∃y6 y7 y8 y9 y10 y11 y12,
   Gs [jS (.fl (ns.map D.int)),jS (.int c),jS (.int n),jS (.fl (Aw nm n)),jS (.int k),jS (.ref G.length),x6,x7,x8,x9,x10,x11,x12] (G++[.lst acc])=
    .nx [jS (.fl (ns.map D.int)),jS (.int c),jS (.int n),jS (.fl (Aw nm n)),jS (.int k),jS (.ref G.length),y6,y7,y8,y9,y10,y11,y12] (G++[.lst (acc++[Ei nm (P k)])])):
  ∀(m k:Nat) (acc:List D) (x4 x6 x7 x8 x9 x10 x11 x12:Option D),k+m=n->acc.length+m<=20->∃y4 y6 y7 y8 y9 y10 y11 y12,
   Bp (gV 4) Gs (By k m) [jS (.fl (ns.map D.int)),jS (.int c),jS (.int n),jS (.fl (Aw nm n)),x4,jS (.ref G.length),x6,x7,x8,x9,x10,x11,x12] (G++[.lst acc])=
    .nx [jS (.fl (ns.map D.int)),jS (.int c),jS (.int n),jS (.fl (Aw nm n)),y4,jS (.ref G.length),y6,y7,y8,y9,y10,y11,y12] (G++[.lst (acc++(List.range' k m).map λi=>Ei nm (P i))])
 |0,k,acc,x4,x6,x7,x8,x9,x10,x11,x12,e,ha=>⟨x4,x6,x7,x8,x9,x10,x11,x12,by rw[Ld,Ga];simp⟩
 |m+1,k,acc,x4,x6,x7,x8,x9,x10,x11,x12,e,ha=>by
  obtain⟨y6,y7,y8,y9,y10,y11,y12,hb⟩:=hd k (by lia) acc x6 x7 x8 x9 x10 x11 x12 (by lia);obtain⟨z4,z6,z7,z8,z9,z10,z11,z12,ih⟩:=V8 hd m (k+1) (acc++[Ei nm (P k)]) (jS (.int k)) y6 y7 y8 y9 y10 y11 y12 (by lia) (by simp;lia);refine⟨z4,z6,z7,z8,z9,z10,z11,z12,?_⟩;rw[Ju,Ed];simp only[Jm,R.J7,List.set,hb,Jp];have e1:((k:Int)+1)=((k+1:Nat):Int):=by lia
  rw[e1,ih];simp[List.range'_succ]
structure Told (h:Hs) (yr:Int):Prop where
 good:GoodH h
 one:1<=h.n
 ey:h.yr=yr
 ok:∃nm:Nat->Str,∀k,k<h.n->PlOk yr nm h.n k (h.pl k)
theorem ZD5:∃n:Nat,1<=n/\n<=12/\(n:Int)=if c/5%8=1 then 6+c/40%7 else 1+c%5:=by
 by_cases h:c/5%8=1
 ·exact⟨(6+c/40%7).toNat,by lia,by lia,by rw[if_pos h];lia⟩
 ·exact⟨(1+c%5).toNat,by lia,by lia,by rw[if_neg h];lia⟩
theorem ZDY(hf:∀k:Nat,k<=1000->∀G,Az [.fl (ns.map D.int),.int k] G=.ok (.int (f k)) G)(hyr:1<=yr/\yr<=24)(cy:∀G,Fl [.fl (ns.map D.int)] G=.ok (.int yr) G)(hu:0<u)(cu:∀G,Et [.fl (ns.map D.int)] G=.ok (.int u) G):
  ∃h:Hs,Told h yr/\∀G,Mw [.fl (ns.map D.int)] G=.ok h.enc G:=by
 obtain⟨n,hn1,hn,en⟩:=ZD5 (c:=f 0);let nm:Nat->Str:=λk=>Bw (Df (f 5) n k)
 have ex:∀k:Nat,∃p:Pl,k<n->(PlOk yr nm n k p/\∀(G:DH)(acc:List D)(x6 x7 x8 x9 x10 x11 x12:Option D),acc.length<=20->∃y6 y7 y8 y9 y10 y11 y12,
   Gs [jS (.fl (ns.map D.int)),jS (.int (f 0)),jS (.int n),jS (.fl (Aw nm n)),jS (.int k),jS (.ref G.length),x6,x7,x8,x9,x10,x11,x12] (G++[.lst acc])=
    .nx [jS (.fl (ns.map D.int)),jS (.int (f 0)),jS (.int n),jS (.fl (Aw nm n)),jS (.int k),jS (.ref G.length),y6,y7,y8,y9,y10,y11,y12] (G++[.lst (acc++[Ei nm p])])):=λk=>by
  by_cases hk:k<n
  ·obtain⟨p,hp⟩:=ZC3 (nm:=nm) (c:=f 0) hf hyr cy hu cu hk hn;exact⟨p,λ_=>hp⟩
  ·exact⟨noPl,λz=>absurd z hk⟩
 let P:Nat->Pl:=λk=>(ex k).choose
 have hP:=λ(k:Nat)(hk:k<n)=>((ex k).choose_spec hk).1
 have hB:=λ(k:Nat)(hk:k<n)=>((ex k).choose_spec hk).2
 let h:Hs:=⟨yr,(zG n).map P⟩;have hnn:h.n=n:=by simp[h,Hs.n]
 have hpl:∀k,k<n->h.pl k=P k:=λk hk=>by simp[h,Hs.pl,hk]
 have hg:GoodH h:=by
  refine⟨?_,by lia,?_,?_,?_,?_,?_,?_,?_⟩
  ·show 0<yr;lia
  ·intro i j hi hj e;rw[hnn]at hi hj;rw[hpl i hi,hpl j hj,(hP i hi).nm,(hP j hj).nm]at e;exact ZD2 hn hi hj (Z0 e)
  ·intro i hi;rw[hnn]at hi;rw[hpl i hi,(hP i hi).nm];exact ZAa
  ·intro k d hk e;rw[hnn]at hk⊢;rw[hpl k hk]at e;exact(hP k hk).dn d e
  ·intro k hk;rw[hnn]at hk;rw[hpl k hk];exact(hP k hk).dl
  ·intro k b r to dl m hk e;rw[hnn]at hk⊢;rw[hpl k hk]at e;exact((hP k hk).basin _ _ _ e).2.2 to dl m rfl
  ·intro k b r q hk e;rw[hnn]at hk;rw[hpl k hk]at e;have:=(hP k hk).basin _ _ _ e;exact⟨this.1,λs hs=>(this.2.1.good s hs).1⟩
  ·intro k a b hk e;rw[hnn]at hk;rw[hpl k hk]at e;exact(hP k hk).town _ _ e
 refine⟨h,⟨hg,by lia,rfl,nm,λk hk=>by rw[hnn]at hk⊢;rw[hpl k hk];exact hP k hk⟩,λG=>?_⟩;have hdT:∀o:Option Nat,(∀d,o=jS d->d<n)->h.dnT o=dnS nm o:=λo ho=>by
  cases o with
  |none=>rfl
  |some d=>
   show(h.pl d).nm=nm d;rw[hpl d (ho d rfl),(hP d (ho d rfl)).nm]
 have henc:h.Cv=(List.range' 0 n).map λi=>Ei nm (P i):=by
  show((zG n).map P).map h.encP=_;rw[List.map_map,List.range_eq_range'];refine List.map_congr_left λk hk=>?_
  have hk':k<n:=by have:=List.mem_range'_1.mp hk;lia
  have ok:=hP k hk';show h.encP (P k)=Ei nm (P k);have ed:=hdT (P k).dn λd e=>(ok.dn d e).2
  unfold Hs.encP Ei;rw[ed];cases e:(P k).kd with
  | basin b r q=>
   have hq:=(ok.basin b r q e).2.2;cases q with
   |none=>rfl
   |some q=>
    obtain⟨to,dl,m⟩:=q;have ht:=(hq to dl m rfl).1;have e2:(h.pl to).nm=nm to:=by rw[hpl to ht,(hP to ht).nm]
    simp[Hs.Pa,Dv,e2]
  |town a b=>rfl
  |mill a=>rfl
 obtain⟨y4,y6,y7,y8,y9,y10,y11,y12,hL⟩:=V8 (G:=G) (P:=P) (nm:=nm) (c:=f 0) (n:=n) (ns:=ns) (λk hk=>hB k hk G) n 0 [] jT jT jT jT jT jT jT jT (by lia) (by simp;lia);rw[<-henc]at hL;have hL':Bp (gV 4) Gs (By 0 n) [jS (.fl (ns.map D.int)),jS (.int (f 0)),jS (.int n),jS (.fl (Aw nm n)),jT,jS (.ref G.length),jT,jT,jT,jT,jT,jT,jT] (G++[.lst []])=
    .nx [jS (.fl (ns.map D.int)),jS (.int (f 0)),jS (.int n),jS (.fl (Aw nm n)),y4,jS (.ref G.length),y6,y7,y8,y9,y10,y11,y12] (G++[.lst h.Cv]):=hL
 have f0:∀G,Az [.fl (ns.map D.int),.int 0] G=.ok (.int (f 0)) G:=hf 0 (by lia);have f5:∀G,Az [.fl (ns.map D.int),.int 5] G=.ok (.int (f 5)) G:=hf 5 (by lia);have cp:∀G:DH,Ck (gV 0) Dc Rz [jT,jS (.fl (ns.map D.int)),jS (.int n)] (By 0 n) G=.ok (Aw nm n) G:=λG=>Qk λk hk=>by unfold Rz;simp[f5,ZA2 hn hk,nm]
 have fz:freeze G (.ok (.ref G.length) (G++[.lst (Aw nm n)]))=.ok (.fl (Aw nm n)) G:=Gq ZCk;have hr:inR (n:Int):=Jk (by lia) (by lia);have hnl:n<=1000000:=by lia
 have eh:h.enc=.tup [.int yr,.tup h.Cv]:=rfl;unfold Mw Vs;rw[Bq];by_cases hw:f 0/5%8=1
 ·rw[if_pos hw]at en;simp[Kc,hnl,f0,hw,<-en,hr,Bh,cp,fz,Ay,Km,hL',cy,Eb,Bg,Jq,eh]
 ·rw[if_neg hw]at en;simp[Kc,hnl,f0,hw,<-en,hr,Bh,cp,fz,Ay,Km,hL',cy,Eb,Bg,Jq,eh]
def mo(h:Hs)(k:Nat):Int:=match(h.pl k).kd with
 |.basin b _ _=>b
 |_=>0
theorem Vl(g:GoodH h)(hk:k<h.n):0<=mo h k:=by
 unfold mo;cases e:(h.pl k).kd with
 |basin b r q=>exact(g.brim k b r q hk e).1
 |town _ _=>exact Int.le_refl _
 |mill _=>exact Int.le_refl _
def Ij(c u m:Int):Int:=if c%6=5 then m+1+amt (c/6) u else if c%6=4 then 0-1-amt (c/6) u%(m+1)else amt (c/6) u%(m+1)
theorem ZBJ{m:Int}(hu:0<u)(hm:0<=m):(0<=Ij c u m/\Ij c u m<=m)↔¬3<c%6:=by
 have h1:=Mg (c:=c/6) hu;have h2:=qq (amt (c/6) u) (show m+1≠0 by lia);have h3:=qK (amt (c/6) u) (show 0<m+1 by lia);unfold Ij;generalize amt (c/6) u%(m+1)=q at h2 h3;split
 ·lia
 ·split <;> lia
def lev(h:Hs)(f:Nat->Int)(u:Int)(k:Nat):Int:=Ij (f (6+12*h.n+k)) u (mo h k)
def bad1(B:Option Nat)(c:Int)(n:Nat):Option Nat:=match B with
 |some k=>jS k
 |none=>if 3<c%6 then jS n else jT
def bad(c:Nat->Int):Nat->Option Nat
 |0=>jT
 |n+1=>bad1 (bad c n) (c n) n
theorem Rn{c:Nat->Int}:∀{n b:Nat},bad c n=jS b->b<n/\3<c b%6/\∀k,k<b->¬3<c k%6
 |0,b,h=>by cases h
 | n+1,b,h=>by
  have key:bad c (n+1)=bad1 (bad c n) (c n) n:=rfl;rw[key]at h;unfold bad1 at h;cases e:bad c n with
  |some k=>
   rw[e]at h;cases h;have:=Rn e;exact⟨by lia,this.2⟩
  |none=>
   rw[e]at h;dsimp only at h;split at h
   ·rename_i h3;cases h;exact⟨by lia,h3,λk hk=>bad_none e k hk⟩
   ·cases h
where bad_none {c:Nat->Int}:∀{n:Nat},bad c n=jT->∀k,k<n->¬3<c k%6
 |0,_,k,hk=>absurd hk (Nat.not_lt_zero _)
 | n+1,h,k,hk=>by
  have key:bad c (n+1)=bad1 (bad c n) (c n) n:=rfl;rw[key]at h;unfold bad1 at h;cases e:bad c n with
  |some k=>rw[e]at h;cases h
  | none=>
   rw[e]at h;dsimp only at h;split at h
   ·cases h
   ·rename_i h3;by_cases z:k=n
    ·subst z;exact h3
    ·exact bad_none e k (by lia)
noncomputable def Dm:Option Nat->D
 |none=>.non
 |some k=>.int k
theorem Wy(hf:∀k:Nat,k<=1000->∀G,Az [.fl (ns.map D.int),.int k] G=.ok (.int (f k)) G)(hu:0<u)(g:GoodH h){G:DH}:∀(m k:Nat)(x5 x6 x7 x8:Option D),k+m=h.n->∃y5 y6 y7 y8,
  Bp (gV 5) Lg (By k m) [jS (.fl (ns.map D.int)),jS h.enc,jS (.int u),jS (.ref G.length),jS (Dm (bad (λj=>f (6+12*h.n+j)) k)),x5,x6,x7,x8] (G++[.lst (tab k (lev h f u))])=
   .nx [jS (.fl (ns.map D.int)),jS h.enc,jS (.int u),jS (.ref G.length),jS (Dm (bad (λj=>f (6+12*h.n+j)) h.n)),y5,y6,y7,y8] (G++[.lst (tab h.n (lev h f u))])
 |0,k,x5,x6,x7,x8,e=>by
  have e1:k=h.n:=by lia
  subst e1;exact⟨x5,x6,x7,x8,by rw[Ld,Ga]⟩
 | m+1,k,x5,x6,x7,x8,e=>by
  have hk:k<h.n:=by lia
  have hn:=g.len;obtain⟨y5,y6,y7,y8,ih⟩:=Wy hf hu g (G:=G) m (k+1) (jS (.int k)) (jS (.int (f (6+12*h.n+k)))) (jS (.int (mo h k))) (jS (.int (lev h f u k))) (by lia);refine⟨y5,y6,y7,y8,?_⟩;have ap:atI h.Cv (k:Int)=jS (h.encP (h.pl k)):=Hs.ZBS hk;have m12:∀G,Ba (.int 12) (.int (h.n:Int)) G=.ok (.int (12*(h.n:Int))) G:=λG=>Iv (by lia) (by lia)
  have c1:∀G,Az [.fl (ns.map D.int),.int (6+12*(h.n:Int)+(k:Int))] G=.ok (.int (f (6+12*h.n+k))) G:=λG=>by have:=hf (6+12*h.n+k) (by lia) G;rwa[show((6+12*h.n+k:Nat):Int)=6+12*(h.n:Int)+(k:Int) by lia]at this
  have hm:=Vl g hk;have et:tab k (lev h f u)++[.int (lev h f u k)]=tab (k+1) (lev h f u):=by simp[tab,List.range_succ]
  have eb:bad (λj=>f (6+12*h.n+j)) (k+1)=bad1 (bad (λj=>f (6+12*h.n+j)) k) (f (6+12*h.n+k)) k:=rfl;rw[eb]at ih;have el:lev h f u k=Ij (f (6+12*h.n+k)) u (mo h k):=rfl;generalize bad (λj=>f (6+12*h.n+j)) k=B at ih⊢;generalize f (6+12*h.n+k)=c at c1 ih el;have hl1:k<1000000:=by lia
  have t1:∀H,Lg [jS (.fl (ns.map D.int)),jS h.enc,jS (.int u),jS (.ref G.length),jS (Dm B),jS (.int k),x6,x7,x8] H=O8 [jS (.fl (ns.map D.int)),jS h.enc,jS (.int u),jS (.ref G.length),jS (Dm B),jS (.int k),jS (.int c),jS (.int (mo h k)),x8] H:=λH=>by
   unfold Lg Vo Ze mo;cases e:(h.pl k).kd with
   |basin b r q=>
    have e4:∀G,An (h.encP (h.pl k)) (.int 4) G=.ok (.int b) G:=λG=>by unfold Hs.encP;rw[e];simp
    simp[Ii,Hs.Gx,m12,c1,ap,Jh,e,Kd.isB,e4]
   |town a b=>simp[Ii,Hs.Gx,m12,c1,ap,Jh,e,Kd.isB]
   |mill a=>simp[Ii,Hs.Gx,m12,c1,ap,Jh,e,Kd.isB]
  generalize mo h k=M at t1 hm el ih;have t2:∀H,O8 [jS (.fl (ns.map D.int)),jS h.enc,jS (.int u),jS (.ref G.length),jS (Dm B),jS (.int k),jS (.int c),jS (.int M),x8] H=Nu [jS (.fl (ns.map D.int)),jS h.enc,jS (.int u),jS (.ref G.length),jS (Dm B),jS (.int k),jS (.int c),jS (.int M),jS (.int (Ij c u M))] H:=λH=>by
   have hb1:0<M+1:=by lia
   have hb2:¬M+1=0:=by lia
   unfold O8 Xh Zb Ij;by_cases h5:c%6=5
   ·have h4:¬c%6=4:=by lia
    simp[Jw hu,hb1,hb2,h5,h4]
   ·by_cases h4:c%6=4
    ·simp[Jw hu,hb1,hb2,h5,h4]
    ·simp[Jw hu,hb1,hb2,h5,h4]
  rw[<-el]at t2;generalize hL:lev h f u=L at t2 et ih⊢;have t3:∀H,Nu [jS (.fl (ns.map D.int)),jS h.enc,jS (.int u),jS (.ref G.length),jS (Dm B),jS (.int k),jS (.int c),jS (.int M),jS (.int (L k))] H=Mv [jS (.fl (ns.map D.int)),jS h.enc,jS (.int u),jS (.ref G.length),jS (Dm (bad1 B c k)),jS (.int k),jS (.int c),jS (.int M),jS (.int (L k))] H:=λH=>by
   unfold Nu bad1;cases B with
   |some j=>by_cases h3:3<c%6<;>simp[h3,Dm,Om]
   |none=>by_cases h3:3<c%6<;>simp[h3,Dm,Om]
  have t4:∀B',Mv [jS (.fl (ns.map D.int)),jS h.enc,jS (.int u),jS (.ref G.length),jS B',jS (.int k),jS (.int c),jS (.int M),jS (.int (L k))] (G++[.lst (tab k L)])=.nx [jS (.fl (ns.map D.int)),jS h.enc,jS (.int u),jS (.ref G.length),jS B',jS (.int k),jS (.int c),jS (.int M),jS (.int (L k))] (G++[.lst (tab (k+1) L)]):=λB'=>by unfold Mv;simp[Eb,Gk,hl1,et]
  rw[Ju,Ed];simp only[Jm,R.J7,List.set,t1,t2,t3,t4,Jp];have e1:((k:Int)+1)=((k+1:Nat):Int):=by lia
  rw[e1,ih]
theorem ZAb(hf:∀k:Nat,k<=1000->∀G,Az [.fl (ns.map D.int),.int k] G=.ok (.int (f k)) G)(hu:0<u)(cu:∀G,Et [.fl (ns.map D.int)] G=.ok (.int u) G)(g:GoodH h)(G:DH):
  P0 [.fl (ns.map D.int),h.enc] G=.ok (.tup [.tup (tab h.n (lev h f u)),Dm (bad (λj=>f (6+12*h.n+j)) h.n)]) G:=by
 obtain⟨y5,y6,y7,y8,hL⟩:=Wy hf hu g (G:=G) h.n 0 jT jT jT jT (by lia);have hL':Bp (gV 5) Lg (By 0 h.n) [jS (.fl (ns.map D.int)),jS h.enc,jS (.int u),jS (.ref G.length),jS .non,jT,jT,jT,jT] (G++[.lst []])=_:=hL;have hn:=g.len;have fu:freeze G (.ok (.int u) G)=.ok (.int u) G:=N8 rfl;have hr:inR (h.n:Int):=Jk (by lia) (by lia);generalize lev h f u=L at hL';generalize bad (λj=>f (6+12*h.n+j)) h.n=B at hL'
 have g0:(G++[DO.lst (tab h.n L)])[G.length]?=jS (.lst (tab h.n L)):=by simp
 have tp:tidy G (.ok (.tup [.tup (tab h.n L),Dm B]) (G++[.lst (tab h.n L)]))=.ok (.tup [.tup (tab h.n L),Dm B]) G:=Jq (by cases B<;>simp[Dm,W6])
 generalize G++[DO.lst (tab h.n L)]=G2 at hL' g0 tp;unfold P0 Xk;rw[Bq];simp[Ii,cu,fu,Hs.Gx,Ay,Km,hr,hL',g0,Bg,tp]
noncomputable def XN(b:Nat):Xn:=⟨"NoLevel",[("place",.int b)]⟩
theorem T6(hk:k<h.n):(Ft h.Cv).drop k=.tup [.int k,h.encP (h.pl k)]::(Ft h.Cv).drop (k+1):=by rw[qX (by rw[Tz,Hs.Gx];exact hk)];have:=Hs.Yv hk;rw[zK (by rw[Hs.Gx];exact hk)]at this;have e2:=Option.some.inj this;simp[Ft,e2]
theorem Uj(hk:k<h.n)(hn:h.n<=12){x4:Option D}(G:DH):
  Kp [jS h.enc,jS (.tup (tab h.n L)),jS (.int k),jS (h.encP (h.pl k)),x4] G=if 0<=L k/\L k<=mo h k then .nx [jS h.enc,jS (.tup (tab h.n L)),jS (.int k),jS (h.encP (h.pl k)),jS (.int (mo h k))] G else .err (XN k) G:=by
 have a1:atI (tab h.n L) (k:Int)=jS (.int (L k)):=ZBq hk;have t1:(sAs (dIf (Bb (dOp Cg (dOp An (dV 3) (dC (.int 0))) (dC (.str "basin")))) (dOp An (dV 3) (dC (.int 4))) (dC (.int 0))) (gV 4)) [jS h.enc,jS (.tup (tab h.n L)),jS (.int k),jS (h.encP (h.pl k)),x4] G=.nx [jS h.enc,jS (.tup (tab h.n L)),jS (.int k),jS (h.encP (h.pl k)),jS (.int (mo h k))] G:=by
  unfold mo;cases e:(h.pl k).kd with
  |basin b r q=>
   have e4:∀G,An (h.encP (h.pl k)) (.int 4) G=.ok (.int b) G:=λG=>by unfold Hs.encP;rw[e];simp
   simp[Jh,e,Kd.isB,e4]
  |town a b=>simp[Jh,e,Kd.isB]
  |mill a=>simp[Jh,e,Kd.isB]
 unfold Kp;rw[Vc,t1,Z4];generalize mo h k=M;generalize h.encP (h.pl k)=P;have hz:∀(S:DSt),S[2]?=jS (jS (.int k))->sRz "NoLevel" "place" (Ac (dV 2) Ag) S G=.err (XN k) G:=λS hS=>by
  unfold sRz;have:(0:Int)<=(k:Int)/\(k:Int)<100:=by lia
  simp[hS,this,XN]
 generalize hX:sRz "NoLevel" "place" (Ac (dV 2) Ag)=Z at hz;by_cases h1:0<=L k
 ·by_cases h2:L k<=M
  ·simp[a1,h1,h2]
  ·simp[a1,h1,h2,hz]
 ·simp[a1,h1,hz]
theorem Wa(hn:h.n<=12){L:Nat->Int}{G:DH}:∀(m k:Nat)(x2 x3 x4:Option D),k+m=h.n->(∀j,k<=j->j<h.n->0<=L j/\L j<=mo h j)->∃y2 y3 y4,
  Bp (Fi 2 (Cw (gV 2) (Cw (gV 3) G7))) Kp ((Ft h.Cv).drop k) [jS h.enc,jS (.tup (tab h.n L)),x2,x3,x4] G=.nx [jS h.enc,jS (.tup (tab h.n L)),y2,y3,y4] G
 |0,k,x2,x3,x4,e,_=>⟨x2,x3,x4,by rw[List.drop_eq_nil_of_le (by rw[Tz,Hs.Gx];lia),Ga]⟩
 |m+1,k,x2,x3,x4,e,ok=>by
  have hk:k<h.n:=by lia
  obtain⟨y2,y3,y4,ih⟩:=Wa hn (G:=G) m (k+1) (jS (.int k)) (jS (h.encP (h.pl k))) (jS (.int (mo h k))) (by lia) λj hj=>ok j (by lia)
  refine⟨y2,y3,y4,?_⟩;have hb:=Uj hk hn (L:=L) (x4:=x4) G;rw[if_pos (ok k (zW _) hk)]at hb;rw[T6 hk,Ed];simp[hb,ih]
theorem Wk(hn:h.n<=12){L:Nat->Int}{G:DH}(hb:b<h.n)(nb:¬(0<=L b/\L b<=mo h b)):∀(m k:Nat)(x2 x3 x4:Option D),k+m=b->(∀j,k<=j->j<b->0<=L j/\L j<=mo h j)->
  Bp (Fi 2 (Cw (gV 2) (Cw (gV 3) G7))) Kp ((Ft h.Cv).drop k) [jS h.enc,jS (.tup (tab h.n L)),x2,x3,x4] G=.err (XN b) G
 |0,k,x2,x3,x4,e,_=>by
  have e1:k=b:=by lia
  subst e1;have hb':=Uj hb hn (L:=L) (x4:=x4) G;rw[if_neg nb]at hb';rw[T6 hb,Ed];simp[hb']
 |m+1,k,x2,x3,x4,e,ok=>by
  have hk:k<h.n:=by lia
  have ih:=Wk hn hb nb (G:=G) m (k+1) (jS (.int k)) (jS (h.encP (h.pl k))) (jS (.int (mo h k))) (by lia) λj hj=>ok j (by lia)
  have hb':=Uj hk hn (L:=L) (x4:=x4) G;rw[if_pos (ok k (zW _) (by lia))]at hb';rw[T6 hk,Ed];simp[hb',ih]
theorem Qf{te:DE}{v:D}(h:∀S',te S' G=.ok v G):∀xs:List D,Ck (gV 0) Dc te S xs G=.ok (zQ xs.length v) G
 |[]=>by rw[ZBy];rfl
 |x::xs=>by rw[Ph];simp[h,Qf h xs,qW]
noncomputable abbrev Z5:D:=.tup [.int 0,.int 0,.int 0,.int 0,.int 0]
theorem U5{n:Nat}:bels m (zQ n Z5)=jU:=Zi.mpr λd hd=>by rw[(List.mem_replicate.mp hd).2];simp
theorem ZEl(hn:h.n<=12)(ok:∀j,j<h.n->0<=L j/\L j<=mo h j)(G:DH):Fd [h.enc,.tup (tab h.n L)] G=.ok (.tup [.tup (tab h.n L),.tup (zQ h.n Z5)]) G:=by
 obtain⟨y2,y3,y4,hL⟩:=Wa hn (L:=L) (G:=G) h.n 0 jT jT jT (by lia) λj _ hj=>ok j hj
 rw[List.drop_zero]at hL;have hc:∀S,Ck (gV 0) Dc Ru S (tab h.n L) G=.ok (zQ h.n Z5) G:=λS=>by have:=Qf (te:=Ru) (S:=S) (G:=G) (v:=Z5) (λS'=>rfl) (tab h.n L);rwa[ZBo]at this
 have fz:freeze G (.ok (.ref G.length) (G++[.lst (zQ h.n Z5)]))=.ok (.fl (zQ h.n Z5)) G:=Gq U5;have tp:tidy G (.ok (.tup [.tup (tab h.n L),.tup (zQ h.n Z5)]) G)=.ok (.tup [.tup (tab h.n L),.tup (zQ h.n Z5)]) G:=Bs (by simp[W6,U5]);have hl:(zQ h.n Z5).length<=1000000:=by rw[zP];lia
 generalize zQ h.n Z5=R at hc fz tp hl;unfold Fd Uo;rw[Bq];simp[Ii,hL,hc,Ay,hl,fz,Bg,tp]
theorem ZC8(hn:h.n<=12)(hb:b<h.n)(nb:¬(0<=L b/\L b<=mo h b))(ok:∀j,j<b->0<=L j/\L j<=mo h j)(G:DH):Fd [h.enc,.tup (tab h.n L)] G=.err (XN b) G:=by
 have hL:=Wk hn hb nb (G:=G) b 0 jT jT jT (by lia) λj _ hj=>ok j hj
 rw[List.drop_zero]at hL;unfold Fd Uo;rw[Bq];simp[Ii,hL]
theorem V7{c:Str}{b:Bool}{p:Str×D}{fs:List (Str×D)}(h:G[i]?=jS (.exc c (p::fs))):isx [(c,b)] (.ref i) G=.ok (.bl b) G:=by unfold isx;simp[h]
theorem ZBM{c f:Str}{d:D}(h:G[i]?=jS (.exc c [(f,d)])):gtx [c] f (.ref i) G=.ok d G:=by unfold gtx;simp[h]
theorem Vt{ws:List Str}{F:List D->DH->R D}{t:DA}{hb:DS}{G1 G2:DH}{ds:List D}{x:Xn}(ht:t S G=.ok ds G1)(hF:F ds G1=.err x G2)(hw:x.cls∈ws):G8 ws i F t hb S G=unnm i (hb (S.set i (jS (.ref G2.length))) (G2++[.exc x.cls x.fs])):=by unfold G8;rw[ht];dsimp only;rw[hF];dsimp only;rw[if_pos hw]
theorem ZCD{p:Str×D}{fs:List (Str×D)}(h:G[i]?=jS (.exc "NoLevel" (p::fs))):N6 [.ref i] G=.ok (.bl xQ) G:=by unfold N6 Zm;rw[Bq];simp[V7 h,Bs]
theorem ZEC{l:List D}(hs:∀G,Fd [h.enc,.tup l] G=.err (XN b) G)(G:DH):O6 [h.enc,.tup l] G=.ok (.tup [.bl jU,.int b]) G:=by
 have t1:∀(G:DH)(x2 x3 x4:Option D),G8 ["NoLevel"] 4 Fd (Ac (dV 0) (Ac (dV 1) Ag)) Oq [jS h.enc,jS (.tup l),x2,x3,x4] G=.nx [jS h.enc,jS (.tup l),x2,jS (.bl jU),jT] (G++[.exc "NoLevel" [("place",.int b)]]):=λG x2 x3 x4=>by
  rw[Vt (ds:=[h.enc,.tup l]) (G1:=G) (by simp) (hs G) (by simp[XN])];have hg:(G++[DO.exc "NoLevel" [("place",.int b)]])[G.length]?=jS (.exc "NoLevel" [("place",.int b)]):=by simp
  show unnm 4 (Oq [jS h.enc,jS (.tup l),x2,x3,jS (.ref G.length)] (G++[.exc "NoLevel" [("place",.int b)]]))=_;generalize G++[DO.exc "NoLevel" [("place",.int b)]]=G2 at hg;unfold Oq;simp[V7 hg,ZCD hg,unnm]
 have t2:∀(G:DH)(x2 x3 x4:Option D),G8 ["NoLevel"] 4 Fd (Ac (dV 0) (Ac (dV 1) Ag)) Ml [jS h.enc,jS (.tup l),x2,x3,x4] G=.nx [jS h.enc,jS (.tup l),jS (.int b),x3,jT] (G++[.exc "NoLevel" [("place",.int b)]]):=λG x2 x3 x4=>by
  rw[Vt (ds:=[h.enc,.tup l]) (G1:=G) (by simp) (hs G) (by simp[XN])];have hg:(G++[DO.exc "NoLevel" [("place",.int b)]])[G.length]?=jS (.exc "NoLevel" [("place",.int b)]):=by simp
  show unnm 4 (Ml [jS h.enc,jS (.tup l),x2,x3,jS (.ref G.length)] (G++[.exc "NoLevel" [("place",.int b)]]))=_;generalize G++[DO.exc "NoLevel" [("place",.int b)]]=G2 at hg;unfold Ml;simp[ZBM hg,unnm]
 have tp:tidy G (.ok (.tup [.bl jU,.int b]) (G++[.exc "NoLevel" [("place",.int b)]]++[.exc "NoLevel" [("place",.int b)]]))=.ok (.tup [.bl jU,.int b]) G:=by rw[List.append_assoc];exact Jq (by simp)
 unfold O6 Wb;rw[Bq];simp[t1,t2,Bg];simpa using tp
theorem Ye{a b c d e f g k m:Option D}{G:DH}:∀(xs:List D)(x:Option D),(∀d∈xs,∃i,d=.int i)->∃y,Bp (gV 9) Mf xs [a,b,c,d,e,f,g,k,m,x] G=.nx [a,b,c,d,e,f,g,k,m,y] G
 |[],x,_=>⟨x,by rw[Ga]⟩
 |z::xs,x,hd=>by
  obtain⟨i,rfl⟩:=hd z (by simp);obtain⟨y,ih⟩:=Ye (a:=a) (b:=b) (c:=c) (d:=d) (e:=e) (f:=f) (g:=g) (k:=k) (m:=m) (G:=G) xs (jS (.int i)) λd hd'=>hd d (by simp[hd'])
  refine⟨y,?_⟩;have hb:Mf [a,b,c,d,e,f,g,k,m,jS (.int i)] G=.nx [a,b,c,d,e,f,g,k,m,jS (.int i)] G:=by unfold Mf;simp[Fb,tyD,Ty.sub]
  rw[Ed];simp[hb,ih]
theorem Z3{a b c d e f g k:Option D}{G:DH}:∀(rs:List D)(x y:Option D),(∀r∈rs,∃xs,r=.tup xs/\∀d∈xs,∃i,d=.int i)->∃x' y',Bp (gV 8) Ny rs [a,b,c,d,e,f,g,k,x,y] G=.nx [a,b,c,d,e,f,g,k,x',y'] G
 |[],x,y,_=>⟨x,y,by rw[Ga]⟩
 |r::rs,x,y,hr=>by
  obtain⟨xs,rfl,hx⟩:=hr r (by simp);obtain⟨y1,h1⟩:=Ye (a:=a) (b:=b) (c:=c) (d:=d) (e:=e) (f:=f) (g:=g) (k:=k) (m:=jS (.tup xs)) (G:=G) xs y hx;obtain⟨x',y',ih⟩:=Z3 (a:=a) (b:=b) (c:=c) (d:=d) (e:=e) (f:=f) (g:=g) (k:=k) (G:=G) rs (jS (.tup xs)) y1 λr h=>hr r (by simp[h])
  refine⟨x',y',?_⟩;have hb:Ny [a,b,c,d,e,f,g,k,jS (.tup xs),y] G=.nx [a,b,c,d,e,f,g,k,jS (.tup xs),y1] G:=by unfold Ny;simp[h1]
  rw[Ed];simp[hb,ih]
theorem ZBw(hl:ns.length<=63)(G:DH):Gu [.fl (ns.map D.int)] G=.ok (.bl jU) G:=by
 obtain⟨f,hf⟩:=cells hl;obtain⟨u,hu1,cu⟩:=ZEQ hf;have hu:0<u:=by lia
 obtain⟨yr,hyr,cy⟩:=ZCx hf;obtain⟨h,ht,ch⟩:=ZDY hf hyr cy hu cu;have g:=ht.good;have hn:=g.len;have cl:=ZAb hf hu cu g;have good:∀j,j<h.n->((0<=lev h f u j/\lev h f u j<=mo h j)↔¬3<f (6+12*h.n+j)%6):=λj hj=>ZBJ hu (Vl g hj)
 cases e:bad (λj=>f (6+12*h.n+j)) h.n with
 |some b=>
  obtain⟨b1,b2,b3⟩:=Rn e;have cs:=ZC8 hn b1 (L:=lev h f u) (λz=>(good b b1).mp z b2) (λj hj=>(good j (by lia)).mpr (b3 j hj));have cr:=ZEC cs;rw[e]at cl;generalize tab h.n (lev h f u)=TL at cl cr;unfold Gu Pz Ut R6;rw[Bq];simp[ch,cl,Dm,Nk,cr,Fb,tyD,Ty.sub,Bs]
 | none=>
  have cs:=ZEl hn (L:=lev h f u) (λj hj=>(good j hj).mpr (Rn.bad_none e j hj));rw[e]at cl;have hc:∀S G,Ck (gV 0) Dc Ng S h.Cv G=.ok (zQ h.n Z5) G:=λS G=>by have:=Qf (te:=Ng) (S:=S) (G:=G) (v:=Z5) (λS'=>by unfold Ng;simp[Bg]) h.Cv;rwa[Hs.Gx]at this
  have hl':(zQ h.n Z5).length<=1000000:=by rw[zP];lia
  have hin:∀d∈tab h.n (lev h f u),∃i,d=.int i:=λd hd=>by obtain⟨i,_,rfl⟩:=List.mem_map.mp hd;exact⟨_,rfl⟩
  have okE:okD 30 (.tup [.tup (tab h.n (lev h f u)),.tup (zQ h.n Z5)])=jU:=Up (n:=29) λd hd=>by
   simp only[zw,List.not_mem_nil,or_false]at hd;rcases hd with rfl|rfl
   ·refine Up (n:=28) λd hd=>?_
    obtain⟨i,rfl⟩:=hin d hd
    rfl
   ·refine Up (n:=28) λd hd=>?_
    rw[(List.mem_replicate.mp hd).2]
    rfl
  have rr:∀r∈D.tup (tab h.n (lev h f u))::zQ h.n Z5,∃xs,r=.tup xs/\∀d∈xs,∃i,d=.int i:=λr hr=>by
   rcases zw.mp hr with rfl|hr
   ·exact⟨_,rfl,hin⟩
   ·exact⟨_,(List.mem_replicate.mp hr).2,λd hd=>by simp at hd;exact⟨0,hd⟩⟩
  have fz:∀G:DH,freeze G (.ok (.ref G.length) (G++[.lst (zQ h.n Z5)]))=.ok (.fl (zQ h.n Z5)) G:=λG=>Gq U5
  have hz:(zQ h.n Z5).length+1<=1000000:=by rw[zP];lia
  generalize tab h.n (lev h f u)=TL at cl cs okE rr;generalize zQ h.n Z5=ZL at cs okE rr hc hl' fz hz;have en:=ZEd (G:=G) okE;have i0:An (.tup [.tup TL,.tup ZL]) (.int 0) G=.ok (.tup TL) G:=by simp
  have i1:An (.tup [.tup TL,.tup ZL]) (.int 1) G=.ok (.tup ZL) G:=by simp
  have il:Cp [.tup [.tup TL,.tup ZL]] G=.ok (.int 2) G:=by simp
  have ii:Fb [.tup [.tup TL,.tup ZL],.ty "tuple"] G=.ok (.bl jU) G:=by simp[Fb,tyD,Ty.sub]
  generalize hE:D.tup [.tup TL,.tup ZL]=EE at cs en i0 i1 il ii;obtain⟨x',y',hL⟩:=Z3 (a:=jS (.fl (ns.map D.int))) (b:=jS h.enc) (c:=jS (.tup TL)) (d:=jS .non) (e:=jT) (f:=jT) (g:=jS EE) (k:=jS EE) (G:=G) (.tup TL::ZL) jT jT rr;unfold Gu Pz Ut R6 Vp Vk V0 Zk Xm;rw[Bq];have hz':1+ZL.length<=1000000:=by lia
  simp[ch,cl,Dm,Nk,cs,Ii,hc,Ay,hl',fz,Bg,hE,ii,il,en,i0,i1,hz',hL,Bs]
theorem holds:Holds:=λns hl=>⟨[],ZBw hl []⟩
end Law
namespace Law
open PySem L2 DL
seal QE QT QA QS QSs QG QGs QI QTs QW QO
structure Txt (K:PySem.W.Frag) (mg:Str->Option jZ):Prop where
 Hy:FT K mg "_law_amount" T3 Qa
 O7:FT K mg "_law_off" R8 Pj
 Ls:FT K mg "_law_tape" Pu U8
 Cu:FT K mg "_law_cell_at" T9 Py
 Mi:FT K mg "_law_pumped" Rj Tn
 Pg:FT K mg "_law_steps" Uh Qe
 La:FT K mg "_law_year" U3 S6
 Oo:FT K mg "_law_rule" Kz Qd
 J9:FT K mg "_law_unit" Uz R4
 Np:FT K mg "_law_basin" Oz Tu
 Ms:FT K mg "_law_name" Uy Ri
 Oc:FT K mg "_law_house" Pb Th
 Nh:FT K mg "_law_levels" Rg R9
 Lx:FT K mg "_law_other" Qs Q8
 Jx:FT K mg "start" Ow Rp
 Oe:FT K mg "_law_refused" Um Rt
 Lj:FT K mg "law" Ec Tv
 ZET:mg "ValueError"=jT
 Yl:mg "bool"=jT
 ZBd:mg "enumerate"=jT
 Vu:mg "int"=jT
 Gm:mg "isinstance"=jT
 Eu:mg "len"=jT
 ZBl:mg "max"=jT
 ZAZ:mg "min"=jT
 Hl:mg "range"=jT
 Gn:mg "tuple"=jT
 Pq:mg "BRIM"=jS (.int 4 (Gd K "BRIM"))
 S9:mg "KIND"=jS (.int 0 (Gd K "KIND"))
 R1:mg "PLACES"=jS (.int 1 (Gd K "PLACES"))
 Oi:MT K "NoLevel" "__init__" "NoLevel.__init__" Tc ["self","place"]
 Ds:ET K mg "NoLevel" "place"
 Qy:XBase K mg "WaterError" (Af K "WaterError")
 Sd:mg "NoAsk"=jS (.ref (Af K "NoAsk"))
 Uc:mg "NoBounds"=jS (.ref (Af K "NoBounds"))
 Rk:mg "NoHouse"=jS (.ref (Af K "NoHouse"))
 N7:mg "NoLevel"=jS (.ref (Af K "NoLevel"))
 T7:mg "NoName"=jS (.ref (Af K "NoName"))
 Tg:mg "NoNumber"=jS (.ref (Af K "NoNumber"))
 Ua:mg "NoPump"=jS (.ref (Af K "NoPump"))
 Sq:mg "NoRiver"=jS (.ref (Af K "NoRiver"))
 Ql:mg "NoRow"=jS (.ref (Af K "NoRow"))
 Tf:mg "NoRule"=jS (.ref (Af K "NoRule"))
 Ud:mg "NoText"=jS (.ref (Af K "NoText"))
 Pr:mg "NoWay"=jS (.ref (Af K "NoWay"))
 R7:mg "TooLong"=jS (.ref (Af K "TooLong"))
 Sx:mg "WaterError"=jS (.ref (Af K "WaterError"))
 Rx:takes K (Af K "NoLevel") (Af K "NoLevel")=jU
 Ro:takes K (Af K "NoLevel") (Af K "WaterError")=jU
 Qp:Dh (PySem.W.kitOne K (.ref (Af K "NoLevel")) (.ref (Af K "NoLevel"))) jU=jU
 Su:Dh (PySem.W.kitOne K (.ref (Af K "NoLevel")) (.type "ValueError")) jU=jU
 Q0:Dh (PySem.W.kitAny K (.ref (Af K "NoLevel")) ((["NoAsk","NoBounds","NoHouse","NoName","NoNumber","NoPump"]:List Str).map λw=>Value.ref (Af K w))) xQ=jU
 Qo:Dh (PySem.W.kitAny K (.ref (Af K "NoLevel")) ((["NoRiver","NoRow","NoRule","NoText","NoWay","TooLong"]:List Str).map λw=>Value.ref (Af K w))) xQ=jU
 Rr:TupI K mg "NOTHING_ON_ITS_WAY" [0,0,0,0,0]
section
variable{P:qS}{w:jJ}{K:PySem.W.Frag}{mg:Str->Option jZ}{base:Heap}
theorem ZEF(T:Txt K mg):FnOk P w K mg base CX0 1 (Cj K (Af K "NoLevel") "__init__") (Bl K (Cj K (Af K "NoLevel") "__init__")) ["self","place"] (spI (Af K "NoLevel") "place"):=
 ZBP (k:=0) T.Oi.F ZBn T.Ds.X T.Qy rfl (by decide +kernel) (by decide +kernel) rfl rfl rfl rfl (.inl rfl) (.inl rfl) (λ_=>⟨_,rfl⟩)
theorem Nx(T:Txt K mg):FnO P w K mg base 1 "_law_amount" Qa Hq:=by
 refine Dt T.Hy.F ZE7 λcdv A outer s H E hr=>?_
 exact(Am (Bu (Ae Ar (Ae Cd (Aa 1) (Ae Ax (Aa 0) Ab)) (Ae Ax (Ae Bo (Aa 0) Ab) (Aa 1)))))
theorem ZAy(T:Txt K mg):FnO P w K mg base 1 "_law_off" Pj Kg:=by
 refine Dt T.O7.F Lk λcdv A outer s H E hr=>?_
 exact(Aj (Br (Zt U9 H9 Ab (Aa 0) (Ae Jf Ab Ab)) (Aj (Ak 0 Lk.nd (Ae Ax (Ae Ar (Ae Ar (Aa 0) (Ae Cd Ab (Aa 1))) Ab) Ab)) (Aj (Ak 0 Lk.nd (Ae Ax (Ae Cd (Aa 0) (Aa 0)) Ab)) (Am (Bu (Ae Ax (Ae Cd (Aa 0) (Ae Ar (Aa 0) (Aa 1))) Ab))))) Bv) (Aj (Fx PassesOwn.never rfl (Hf rfl T.Hl (Ad (Aa 1) Ah)) (Ci 2 Lk.nd) (Am (Ak 0 Lk.nd (Ae Bo (Aa 0) (Ae Jf Ab Ab))))) (Am (Bu (Ae Ax (Aa 0) (Ae Jf Ab Ab))))))
theorem X5(T:Txt K mg):FnO P w K mg base 1 "_law_tape" U8 Ho:=by
 refine Dt T.Ls.F ZEa λcdv A outer s H E hr=>?_
 exact(Am (Bu (Ie (Jl K3 (Cq Es rfl T.Eu Eo (Ad (Aa 0) Ah)) Ab (nomark _)) (K8 (ZFL (Jl H9 (Bd Bc (Aa 0) Ab) Ab (nomark _)) (K8 (Jl o_ge (Bd Bc (Aa 0) Ab) (Ae Jf Ab Ab) (nomark _))))))))
theorem Dn(T:Txt K mg):FnO P w K mg base 2 "_law_cell_at" Py Az:=by
 refine Dt T.Cu.F Lq λcdv A outer s H E hr=>?_
 exact(Aj (Br (Hj (Bf (X5 T) T.Ls hr (Ad (Aa 0) Ah))) (Aj (Ak 2 Lq.nd Ab) (Aj (Br (Bt H9 (Ae Ar Ab (Ae Bo (Aa 1) Ab)) (Cq Es rfl T.Eu Eo (Ad (Aa 0) Ah)) (nomark _)) (Am (Ak 2 Lq.nd (Bd Bc (Aa 0) (Ae Ar Ab (Ae Bo (Aa 1) Ab))))) Bv) (Am (Bu (Bf (ZAy T) T.O7 hr (Ad (Aa 2) (Ad (Ae Ax (Aa 1) Ab) Ah))))))) Bv) (Aj (Br (Bt H9 (Aa 1) (Cq Es rfl T.Eu Eo (Ad (Aa 0) Ah)) (nomark _)) (Am (Bu (Bd Bc (Aa 0) (Aa 1)))) Bv) (Aj (Ak 2 Lq.nd (Ae Ax (Ae Cd Ab (Ae Ar (Ae Cd (Aa 1) (Aa 1)) (Ae Cd Ab (Cq Es rfl T.Eu Eo (Ad (Aa 0) Ah))))) Ab)) (Aj (Br (Bt K3 (Cq Es rfl T.Eu Eo (Ad (Aa 0) Ah)) Ab (nomark _)) (Am (Ak 2 Lq.nd (Ae Ar (Aa 2) (Ae Ax (Ae Cd (Bd Bc (Aa 0) (Ae Ax (Aa 1) (Cq Es rfl T.Eu Eo (Ad (Aa 0) Ah)))) Ab) Ab)))) Bv) (Am (Bu (Aa 2)))))))
theorem ZBa(T:Txt K mg):FnO P w K mg base 1 "_law_pumped" Tn Mu:=by
 refine Dt T.Mi.F Jj λcdv A outer s H E hr=>?_
 exact(Aj (Ak 1 Jj.nd Ab) (Aj (Fx PassesOwn.never rfl (K4 (Aa 0)) (Lw rfl (G6 (Ci 2 Jj.nd) (G6 (Ci 3 Jj.nd) (G6 (Ci 4 Jj.nd) Nt)))) (Am (Br (Bt (Dp hr.units) (Aa 4) Fe (nomark _)) (Am (Ak 1 Jj.nd (Ae Ar (Aa 1) (Aa 3)))) Bv))) (Am (Bu (Aa 1)))))
theorem ZCl(T:Txt K mg):FnO P w K mg base 1 "_law_steps" Qe Mx:=by
 refine Dt T.Pg.F G9 λcdv A outer s H E hr=>?_
 exact(Aj (Ak 3 G9.nd (Ox (Hh Ah))) (Aj (Ak 4 G9.nd Ab) (Aj (Fx PassesOwn.never rfl (Hf rfl T.Hl (Ad (Ae Ax (Bd Bc (Aa 0) Ab) Ab) Ah)) (Ci 5 G9.nd) (Aj (Ak 4 G9.nd (Ae Ar (Aa 4) (Ae Cd (Aa 1) (Ae Ax (Bd Bc (Aa 0) (Ae Ar Ab (Aa 5))) Ab)))) (Aj (Ak 6 G9.nd (Ae Ar Ab (Ae Cd (Aa 1) (Ae Ax (Ae Bo (Bd Bc (Aa 0) (Ae Ar Ab (Aa 5))) Ab) Ab)))) (Aj (Ak 7 G9.nd Fe) (Aj (Br (Hx (My (Hj (Aa 2)) (Oj (Bt (Dp hr.units) (Ae Ax (Ae Bo (Bd Bc (Aa 0) (Ae Ar Ab (Aa 5))) Ab) Ab) Ab (nomark _))))) (Am (Ak 7 G9.nd Fe)) Bv) (Aj (Jz (J6 PySem.F.slot_list_append PySem.F.type_list_append Je (Aa 3) (Ad (Dq (Ad (Aa 4) (Ad (Aa 6) (Ad (Aa 7) Ah)))) Ah))) (Am (Ak 4 G9.nd (Ae Ar (Aa 4) (Aa 6)))))))))) (Am (Bu (Hz Hr rfl T.Gn Hb (Ad (Aa 3) Ah)))))))
theorem Yu(T:Txt K mg):FnO P w K mg base 3 "_law_year" S6 Fl:=by
 refine Dt T.La.F Xa λcdv A outer s H E hr=>?_
 exact(Aj (Ak 1 Xa.nd (Bf (Dn T) T.Cu hr (Ad (Aa 0) (Ad Ab Ah)))) (Aj (Br (Bt (Dp hr.units) (Ae Ax (Ae Bo (Aa 1) Ab) Ab) Ab (nomark _)) (Am (Bu (Ae Ar Ab (Ae Ax (Ae Bo (Aa 1) Ab) Ab)))) Bv) (Am (Bu (Ae Ar Ab (Ae Ax (Aa 1) Ab))))))
theorem ZEI(T:Txt K mg):FnO P w K mg base 4 "_law_rule" Qd Ob:=by
 refine Dt T.Oo.F Fo λcdv A outer s H E hr=>?_
 exact(Aj (Ak 4 Fo.nd (Bf (Yu T) T.La hr (Ad (Aa 0) Ah))) (Aj (Ak 5 Fo.nd (Ox (Hh Ah))) (Aj (Ak 6 Fo.nd Ab) (Aj (Fx PassesOwn.never rfl (Hf rfl T.Hl (Ad Ab Ah)) (Ci 7 Fo.nd) (Aj (Ak 8 Fo.nd (Ae Ax (Ae Cd (Ae Cd (Bf (Dn T) T.Cu hr (Ad (Aa 0) (Ad (Ae Ar (Aa 1) Ab) Ah))) Ab) (Ae Ar (Ae Cd (Aa 7) (Aa 7)) Ab)) Ab)) (Aj (S7 (Uv 9 rfl Fo.nd (Jc (dn:=(Ao Kz).names) (N0:=Mq) (N:=["_law_k","_law_script","_law_b","_law_j"]) (nt:=1) (caps:=[0,1,7])) (Hf rfl T.Hl (Ad Ab Ah)) (λC s₀ H₀ ex=>(Ci 0 (show(["_law_k","_law_script","_law_b","_law_j"]:List Str).Nodup by decide +kernel))) (Jo (by decide)) (λC s₀ H₀ ex=>J1) (λC s₀ H₀ ex=>(Ae Bo (Bf (Dn T) T.Cu hr (Ad (Aa 1) (Ad (Ae Ar (Ae Ar (Aa 2) Ab) (Ae Ax (Ae Ar (Ae Cd Ab (Aa 3)) (Aa 0)) Ab)) Ah))) (Ae Ar Ab (Ae Cd Ab (Ae Bo (Aa 3) Ab))))))) (Aj (Br (Hj (Bf (X5 T) T.Ls hr (Ad (Aa 0) Ah))) (Aj (Ak 8 Fo.nd (Ae Bo (Bf (Dn T) T.Cu hr (Ad (Aa 0) (Ad (Ae Ar (Aa 1) Ab) Ah))) (Bd Bc (Ez (Hh (Ad Ab (Ad Ab (Ad Ab (Ad Ab Ah)))))) (Aa 7)))) (Am (S7 (Uv 9 rfl Fo.nd (Jc (dn:=(Ao Kz).names) (N0:=Mq) (N:=["_law_k","_law_script","_law_b","_law_j"]) (nt:=1) (caps:=[0,1,7])) (Hf rfl T.Hl (Ad Ab Ah)) (λC s₀ H₀ ex=>(Ci 0 (show(["_law_k","_law_script","_law_b","_law_j"]:List Str).Nodup by decide +kernel))) (Jo (by decide)) (λC s₀ H₀ ex=>J1) (λC s₀ H₀ ex=>(Ae Bo (Bf (Dn T) T.Cu hr (Ad (Aa 1) (Ad (Ae Ar (Ae Ar (Aa 2) Ab) (Aa 0)) Ah))) (Bd Bc (Ez (Hh (Ad Ab (Ad Ab (Ad Ab (Ad Ab Ah)))))) (Aa 3)))))))) Bv) (Am (Br (Hx (Ni (Bt (Dp hr.units) (Aa 7) Ab (nomark _)) (Ry (Hx (My (Bt (Dp hr.units) (Ae Ax (Aa 8) Ab) Ab (nomark _)) (Oj (Bt H9 (Ae Ar (Aa 6) Ab) (Aa 4) (nomark _)))))))) (Aj (Br (Bt K3 (Aa 7) Ab (nomark _)) (Am (Ak 6 Fo.nd (Ae Ar (Ae Ar (Aa 6) Ab) (Ae Ax (Ae Bo (Aa 8) Ab) (Ae Gb (Ae Gb (Aa 4) (Aa 6)) Ab))))) Bv) (Am (Jz (J6 PySem.F.slot_list_append PySem.F.type_list_append Je (Aa 5) (Ad (Dq (Ad (Aa 6) (Ad (Bf (ZCl T) T.Pg hr (Ad (Aa 9) (Ad (Aa 2) (Ad (Aa 3) Ah)))) Ah))) Ah))))) Bv)))))) (Am (Bu (Hz Hr rfl T.Gn Hb (Ad (Aa 5) Ah))))))))
theorem U0(T:Txt K mg):FnO P w K mg base 3 "_law_unit" R4 Et:=by
 refine Dt T.J9.F ZEp λcdv A outer s H E hr=>?_
 exact(Am (Bu (Bd Bc (Ez (Hh (Ad Ab (Ad Ab (Ad (Ae Jf Ab Ab) Ah))))) (Ae Ax (Ae Bo (Bf (Dn T) T.Cu hr (Ad (Aa 0) (Ad Ab Ah))) Ab) Ab))))
theorem ZB9(T:Txt K mg):FnO P w K mg base 5 "_law_basin" Tu Lp:=by
 refine Dt T.Np.F Fq λcdv A outer s H E hr=>?_
 exact(Aj (Ak 5 Fq.nd (Ez (Bf (U0 T) T.J9 hr (Ad (Aa 0) Ah)))) (Aj (Ak 6 Fq.nd (Bf (Dn T) T.Cu hr (Ad (Aa 0) (Ad (Ae Ar (Aa 1) Ab) Ah)))) (Aj (Ak 7 Fq.nd (Ie (Jl K3 (Cq Es rfl T.Eu Eo (Ad (Aa 3) Ah)) Ab (nomark _)) (K8 (Jl (Dp hr.units) (Ae Ax (Aa 6) Ab) Ab (nomark _))))) (Aj (Ak 8 Fq.nd (Bf (ZEI T) T.Oo hr (Ad (Aa 0) (Ad (Aa 1) (Ad (Aa 5) (Ad (Aa 7) Ah)))))) (Aj (Ak 9 Fq.nd Ln) (Aj (Br (Hj (Aa 7)) (Aj (Ak 10 Fq.nd (Ae Ar (Cq (ZEJ rfl) rfl T.ZBl ZFP (Ad (Ez (Ra rfl (Jc (dn:=(Ao Oz).names) (N0:=Ti) (N:=["_law_season"]) (nt:=1) (caps:=[])) (K4 (Aa 8)) (λC s₀ H₀ ex=>(Ci 0 (show(["_law_season"]:List Str).Nodup by decide +kernel))) (Jo (by decide)) (λC s₀ H₀ ex=>J1) (λC s₀ H₀ ex=>(Bf (ZBa T) T.Mi hr (Ad (Bd Bc (Aa 0) Ab) Ah))))) Ah)) (Ae Cd (Aa 5) (Ae Ax (Ae Bo (Aa 6) Ab) Ab)))) (Aj (Ak 11 Fq.nd (Bd Bc (Aa 3) (Ae Ax (Ae Ar (Ae Ar (Aa 2) Ab) (Ae Ax (Ae Bo (Aa 6) Ab) (Ae Gb (Cq Es rfl T.Eu Eo (Ad (Aa 3) Ah)) Ab))) (Cq Es rfl T.Eu Eo (Ad (Aa 3) Ah))))) (Am (Ak 9 Fq.nd (Dq (Ad (Aa 11) (Ad (Ae Ar Ab (Ae Ax (Ae Bo (Aa 6) Ab) Ab)) (Ad (Aa 10) Ah)))))))) Bv) (Aj (Ak 12 Fq.nd (Bf (Nx T) T.Hy hr (Ad (Bf (Dn T) T.Cu hr (Ad (Aa 0) (Ad (Ae Ar (Aa 1) Ab) Ah))) (Ad (Aa 5) Ah)))) (Am (Bu (Dq (Ad Fe (Ad (Bd Bc (Aa 3) (Aa 2)) (Ad (Bd Bc (Aa 4) Ab) (Ad (Bd Bc (Aa 4) Ab) (Ad (Aa 12) (Ad (Aa 8) (Ad (Aa 9) Ah)))))))))))))))))
theorem ZAg(T:Txt K mg):FnO P w K mg base 1 "_law_name" Ri Lz:=by
 refine Dt T.Ms.F Td λcdv A outer s H E hr=>?_
 exact(Aj (Ak 3 Td.nd (Bd Bc Fe (Ae Ax (Ae Bo (Aa 0) Ab) Ab))) (Aj (Br (Hx (My (Bt (Dp hr.units) (Ae Ax (Aa 0) Ab) Ab (nomark _)) (Oj (Bt H9 (Aa 2) Ab (nomark _))))) (Am (Bu (Ae Cd (Aa 3) (Ae Ar (Aa 1) Ab)))) Bv) (Aj (Ak 4 Td.nd (Bd Bc Fe (Ae Ax (Ae Ar (Ae Cd Ab (Aa 1)) (Ae Bo (Aa 0) Ab)) Ab))) (Aj (Br (Bt (Dp hr.units) (Ae Ax (Aa 0) Ab) Ab (nomark _)) (Am (Bu (Ae Ar (Aa 4) (Ae Cd (Aa 3) (Ae Ax (Ae Bo (Aa 0) Ab) Ab))))) Bv) (Am (Bu (Ae Ar (Ae Ar (Ae Cd (Aa 3) (Ae Ax (Ae Bo (Aa 0) Ab) Ab)) (Aa 4)) (Ae Cd (Aa 3) (Ae Gb Ab (Ae Ax (Ae Bo (Aa 0) Ab) Ab))))))))))
theorem ZDu(T:Txt K mg):FnO P w K mg base 6 "_law_house" Th Mw:=by
 refine Dt T.Oc.F Do λcdv A outer s H E hr=>?_
 exact(Aj (Ak 1 Do.nd (Bf (Dn T) T.Cu hr (Ad (Aa 0) (Ad Ab Ah)))) (Aj (Ak 2 Do.nd (Ae Ar Ab (Ae Ax (Aa 1) Ab))) (Aj (Br (Bt (Dp hr.units) (Ae Ax (Ae Bo (Aa 1) Ab) Ab) Ab (nomark _)) (Am (Ak 2 Do.nd (Ae Ar Ab (Ae Ax (Ae Bo (Aa 1) Ab) Ab)))) Bv) (Aj (S7 (Uv 3 rfl Do.nd (Jc (dn:=(Ao Pb).names) (N0:=T5) (N:=["_law_k","_law_script","_law_many"]) (nt:=1) (caps:=[0,2])) (Hf rfl T.Hl (Ad (Aa 2) Ah)) (λC s₀ H₀ ex=>(Ci 0 (show(["_law_k","_law_script","_law_many"]:List Str).Nodup by decide +kernel))) (Jo (by decide)) (λC s₀ H₀ ex=>J1) (λC s₀ H₀ ex=>(Bf (ZAg T) T.Ms hr (Ad (Bf (Dn T) T.Cu hr (Ad (Aa 1) (Ad Ab Ah))) (Ad (Aa 0) (Ad (Aa 2) Ah))))))) (Aj (Ak 5 Do.nd (Ox (Hh Ah))) (Aj (Fx PassesOwn.never rfl (Hf rfl T.Hl (Ad (Aa 2) Ah)) (Ci 4 Do.nd) (Aj (Ak 6 Do.nd (Ae Ar Ab (Ae Cd Ab (Aa 4)))) (Aj (Ak 7 Do.nd (Ae Ax (Bf (Dn T) T.Cu hr (Ad (Aa 0) (Ad (Ae Ar (Aa 6) Ab) Ah))) (Ae Gb (Aa 2) (Aa 4)))) (Aj (Br (Bt (Dp hr.units) (Ae Ax (Ae Bo (Aa 1) Ab) Ab) Ab (nomark _)) (Am (Ak 7 Do.nd (Cq (ZDJ rfl) rfl T.ZAZ ZAf (Ad Ab (Ad (Ae Gb (Ae Gb (Aa 2) Ab) (Aa 4)) Ah))))) Bv) (Aj (Ak 8 Do.nd (Bf (Dn T) T.Cu hr (Ad (Aa 0) (Ad (Ae Ar (Aa 6) Ab) Ah)))) (Aj (Ak 9 Do.nd (Dq (Ad Fe (Ad (Ae Cd (Ae Ax (Aa 8) Ab) (Ae Ax (Ae Bo (Aa 8) Ab) Ab)) Ah)))) (Aj (Br (Bt K3 (Aa 7) Ab (nomark _)) (Am (Ak 9 Do.nd (Dq (Ad (Bd Bc (Aa 3) (Ae Ar (Aa 4) (Aa 7))) (Ad (Bd Bc (Aa 9) Ab) Ah))))) Bv) (Aj (Ak 10 Do.nd (Ae Ax (Bf (Dn T) T.Cu hr (Ad (Aa 0) (Ad (Aa 6) Ah))) Ab)) (Aj (Ak 11 Do.nd (Bf (Nx T) T.Hy hr (Ad (Bf (Dn T) T.Cu hr (Ad (Aa 0) (Ad (Ae Ar (Aa 6) Ab) Ah))) (Ad (Ez (Bf (U0 T) T.J9 hr (Ad (Aa 0) Ah))) Ah)))) (Aj (Ak 12 Do.nd (Ae Ax (Bf (Dn T) T.Cu hr (Ad (Aa 0) (Ad (Ae Ar (Aa 6) Ab) Ah))) (Bd Bc (Ez (Hh (Ad Ab (Ad (Ae Jf Ab Ab) Ah)))) (Ae Ax (Ae Bo (Aa 1) Ab) Ab)))) (Am (Br (Bt H9 (Aa 10) Ab (nomark _)) (Am (Jz (J6 PySem.F.slot_list_append PySem.F.type_list_append Je (Aa 5) (Ad (Ez (Bf (ZB9 T) T.Np hr (Ad (Aa 0) (Ad (Aa 6) (Ad (Aa 4) (Ad (Aa 3) (Ad (Aa 9) Ah))))))) Ah)))) (Am (Br (Bt H9 (Aa 10) Ab (nomark _)) (Am (Jz (J6 PySem.F.slot_list_append PySem.F.type_list_append Je (Aa 5) (Ad (Dq (Ad Fe (Ad (Bd Bc (Aa 3) (Aa 4)) (Ad (Bd Bc (Aa 9) Ab) (Ad (Bd Bc (Aa 9) Ab) (Ad (Aa 11) (Ad (Aa 12) Ah))))))) Ah)))) (Am (Jz (J6 PySem.F.slot_list_append PySem.F.type_list_append Je (Aa 5) (Ad (Dq (Ad Fe (Ad (Bd Bc (Aa 3) (Aa 4)) (Ad (Bd Bc (Aa 9) Ab) (Ad (Bd Bc (Aa 9) Ab) (Ad (Aa 11) Ah)))))) Ah)))))))))))))))))) (Am (Bu (Dq (Ad (Bf (Yu T) T.La hr (Ad (Aa 0) Ah)) (Ad (Hz Hr rfl T.Gn Hb (Ad (Aa 5) Ah)) Ah)))))))))))
theorem ZA1(T:Txt K mg):FnO P w K mg base 4 "_law_levels" R9 P0:=by
 refine Dt T.Nh.F Em λcdv A outer s H E hr=>?_
 exact(Aj (Ak 2 Em.nd (Ez (Bf (U0 T) T.J9 hr (Ad (Aa 0) Ah)))) (Aj (Ak 3 Em.nd (Ox (Hh Ah))) (Aj (Ak 4 Em.nd Ln) (Aj (Fx PassesOwn.never rfl (Hf rfl T.Hl (Ad (Cq Es rfl T.Eu Eo (Ad (Bd Bc (Aa 1) Ab) Ah)) Ah)) (Ci 5 Em.nd) (Aj (Ak 6 Em.nd (Bf (Dn T) T.Cu hr (Ad (Aa 0) (Ad (Ae Ar (Ae Ar Ab (Ae Cd Ab (Cq Es rfl T.Eu Eo (Ad (Bd Bc (Aa 1) Ab) Ah)))) (Aa 5)) Ah)))) (Aj (Ak 7 Em.nd Ab) (Aj (Br (Bt (Dp hr.units) (Bd Bc (Bd Bc (Bd Bc (Aa 1) Ab) (Aa 5)) Ab) Fe (nomark _)) (Am (Ak 7 Em.nd (Bd Bc (Bd Bc (Bd Bc (Aa 1) Ab) (Aa 5)) Ab))) Bv) (Aj (Ak 8 Em.nd (Ae Ax (Bf (Nx T) T.Hy hr (Ad (Ae Bo (Aa 6) Ab) (Ad (Aa 2) Ah))) (Ae Ar (Aa 7) Ab))) (Aj (Br (Bt (Dp hr.units) (Ae Ax (Aa 6) Ab) Ab (nomark _)) (Am (Ak 8 Em.nd (Ae Gb (Ae Gb Ab Ab) (Aa 8)))) Bv) (Aj (Br (Bt (Dp hr.units) (Ae Ax (Aa 6) Ab) Ab (nomark _)) (Am (Ak 8 Em.nd (Ae Ar (Ae Ar (Aa 7) Ab) (Bf (Nx T) T.Hy hr (Ad (Ae Bo (Aa 6) Ab) (Ad (Aa 2) Ah)))))) Bv) (Aj (Br (Hx (My (Bt K3 (Ae Ax (Aa 6) Ab) Ab (nomark _)) (Oj (Bt o_is (Aa 4) Ln (nomark _))))) (Am (Ak 4 Em.nd (Aa 5))) Bv) (Am (Jz (J6 PySem.F.slot_list_append PySem.F.type_list_append Je (Aa 3) (Ad (Aa 8) Ah)))))))))))) (Am (Bu (Dq (Ad (Hz Hr rfl T.Gn Hb (Ad (Aa 3) Ah)) (Ad (Aa 4) Ah)))))))))
theorem ZFM(T:Txt K mg):FnH P w K mg base 1 "_law_other" Q8 N6:=by
 refine ZAh T.Lx.F ZB5 λcdv A outer s H E hr=>?_
 exact(Aj (Br (Hj (W9 T.Ds.N T.Ds.G T.Gm (Ep T.Sd (Ep T.Uc (Ep T.Rk (Ep T.T7 (Ep T.Tg (Ep T.Ua ZAC)))))) T.Q0 (Aa 0))) (Am (Bu Ky)) Bv) (Am (Bu (W9 T.Ds.N T.Ds.G T.Gm (Ep T.Sq (Ep T.Ql (Ep T.Tf (Ep T.Ud (Ep T.Pr (Ep T.R7 ZAC)))))) T.Qo (Aa 0)))))
theorem Qj(T:Txt K mg):FnX P w K mg base 3 "start" Rp Fd:=by
 refine ZDQ T.Jx.F Nf λcdv A outer s H E hr=>?_
 exact(Aj (Fx ownX rfl (ZCt rfl T.ZBd (Ad (Bd Bc (Aa 0) (M8 (v:=(.int 1)) rfl T.R1 ⟨_,rfl⟩ (λ_ _=>rfl))) Ah)) (Lw rfl (G6 (Ci 2 Nf.nd) (G6 (Ci 3 Nf.nd) Nt))) (Aj (Ak 4 Nf.nd (ZAE (Bt (Dp hr.units) (Bd Bc (Aa 3) (M8 (v:=(.int 0)) rfl T.S9 ⟨_,rfl⟩ (λ_ _=>rfl))) Fe (nomark _)) (Bd Bc (Aa 3) (M8 (v:=(.int 4)) rfl T.Pq ⟨_,rfl⟩ (λ_ _=>rfl))) Ab)) (Am (Br (Qc (Zt U9 U9 Ab (Bd Bc (Aa 1) (Aa 2)) (Aa 4))) (Am (ZDU T.Ds (ZEF T) T.Oi.b hr (Ad (Aa 2) Ah))) Bv)))) (Am (Bu (Dq (Ad (Hz Hr rfl T.Gn Hb (Ad (Aa 1) Ah)) (Ad (Hz Hr rfl T.Gn Hb (Ad (Ez (ZEc (Ra rfl (Jc (dn:=(Ao Ow).names) (N0:=Tr) (N:=["level"]) (nt:=1) (caps:=[])) (K4 (Aa 1)) (λC s₀ H₀ ex=>(Ci 0 (show(["level"]:List Str).Nodup by decide +kernel))) (Jo (by decide)) (λC s₀ H₀ ex=>J1) (λC s₀ H₀ ex=>(ZDE (ss:=[0,0,0,0,0]) rfl T.Rr))))) Ah)) Ah))))))
theorem ZAR(T:Txt K mg):FnO P w K mg base 4 "_law_refused" Rt O6:=by
 refine Dt T.Oe.F Ik λcdv A outer s H E hr=>?_
 exact(Aj (Ak 2 Ik.nd Ln) (Aj (Ak 3 Ik.nd Ky) (Aj (Y8 T.Ds.N T.Ro T.Sx (Qj T) T.Jx hr (Ad (Aa 0) (Ad (Aa 1) Ah)) Ik.nd (λea hr=>(Am (Ak 3 Ik.nd (Ie (ZEv T.Ds.N T.Ds.G T.Gm T.N7 T.Qp (Aa 4)) (Ie (ZES T.Ds.N T.Ds.G T.Gm T.ZET (by decide +kernel) T.Su (Aa 4)) (K8 (Z7 (ZDh (ZFM T) T.Lx hr (Ad (Aa 4) Ah)))))))))) (Aj (Y8 T.Ds.N T.Rx T.N7 (Qj T) T.Jx hr (Ad (Aa 0) (Ad (Aa 1) Ah)) Ik.nd (λea hr=>(Am (Ak 2 Ik.nd (ZC9 T.Ds (Aa 4)))))) (Am (Bu (Dq (Ad (Aa 3) (Ad (Aa 2) Ah)))))))))
theorem ZCE(T:Txt K mg):FnO P w K mg base 7 "law" Tv Gu:=by
 refine Dt T.Lj.F Fg λcdv A outer s H E hr=>?_
 exact(Aj (Ak 1 Fg.nd (Bf (ZDu T) T.Oc hr (Ad (Aa 0) Ah))) (Aj (Xf (Bf (ZA1 T) T.Nh hr (Ad (Aa 0) (Ad (Aa 1) Ah))) (Lw rfl (G6 (Ci 2 Fg.nd) (G6 (Ci 3 Fg.nd) Nt)))) (Aj (Br (Bt ZAO (Aa 3) Ln (nomark _)) (Aj (Xf (Bf (ZAR T) T.Oe hr (Ad (Aa 1) (Ad (Aa 2) Ah))) (Lw rfl (G6 (Ci 4 Fg.nd) (G6 (Ci 5 Fg.nd) Nt)))) (Am (Bu (Ie (Aa 4) (Ie (Cq Ks rfl T.Gm Iu (Ad (Aa 5) (Ad (Li rfl T.Vu X6) Ah))) (Ie (Z7 (Cq Ks rfl T.Gm Iu (Ad (Aa 5) (Ad (Li rfl T.Yl Zq) Ah)))) (K8 (Jl (Dp hr.units) (Aa 5) (Aa 3) (nomark _))))))))) Bv) (Aj (Ak 6 Fg.nd (ZB6 (Qj T) T.Jx hr (Ad (Aa 1) (Ad (Aa 2) Ah)))) (Aj (Ak 7 Fg.nd (Dq (Ad (Aa 2) (Ad (Hz Hr rfl T.Gn Hb (Ad (Ez (Ra rfl (Jc (dn:=(Ao Ec).names) (N0:=Qn) (N:=["_law_place"]) (nt:=1) (caps:=[])) (K4 (Bd Bc (Aa 1) Ab)) (λC s₀ H₀ ex=>(Ci 0 (show(["_law_place"]:List Str).Nodup by decide +kernel))) (Jo (by decide)) (λC s₀ H₀ ex=>J1) (λC s₀ H₀ ex=>(Dq (Ad Ab (Ad Ab (Ad Ab (Ad Ab (Ad Ab Ah))))))))) Ah)) Ah)))) (Aj (Br (Hx (Ni (Qc (Hj (Cq Ks rfl T.Gm Iu (Ad (Aa 6) (Ad (Li rfl T.Gn Hb) Ah))))) (Ni (Bt (o_ne hr.units) (Cq Es rfl T.Eu Eo (Ad (Aa 6) Ah)) Ab (nomark _)) (Ry (Bt (o_ne hr.units) (Aa 6) (Aa 7) (nomark _)))))) (Am (Bu Ky)) Bv) (Aj (Fx PassesOwn.never rfl (K4 (Ae Ar (Dq (Ad (Bd Bc (Aa 6) Ab) Ah)) (Bd Bc (Aa 6) Ab))) (Ci 8 Fg.nd) (Am (Fx PassesOwn.never rfl (K4 (Aa 8)) (Ci 9 Fg.nd) (Am (Br (Hx (Ni (Qc (Hj (Cq Ks rfl T.Gm Iu (Ad (Aa 9) (Ad (Li rfl T.Vu X6) Ah))))) (Ry (Hj (Cq Ks rfl T.Gm Iu (Ad (Aa 9) (Ad (Li rfl T.Yl Zq) Ah))))))) (Am (Bu Ky)) Bv))))) (Am (Bu Ky)))))))))
end
def asks:List Ask:=[.fn "_law_amount" T3,.fn "_law_off" R8,.fn "_law_tape" Pu,.fn "_law_cell_at" T9,.fn "_law_pumped" Rj,.fn "_law_steps" Uh,.fn "_law_year" U3,.fn "_law_rule" Kz,.fn "_law_unit" Uz,.fn "_law_basin" Oz,.fn "_law_name" Uy,.fn "_law_house" Pb,.fn "_law_levels" Rg,.fn "_law_other" Qs,.fn "start" Ow,.fn "_law_refused" Um,.fn "law" Ec,.z "ValueError",.z "bool",.z "enumerate",.z "int",.z "isinstance",.z "len",.z "max",.z "min",.z "range",.z "tuple",.gi "BRIM" 4,.gi "KIND" 0,.gi "PLACES" 1,.mt "NoLevel" "__init__" "NoLevel.__init__" Tc,.ck (Uq "NoLevel" "place"),.ck (Sh "WaterError"),.ck (λK=>gOk K "NoAsk"),.ck (λK=>gOk K "NoBounds"),.ck (λK=>gOk K "NoHouse"),.ck (λK=>gOk K "NoLevel"),.ck (λK=>gOk K "NoName"),.ck (λK=>gOk K "NoNumber"),.ck (λK=>gOk K "NoPump"),.ck (λK=>gOk K "NoRiver"),.ck (λK=>gOk K "NoRow"),.ck (λK=>gOk K "NoRule"),.ck (λK=>gOk K "NoText"),.ck (λK=>gOk K "NoWay"),.ck (λK=>gOk K "TooLong"),.ck (λK=>gOk K "WaterError"),.ck (λK=>takes K (Af K "NoLevel") (Af K "NoLevel")),.ck (λK=>takes K (Af K "NoLevel") (Af K "WaterError")),.ck (λK=>Dh (PySem.W.kitOne K (.ref (Af K "NoLevel")) (.ref (Af K "NoLevel"))) jU),.ck (λK=>Dh (PySem.W.kitOne K (.ref (Af K "NoLevel")) (.type "ValueError")) jU),.ck (λK=>Dh (PySem.W.kitAny K (.ref (Af K "NoLevel")) ((["NoAsk","NoBounds","NoHouse","NoName","NoNumber","NoPump"]:List Str).map λw=>Value.ref (Af K w))) xQ),.ck (λK=>Dh (PySem.W.kitAny K (.ref (Af K "NoLevel")) ((["NoRiver","NoRow","NoRule","NoText","NoWay","TooLong"]:List Str).map λw=>Value.ref (Af K w))) xQ),.ck (Rv "NOTHING_ON_ITS_WAY" [0,0,0,0,0])]
theorem all_mk{l:PySem.W.OpenLaw}{w:jJ}{K:PySem.W.Frag}{h:Heap}{mg:Str->Option jZ}{fa:qM}(X:K.In h)(G:h.Ns j4 mg)(hfa:mg "law"=jS (.ref fa))(S:AllSaid K asks):
  ∃fd:qP,(∀(s:qU)(v:jZ),BindsTo s fd ⟨[v],[]⟩ [("_law_script",v)])/\∀base:Heap,K.In base->base.Ns j4 mg->FnOk l.prog w K mg base CX0 7 fa fd ["_law_script"] (lF K Gu):=by
 obtain⟨Hy,O7,Ls,Cu,Mi,Pg,La,Oo,J9,Np,Ms,Oc,Nh,Lx,Jx,Oe,Lj,ZFR,ZFS,ZFT,ZFU,ZFV,ZFW,ZFX,ZFY,ZFZ,ZFa,Pq,S9,R1,Oi,Ds,Qy,Sd,Uc,Rk,N7,T7,Tg,Ua,Sq,Ql,Tf,Ud,Pr,R7,Sx,Rx,Ro,Qp,Su,Q0,Qo,Rr,_⟩:=S
 have T:Txt K mg:=⟨De X G Hy (λ_ _ _ _ _ _ us hl=>match us,hl with |[_,_],_=>rfl),
  De X G O7 (λ_ _ _ _ _ _ us hl=>match us,hl with |[_,_],_=>rfl),
  De X G Ls (λ_ _ _ _ _ _ us hl=>match us,hl with |[_],_=>rfl),
  De X G Cu (λ_ _ _ _ _ _ us hl=>match us,hl with |[_,_],_=>rfl),
  De X G Mi (λ_ _ _ _ _ _ us hl=>match us,hl with |[_],_=>rfl),
  De X G Pg (λ_ _ _ _ _ _ us hl=>match us,hl with |[_,_,_],_=>rfl),
  De X G La (λ_ _ _ _ _ _ us hl=>match us,hl with |[_],_=>rfl),
  De X G Oo (λ_ _ _ _ _ _ us hl=>match us,hl with |[_,_,_,_],_=>rfl),
  De X G J9 (λ_ _ _ _ _ _ us hl=>match us,hl with |[_],_=>rfl),
  De X G Np (λ_ _ _ _ _ _ us hl=>match us,hl with |[_,_,_,_,_],_=>rfl),
  De X G Ms (λ_ _ _ _ _ _ us hl=>match us,hl with |[_,_,_],_=>rfl),
  De X G Oc (λ_ _ _ _ _ _ us hl=>match us,hl with |[_],_=>rfl),
  De X G Nh (λ_ _ _ _ _ _ us hl=>match us,hl with |[_,_],_=>rfl),
  De X G Lx (λ_ _ _ _ _ _ us hl=>match us,hl with |[_],_=>rfl),
  De X G Jx (λ_ _ _ _ _ _ us hl=>match us,hl with |[_,_],_=>rfl),
  De X G Oe (λ_ _ _ _ _ _ us hl=>match us,hl with |[_,_],_=>rfl),
  De X G Lj (λ_ _ _ _ _ _ us hl=>match us,hl with |[_],_=>rfl),
  PySem.W.mg_none_of X G ZFR,
  PySem.W.mg_none_of X G ZFS,
  PySem.W.mg_none_of X G ZFT,
  PySem.W.mg_none_of X G ZFU,
  PySem.W.mg_none_of X G ZFV,
  PySem.W.mg_none_of X G ZFW,
  PySem.W.mg_none_of X G ZFX,
  PySem.W.mg_none_of X G ZFY,
  PySem.W.mg_none_of X G ZFZ,
  PySem.W.mg_none_of X G ZFa,
  PySem.W.mg_of X G Pq,
  PySem.W.mg_of X G S9,
  PySem.W.mg_of X G R1,
  ZDP Oi (λ_ _ _ _ _ _ us hl=>match us,hl with |[_,_],_=>rfl),
  ZCF X G Ds,
  ZAu X G Qy,
  Dy X G Sd,
  Dy X G Uc,
  Dy X G Rk,
  Dy X G N7,
  Dy X G T7,
  Dy X G Tg,
  Dy X G Ua,
  Dy X G Sq,
  Dy X G Ql,
  Dy X G Tf,
  Dy X G Ud,
  Dy X G Pr,
  Dy X G R7,
  Dy X G Sx,
  Rx,
  Ro,
  Qp,
  Su,
  Q0,
  Qo,
  ZD9 X G Rr⟩
 have eL:mg "law"=jS (.ref (Af K "law")):=PySem.W.mg_of X G Lj.1;obtain rfl:fa=Af K "law":=by rw[hfa]at eL;cases eL;rfl
 exact⟨_,λs v=>ZAw (Kq Lj.2),λbase _ _=>ZCE T⟩
theorem walk{l:PySem.W.OpenLaw}{q:qS}{loose:List Str}{XP:(Str->Option jZ)->Heap->Prop}{YP:jJ->Heap->Prop}{d:DefRec}{K:jJ->PySem.W.Frag}(hn:l.most=jS 63)(hdf:d.params.defaults=[])(HH:Holds)
  (hY:∀(w:jJ)(h:Heap),YP w h->(K w).In h)
  (F:∀(w:jJ)(mg:Str->Option jZ)(fa:qM)(h:Heap),(K w).In h->h.Ns j4 mg->mg d.name=jS (.ref fa)->
   ∃fd:qP,(∀(s:qU)(u:jZ),BindsTo s fd ⟨[u],[]⟩ [("_law_script",u)])/\∀base:Heap,(K w).In base->base.Ns j4 mg->FnOk l.prog w (K w) mg base CX0 7 fa fd ["_law_script"] (lF (K w) Gu)):
  PySem.W.WalkO q loose XP YP l.row.toRowW d [] (λf vs=>PySem.call f vs):=
 L2.ZAK (n:=63) (k:=7) (x:="_law_script") (CX:=λ_=>CX0) (sp:=λw=>lF (K w) Gu) hn (by decide) hdf ⟨rfl,by decide,by decide⟩ hY F
  (λw H a ns hl hO hS=>by
   obtain⟨G,hG⟩:=HH ns hl;refine⟨⟨K w,0,λ_=>0,H⟩,[],[.fl (ns.map D.int)],rfl,rfl,⟨rfl,λi j h=>absurd h (Nat.not_lt_zero _),λi o h=>by simp at h,λi h=>absurd h (Nat.not_lt_zero _)⟩,Reps.cons ⟨a,ns.map V.int,rfl,?_,Reps.ints ns⟩ Reps.nil,?_⟩
   ·rcases hS with(hS|hS)|hS
    ·rcases hO a with z|⟨o,xs,z⟩
     ·rw[z]at hS;cases hS
     ·rw[z]at hS;cases hS
    ·exact .inl hS
    ·exact .inr hS
   ·rw[hG];exact λb v _ _ r=>r) λ_ _ _ _ _ z=>z
end Law
set_option maxRecDepth 100000
namespace Law
open PySem PySem.W L2 DL
abbrev rw_:OpenLaw:=PySem.Challenge.rw_sluiceway_k31_the_start
abbrev pw:qS:=OpenLaw.prog PySem.Challenge.rw_sluiceway_k31_the_start
def vw:qS:=view pw (zG 38)
theorem ZBQ:∀w os,(Uw pw w os).map (λs=>(Ub pw w s.abs,PySem.W.Fast.tw4187177175401517315 vw [] (PySem.W.Fast.tw5923862056798008813 pw.main.body) (XtOf rw_ vw) jU s.abs,Sw asks s.abs.heap))=jS (jU,openGood vw [],Uk asks):=λw os=>by kernel_rfl
theorem Wn:∀w,(openEnds j9 pw w 100000).map (λs=>(openSeen vw [] (jv pw.main.body) (XtOf rw_ vw) jU s,Sw asks s.heap))=jS (openGood vw [],Uk asks):=ZDO (by kernel_rfl) (λs=>rfl) ZBQ
theorem well:rw_.wellSaid=jU:=ZBt (by kernel_rfl)
theorem hdef:defOf vw rw_.row.name=jS (dOf Ec,[]):=by kernel_rfl
theorem hp:rw_.row.prog.theDef rw_.row.name=jS ((dOf Ec).params,(dOf Ec).body,(dOf Ec).scope):=by kernel_rfl
theorem hk:kwWritten? (dOf Ec).params.kwonlyargs (dOf Ec).params.kw_defaults=jS []:=by kernel_rfl
theorem hok:(chainsOk vw&&opensWell rw_.row.prog&&(frees rw_.row.toRowW&&rw_.row.within.isEmpty))=jU:=by kernel_rfl
theorem hdf:(dOf Ec).params.defaults=[]:=by kernel_rfl
theorem hbare:rw_.row.prog.bare:=⟨rfl,rfl,rfl,rfl,rfl,by decide +kernel⟩
theorem hw:rw_.row.toRowW.promised:=by w_witness2
theorem walked:WalkO vw [] (XL vw []) (Stays rw_.prog 100000) rw_.row.toRowW (dOf Ec) [] λf vs=>PySem.call f vs:=
 walk (l:=rw_) (K:=λw=>Lb (Gg pw 100000 w)) rfl hdf holds (λw h Y=>Y.in) λw mg fa h KX G hmg=>all_mk KX G (show mg "law"=_ from hmg) (W7 (ZBu Wn w))
end Law
open PySem PySem.W PyProof.Rows DL
theorem PySem.Challenge.cw_sluiceway_k31_the_start_holds : PySem.Challenge.rw_sluiceway_k31_the_start.Holds := by
 refine holds_top (l:=Law.rw_) (q:=Law.vw) (loose:=[]) (N:=100000) (see:=Sw Law.asks) (val:=Uk Law.asks) (d:=dOf Law.Ec) ?_ ?_ ?_ ?_ ?_ ?_ ?_ ?_ ?_ ?_
 ·exact Law.well
 ·exact Law.Wn
 ·exact Law.hdef
 ·exact Law.hp
 ·exact Law.hk
 ·rfl
 ·exact Law.hok
 ·exact Law.hbare
 ·exact Law.hw
 ·exact Law.walked
